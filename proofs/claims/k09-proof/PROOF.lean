import PyProof.Rows.All
import Wide.All
import OpenK.AllK
import Wide.FinOn
import KE.KLam
import KE.KNestM
import KE.KSortTup
import Lean
import OpenK.KCls
import PyProof.CollectWalk
import PyProof.CompMap
import PyProof.DictStraight
import PyProof.EqAt
import PyProof.EqKinds
import PyProof.ExcArgs
import PyProof.ExcBaseAll.Exception
import PyProof.FactsAll.set
import PyProof.FactsBase
import PyProof.InstStoreFacts
import PyProof.ListRange
import PyProof.LongRange
import PyProof.MakeMany
import PyProof.MinMaxWalk
import PyProof.NeKinds
import PyProof.Rows.SetFrom
import PyProof.Rows.SortWalk
import PyProof.SeqI3
import PyProof.SetKind
import PyProof.SetNew
import PyProof.SetScanFacts
import PyProof.StationsW
import PyProof.TupleCall
import PyProof.WalkInts
import PyProof.Walks
import PySem.Challenge.RW_letterdesk_k09_whole_files
set_option Elab.async false
set_option linter.all false
set_option maxRecDepth 100000
set_option maxHeartbeats 4000000
open Array renaming length_toList → cXS, getElem?_eq_getElem → cX7, getElem?_toList → cZd, getElem?_eq_some_iff → cZ4, getD → cZ9, getElem?_eq_none → cJy, getElem?_extract_of_lt → cVN, getElem?_append_left → cVT, perm_iff_toList_perm → cVU
open False renaming elim → cZb
open ForInStep renaming yield → cVw
open Int renaming toNat_natCast → cQ6, zero_add → cZX, natCast_inj → cVx
open List renaming getElem?_eq_getElem → cQw, length_map → cQB, mem_cons → cQG, mem_cons_of_mem → cQI, range → cQJ, getElem?_eq_some_iff → cQK, mem_singleton → cQL, mem_cons_self → cQM, mem_of_getElem? → cQP, size_toArray → cQQ, getElem?_map → cQR, mem_append_right → cQU, getElem?_append_right → cQX, length_append → cQ0, mem_append → cQ4, mem_range → cQ5, getElem?_eq_none → cXa, map_cons → cXb, getElem?_append_left → cXh, getD → cXk, length_range → cXp, getElem_of_mem → cXq, mem_map → cXr, take_length → cXs, length_filter_le → cXu, take_add_one → cXx, length_cons → cXy, mem_filter → cXA, append_nil → cXC, length_take → cXH, toArray → cXI, append_assoc → cXJ, filter_append → cXK, length_singleton → cXL, length_pos_iff → cXM, map_append → cXU, filter_cons_of_neg → cXY, filter_cons_of_pos → cXZ, pairwise_singleton → cX0, pairwise_cons → cX2, contains_iff_mem → cZe, map_map → cZf, getElem_mem → cZk, mem_append_left → cZl, filter_sublist → cZp, nodup_cons → cZr, getElem_inj → cZs, lookup_cons → cZt, getElem?_range → cZB, length → cZH, length_nil → cZI, ext_getElem? → cZN, any_cons → cZP, eq_nil_of_length_eq_zero → cZQ, filter_eq_self → cZS, getElem?_set_self → cZU, lookup → cZV, contains_cons → cZY, find?_cons → cZ1, range_succ → cZ2, nodup_append → cZ6, pairwise_map → cZ7, pairwise_iff_getElem → cJc, replicate → cJd, not_mem_nil → cJh, filterMap_cons → cJn, map_congr_left → cJo, all_eq_true → cJP, append_inj' → cJQ, getElem?_set_ne → cJR, nodup_range → cJS, all_cons → cJV, filter_congr → cVb, map_id → cVi, cons_append → cVn, countP_cons → cVo, length_drop → cVp, mem_nil_iff → cVq, forIn_cons → cVy, pairwise_append → cVz, toList_toArray → cVL, Perm → cVS, foldl_append → cVX, getElem?_eq_none_iff → cV3, length_erase_of_mem → cV8
open List.Nodup renaming mem_erase_iff → cV7
open Nat renaming le_refl → cQE, ne_of_lt → cQV, lt_of_lt_of_le → cQ1, le_trans → cQ7, zero_le → cXz, lt_succ_of_lt → cXF, lt_irrefl → cXG, sub_self → cXV, lt_succ_self → cX5, le_succ_of_le → cZc, not_lt_zero → cZg, le_succ → cZD, ne_of_gt → cZZ, le_of_eq → cJi, le_of_lt → cJj, lt_or_ge → cJD, mul_le_mul_right → cVA
open Ne renaming symm → cXg
open Option.some renaming inj → cQS, injEq → cVY
open PyProof.Rows renaming seqObj → cXf, envOfC → cZy, IntsAre → cZT, slot_tuple_getitem → cJq, IsTup → cJu, get?_update_seq → cJw, entry_list_sort → cJE, args_list_sort → cJJ, callWith_type1 → cJK, slot_list_sort → cJL, listUpdate_at → cJX, entry_sorted → cVE, plain_sorted → cVH
open PyProof.Rows.F renaming plain_set_update_loop → cZ0, entry_set_update_loop → cJ7
open PyProof.Rows.IntsAre renaming int_at → cJI
open PySem renaming Value → cQx, wpAny_bind → cQy, Shared → cQA, wpAny_pure → cQC, wpAny → cQF, model → cQH, Program → cQT, sizeLine → cQW, sizeLine_eq → cQZ, World → cQ2, mainGlobals → cQ8, starEach → cXe, Around → cXi, bootBuiltins → cXj, Paired → cXn, wpAny_mono → cXD, wpAny_holding → cXP, rawInt → cXR, wpAny_newObj_type → cXT, wpAny_Call_Name_kw → cX4, wpAny_call_entry → cX6, mem_of_lookup → cX9, compareOp → cZa, backTo → cZj, Builtin → cZm, SetTable → cZq, codeAny_mono → cZv, FuncData → cZz, wpAny_truthy_bool → cZA, wpAny_setField → cZG, Scope → cZL, codeAny_builtin → cZM, codeAny → cZO, wpAny_callSpecial?_slot → cZR, keywordEach → cZW, wpAny_passesOwn → cZ3, binaryOp → cZ5, wpAny_setState_of → cZ8, wpAny_askSetting → cJm, wpAny_setEntries_of → cJp, attributeBase → cJr, behindInMarks → cJs, wpAny_newList → cJt, sysModules → cJx, NameKind → cJz, isSubtype → cJM, pickOrder → cJN, setFlight → cJO, backToKw → cJT, wpAny_call → cJU, plainId_quiet → cJY, wpAny_attempt → cJZ, holding → cJ1, sliceBounds → cJ2, valueAt → cJ3, getMethod → cJ8, noteFrame → cJ9, scanBound → cVa, wpAny_pyIter_list → cVg, wpAny_field → cVk, wpAny_standAt → cVl, builtinLookup_eq_fast → cVu, plainObj_wpAny_Assign_Attribute → cVv, assignEach → cVC, codeAny_call_builtin → cVD, isInstance → cVF, letOwnedTupleGo → cVG, wpAny_execs_nil → cVI, wpAny_ite_split → cVJ, wpAny_fieldsOf → cVP, fits_of_scanBound → cV1, foldedSetIterable → cV2, wpAny_comprehension_free → cWa
open PySem.Around renaming under_plainId → cZx
open PySem.Builtin.List renaming listExtendWith → cJH, listTooLong → cJ6, listLengthHint → cVQ, listSameRef → cV6
open PySem.Builtin.Slice renaming slicePlaces → cJa, sliceAdjust → cJ5, sliceApplied → cVV
open PySem.Builtin.Tuple renaming tupleExact → cJg
open PySem.Calls renaming call_function_entry → cJb, Name_function_global → cVW
open PySem.Code renaming quiet_builtin → cVR
open PySem.F renaming plainAttrs_list → cQ3, slot_list_append → cXc, type_list_append → cXd, called_set → cZu, slot_list_pop → cVs, type_list_pop → cVt, excBase_Exception → cV4, plain_extend_loop → cV5, args_tuple_add_2 → cV9
open PySem.Heap renaming get?_push_of_some → cQD, lt_size → cQN, get?_push_size → cQY, get?_update_other → cQ9, get?_update_self → cXE, size_push → cX1, SameBut → cZC, ExtBut → cVh, size_update → cVm, get?_update_ne → cVK
open PySem.Heap.SameBut renaming update → cX8
open PySem.Obj renaming mapSeq → cXm, mapFields → cXO, isFreed_of_fields → cXX, data_mapFields → cX3
open PySem.Paired renaming length → cZE, snoc → cVj
open PySem.PassesOwn renaming never → cXo
open PySem.SeqAt renaming EqAt → cWc
open PySem.SetTable renaming below → cXB, grown → cJf, insertAt → cJC
open PySem.SetTable.below renaming go → cJB
open PySem.SetTable.probe renaming go → cV0
open PySem.Str renaming ofString → cJG
open PySem.Txt renaming mul → cJ0
open PySem.W renaming Frag → cQz, mg_none_of → cQO, findIn → cXl, kitOne → cXt, keepIn → cXv, nsIn → cXw, katRev → cXN, fnOf → cXW, kia_one → cZh, kia_tup → cZi, codeIn → cZn, emptyDict → cZo, mg_of → cZw, CodeHd → cZF, instObj → cZJ, kla_obj → cZK, tabObj → cJe, isFn → cJk, plainGet → cJl, callWith_K → cJv, hasDictIn → cJA, methodCall_KW → cJF, mroIn → cJW, callWith_K0 → cJ4, kitx_dict → cVc, kitx_list → cVd, plainOver → cVe, specialIn → cVf, codeHdIn → cVr, plainGet_of → cVM, lookIn → cVO, methodObj → cVZ, KatTups → cWb
open PySem.W.KatTups renaming cons → cVB
open True renaming intro → cXQ
theorem dk {p:Prop}[Decidable p](h:decide p=true:=by decide +kernel):p:=of_decide_eq_true h
namespace L2
open PySem PySem.Spec PyProof.Rows
abbrev Key:=Sum Int Str
def aKm:Key->cQx->Bool
 |.inl k,v=>Value.isInt k v
 |.inr x,v=>Value.isStrOf x v
def cQj(w:cQ2):Key->Int
 |.inl k=>hashInt k
 |.inr x=>hashStr w x
def zN:∀ {k:Key} {v:cQx},aKm k v=true->(∃i t,k=Sum.inl i/\v=Value.int i t)\/(∃x t,k=Sum.inr x/\v=Value.str x t)
 |.inl i,v,h=>by obtain⟨t,e⟩:=Value.isInt_shape (k:=i) (v:=v) h;exact .inl ⟨i,t,rfl,e⟩
 |.inr x,v,h=>by obtain⟨t,e⟩:=Value.isStrOf_shape (x:=x) (v:=v) h;exact .inr ⟨x,t,rfl,e⟩
def aYW(i:Int)(t:Tok):aKm (.inl i) (.int i t)=true:=by simp[aKm,Value.isInt]
def aYX(x:Str)(t:Tok):aKm (.inr x) (.str x t)=true:=by simp[aKm,Value.isStrOf]
def bKE(a b:Int):decide ((Sum.inl a:Key)=Sum.inl b)=(a==b):=by
 by_cases e:a=b
 ·subst e;simp
 ·have h:¬ (Sum.inl a:Key)=Sum.inl b:=λq=>e (Sum.inl.inj q);rw[decide_eq_false h];exact(beq_eq_false_iff_ne.mpr e).symm
def bKH(a b:Str):decide ((Sum.inr a:Key)=Sum.inr b)=decide (a=b):=by
 by_cases e:a=b
 ·subst e;simp
 ·have h:¬ (Sum.inr a:Key)=Sum.inr b:=λq=>e (Sum.inr.inj q);rw[decide_eq_false h,decide_eq_false e]
def bKF(a:Int)(b:Str):decide ((Sum.inl a:Key)=Sum.inr b)=false:=decide_eq_false (λq=>nomatch q)
def bKG(a:Str)(b:Int):decide ((Sum.inr a:Key)=Sum.inl b)=false:=decide_eq_false (λq=>nomatch q)
def zP(prog:cQT)(w:cQ2):PySem.KeyKind prog w Key where
 is:=aKm
 hash:=cQj w
 inj:=λv a b ha hb=>by
  rcases zN ha with⟨i,t,rfl,rfl⟩|⟨x,t,rfl,rfl⟩
  ·rcases zN hb with⟨j,u,rfl,e⟩|⟨y,u,rfl,e⟩
   ·injection e with e1 _;rw[e1]
   ·exact nomatch e
  ·rcases zN hb with⟨j,u,rfl,e⟩|⟨y,u,rfl,e⟩
   ·exact nomatch e
   ·injection e with e1 _;rw[e1]
 byValue:=λk v h=>by
  rcases zN h with⟨i,t,rfl,rfl⟩|⟨x,t,rfl,rfl⟩<;> rfl
 pyHash:=λhv h=>by
  rcases zN hv with⟨i,t,rfl,rfl⟩|⟨x,t,rfl,rfl⟩
  ·exact wpAny_pyHash_int h
  ·exact wpAny_pyHash_str h
 eqBool:=λhu hv h=>by
  rcases zN hu with⟨i,t,rfl,rfl⟩|⟨x,t,rfl,rfl⟩
  ·rcases zN hv with⟨j,u,rfl,rfl⟩|⟨y,u,rfl,rfl⟩
   ·rw[bKE]at h;exact wpAny_eqBool_int h
   ·rw[bKF]at h;exact SeqAt.EqAt.int_str i t y u _ _ _ _ h
  ·rcases zN hv with⟨j,u,rfl,rfl⟩|⟨y,u,rfl,rfl⟩
   ·rw[bKG]at h;exact SeqAt.EqAt.str_int x t j u _ _ _ _ h
   ·rw[bKH]at h;exact wpAny_eqBool_str h
 «strs»:=λk x t v h=>by
  rcases zN h with⟨i,u,rfl,e⟩|⟨y,u,rfl,e⟩
  ·exact nomatch e
  ·injection e with e1 _
   subst e1
   cases v<;> rfl
def aVp(prog:cQT)(w:cQ2)(i:Int)(t:Tok):(zP prog w).is (.inl i) (.int i t)=true:=aYW i t
def X6(prog:cQT)(w:cQ2)(x:Str)(t:Tok):(zP prog w).is (.inr x) (.str x t)=true:=aYX x t
end L2
namespace L2
open PySem PySem.Spec PyProof.Rows
inductive V where
 |non|bl (b:Bool)|int (i:Int)|str (x:Str)|byt (b:Array UInt8)|flt (b:UInt64)|ref (a:Addr)|ty (n:String)
 deriving DecidableEq
def wE:V->cQx->Prop
 |.non,u=>u=Value.none
 |.bl b,u=>u=Value.bool b
 |.int i,u=>∃t,u=Value.int i t
 |.str x,u=>∃t,u=Value.str x t
 |.byt b,u=>∃t,u=Value.bytes b t
 |.flt b,u=>∃t,u=Value.float b t
 |.ref a,u=>u=Value.ref a
 |.ty n,u=>u=Value.type n
abbrev zD:List V->List cQx->Prop:=cXn wE
def zD.length{xs:List V}{us:List cQx}(r:zD xs us):xs.length=us.length:=cZE r
def zD.get:∀ {xs:List V} {us:List cQx} {i:Nat} {x:V},zD xs us->xs[i]? =some x->∃u,us[i]? =some u/\wE x u
 |_,_,_,_,.nil,e=>by simp at e
 |_,_,0,_,.cons r _,e=>by simp at e;subst e;exact⟨_,rfl,r⟩
 |_,_,i+1,x,.cons _ t,e=>by obtain⟨u,h1,h2⟩:=zD.get (i:=i) (x:=x) t (by simpa using e);exact⟨u,by simpa using h1,h2⟩
def zD.set{x:V}{u:cQx}(r:wE x u):∀ {xs:List V} {us:List cQx} (i:Nat),zD xs us->zD (xs.set i x) (us.set i u)
 |_,_,_,.nil=> .nil
 |_,_,0,.cons _ t=> .cons r t
 |_,_,i+1,.cons q t=> .cons q (zD.set r i t)
def zD.append:∀ {xs ys:List V} {us a:List cQx},zD xs us->zD ys a->zD (xs++ys) (us++a)
 |_,_,_,_,.nil,s=>s
 |_,_,_,_,.cons r t,s=> .cons r (zD.append t s)
def zD.take:∀ {xs:List V} {us:List cQx} (n:Nat),zD xs us->zD (xs.take n) (us.take n)
 |_,_,0,_=> .nil
 |_,_,_+1,.nil=> .nil
 |_,_,n+1,.cons r t=> .cons r (zD.take n t)
def zD.drop:∀ {xs:List V} {us:List cQx} (n:Nat),zD xs us->zD (xs.drop n) (us.drop n)
 |_,_,0,r=>r
 |_,_,_+1,.nil=> .nil
 |_,_,n+1,.cons _ t=>zD.drop n t
def aZ5:Option V->Option cQx->Prop
 |some v,some u=>wE v u
 |none,none=>True
 |_,_=>False
def KV{κ:Type}:List (κ×V)->List (κ×cQx)->Prop:=cXn λ(p:κ×V)(q:κ×cQx)=>p.1=q.1/\wE p.2 q.2
def kV:Key->V
 |.inl i=> .int i
 |.inr x=> .str x
inductive HO where
 |lst (xs:List V)
 |tup (xs:List V)
 |dK (kvs:List (Key×V))|dT (kvs:List (List Key×V))
 |set (S:Int->Bool) (n:Nat)
 |ins (C dx:Addr) (fs:List (Str×V))
 |own (x:Addr)
 |xd (fs:List (Str×V))
 |met (f x:Addr)
 |rng (lo hi:Int)
 |frz (o:Obj) (u:HO)
 |tbl (ps:Array cQx)
 |ext (φ:Heap->Prop)
abbrev Hp:=Addr->Option HO
def upd(H:Hp)(a:Addr)(o:HO):Hp:=λb=>if b=a then some o else H b
def yB{H:Hp}{a:Addr}{o:HO}:upd H a o a=some o:=by unfold upd;rw[if_pos rfl]
def yJ{H:Hp}{a b:Addr}{o:HO}(h:b≠a):upd H a o b=H b:=by unfold upd;rw[if_neg h]
def qM{H:Hp}{a:Addr}{o u:HO}:upd (upd H a o) a u=upd H a u:=by
 funext b;unfold upd;split<;> rfl
def aXU{H:Hp}{a b:Addr}{o u:HO}(h:H a=some o)(h':H b=some u)(d:o≠u):a≠b:=by
 intro e;subst e;rw[h]at h';exact d (cQS h')
def yI{H:Hp}{a b:Addr}{o:HO}(h:H a=some o)(h':H b=none):a≠b:=by
 intro e;subst e;rw[h]at h';cases h'
section
variable (P:cQT)(w:cQ2)
def zQ(H:Hp)(h:Heap)(a:Addr):HO->Prop
 |.lst xs=>xs.length<=cQW/\∃ (b:List cQx)(n:Nat),zD xs b/\h.get? a=some {cls:= .type "list",data:= .seq b.toArray n}
 |.tup xs=>xs.length<=cQW/\∃b:List cQx,zD xs b/\cJu h a b.toArray
 |.dK c=>c.length<=cQW/\(a==cJx)=false/\∃d,KV c d/\h.DictOf (zP P w) a d
 |.dT c=>c.length<=cQW/\(a==cJx)=false/\∃xs:List (List Key×Addr×cQx),
   cXn (λ(p:List Key×V)(q:List Key×Addr×cQx)=>p.1=q.1/\H q.2.1=some (.tup (p.1.map kV))/\wE p.2 q.2.2) c xs/\
   ∃o es e,h.get? a=some o/\o.ExactDict/\o.data= .dict es e/\es.toList=xs.map (entryOfKey (tupleKind (zP P w)))/\(xs.map (·.1)).Nodup
 |.set S n=>h.SetOf (intKind P w) a S n
 |.ins C dx fs=>H dx=some (.own a)/\fs.length<=1000/\dx≠a/\h.get? a=some (cZJ C dx)/\
   ∃mA,h.Ns1 dx mA/\(∀f,aZ5 (fs.lookup f) (mA f))/\PySem.Within mA (fs.map (·.1))
 |.own _=>∃o,h.get? a=some o
 |.xd fs=>∃mA,h.Ns1 a mA/\∀f,aZ5 (fs.lookup f) (mA f)
 |.rng lo hi=>∃t u v,h.get? a=some {cls:= .type "range",data:= .fields #[.int lo t,.int hi u,.int 1 v] }
 |.frz o u=>h.get? a=some o/\zQ H h a u
 |.tbl ps=>h.get? a=some {cls:= .none,data:= .fields ps}
 |.met f x=>h.get? a=some (cVZ (.ref f) (.ref x))
 |.ext φ=>φ h/\(∃o,h.get? a=some o)/\∀h1 h2:Heap,φ h1->(∀o,h1.get? a=some o->h2.get? a=some o)->φ h2
def HOk(H:Hp)(h:Heap):Prop:=∀a o,H a=some o->zQ P w H h a o
end
section
variable {P:cQT}{w:cQ2}{H H':Hp}{h h':Heap}{a:Addr}{o:HO}
def zQ.lt(x:zQ P w H h a o):a<h.objs.size:=by
 cases o with
 |lst xs=>obtain⟨_,_,_,_,e⟩:=x;exact cQN e
 |tup xs=>obtain⟨_,_,_,p⟩:=x;exact p.lt
 |dK b=>obtain⟨_,_,_,_,o,_,_,e,_⟩:=x;exact cQN e
 |dT b=>obtain⟨_,_,_,_,o,_,_,e,_⟩:=x;exact cQN e
 |set S n=>obtain⟨o,_,_,_,e,_⟩:=x;exact cQN e
 |ins C dx fs=>obtain⟨_,_,_,e,_⟩:=x;exact cQN e
 |own y=>obtain⟨_,e⟩:=x;exact cQN e
 |xd fs=>obtain⟨_,⟨_,_,_,e,_⟩,_⟩:=x;exact cQN e
 |rng lo hi=>obtain⟨_,_,_,e⟩:=x;exact cQN e
 |frz c u=>obtain⟨e,_⟩:=x;exact cQN e
 |tbl ps=>exact cQN (show h.get? a=some _ from x)
 |met f y=>exact cQN (show h.get? a=some _ from x)
 |ext φ=>obtain⟨_,⟨_,e⟩,_⟩:=x;exact cQN e
def Paired.mapP{α β:Type}{F G:α->β->Prop}:∀ {c:List α} {d:List β},cXn F c d->(∀a b,F a b->G a b)->cXn G c d
 |_,_,.nil,_=> .nil
 |_,_,.cons r t,f=> .cons (f _ _ r) (Paired.mapP t f)
def zQ.stay(x:zQ P w H h a o)(k:∀b u,(b=a\/H b=some (.own a))->h.get? b=some u->h'.get? b=some u) (s:∀b,H b=some (.own a)->H' b=some (.own a)) (B:∀b xs,H b=some (.tup xs)->H' b=some (.tup xs)):zQ P w H' h' a o:=by
 induction o with
 |lst xs=>obtain⟨z,j,n,r,e⟩:=x;exact⟨z,j,n,r,k _ _ (.inl rfl) e⟩
 |tup xs=>obtain⟨z,j,r,g,e,c⟩:=x;exact⟨z,j,r,g,k _ _ (.inl rfl) e,c⟩
 |dK m=>obtain⟨z,y,E,r,g,es,i,e,c⟩:=x;exact⟨z,y,E,r,g,es,i,k _ _ (.inl rfl) e,c⟩
 |dT m=>obtain⟨z,y,xs,r,g,es,i,e,c⟩:=x;exact⟨z,y,xs,Paired.mapP r λp q z=>⟨z.1,B _ _ z.2.1,z.2.2⟩,g,es,i,k _ _ (.inl rfl) e,c⟩
 |set S n=>obtain⟨g,es,i,t,e,c⟩:=x;exact⟨g,es,i,t,k _ _ (.inl rfl) e,c⟩
 |ins C dx fs=>obtain⟨d,z,ne,e,mA,⟨l,es,i,A,c⟩,r⟩:=x;exact⟨s _ d,z,ne,k _ _ (.inl rfl) e,mA,⟨l,es,i,k _ _ (.inr d) A,c⟩,r⟩
 |own y=>obtain⟨g,e⟩:=x;exact⟨g,k _ _ (.inl rfl) e⟩
 |xd fs=>obtain⟨mA,⟨l,es,i,e,c⟩,r⟩:=x;exact⟨mA,⟨l,es,i,k _ _ (.inl rfl) e,c⟩,r⟩
 |rng lo hi=>obtain⟨t,u,v,e⟩:=x;exact⟨t,u,v,k _ _ (.inl rfl) e⟩
 |frz g u D=>obtain⟨e,q⟩:=x;exact⟨k _ _ (.inl rfl) e,D q⟩
 |tbl ps=>have e:h.get? a=some {cls:= .none,data:= .fields ps}:=x;show h'.get? a=some {cls:= .none,data:= .fields ps};exact k a _ (.inl rfl) e
 |met f y=>have e:h.get? a=some (cVZ (.ref f) (.ref y)):=x;show h'.get? a=some (cVZ (.ref f) (.ref y));exact k a _ (.inl rfl) e
 |ext φ=>obtain⟨p,⟨o,e⟩,st⟩:=x;exact⟨st _ _ p λo q=>k _ _ (.inl rfl) q,⟨o,k _ _ (.inl rfl) e⟩,st⟩
def HOk.lt(x:HOk P w H h)(e:H a=some o):a<h.objs.size:=(x a o e).lt
def HOk.fresh(x:HOk P w H h)(e:h.objs.size<=a):H a=none:=by
 cases q:H a with
 |none=>rfl
 |some u=>exact absurd (cQ1 (x.lt q) e) (cXG _)
def HOk.kept(x:HOk P w H h)(k:∀b u,h.get? b=some u->h'.get? b=some u):HOk P w H h':=λa o e=>
 (x a o e).stay (λb u _ q=>k b u q) (λ_ q=>q) λ_ _ q=>q
def HOk.laid(x:HOk P w H h)(k:∀b u,h.get? b=some u->h'.get? b=some u)(i:h.objs.size<=a)(d:zQ P w (upd H a o) h' a o):HOk P w (upd H a o) h':=λb u e=>by
 have g:=x.fresh i;by_cases f:b=a
 ·subst f;rw[yB]at e;cases e;exact d
 ·rw[yJ f]at e;exact(x b u e).stay (λc v _ q=>k c v q) (λc q=>by rw[yJ (yI q g)];exact q) λc xs q=>by rw[yJ (yI q g)];exact q
end
def Rd(H:Hp)(a:Addr)(u:HO):Prop:=H a=some u\/∃o,H a=some (.frz o u)
def Rd.ok{P:cQT}{w:cQ2}{H:Hp}{h:Heap}{a:Addr}{u:HO}(r:Rd H a u)(x:HOk P w H h):zQ P w H h a u:=by
 rcases r with r|⟨o,r⟩
 ·exact x a u r
 ·obtain⟨_,q⟩:=x a _ r;exact q
def Mut:Option HO->Prop
 |some (.lst _)=>True
 |some (.dK _)=>True
 |some (.dT _)=>True
 |some (.set _ _)=>True
 |some (.ins _ _ _)=>True
 |some (.ext _)=>True
 |_=>False
section
variable {P:cQT}{w:cQ2}{H:Hp}{h h':Heap}{x e:Addr}{o':HO}
def HOk.write(ok:HOk P w H h)(j:Mut (H x))(n:e=x\/H e=some (.own x))(k:∀b u,b≠e->h.get? b=some u->h'.get? b=some u)(m:∃u,h'.get? e=some u)
  (l:zQ P w (upd H x o') h' x o'):HOk P w (upd H x o') h':=λb u q=>by
 have d:∀c y,H c=some (.own y)->c≠x:=λc y r z=>by subst z;rw[r]at j;exact j
 have f:∀c xs,H c=some (.tup xs)->c≠x:=λc xs r z=>by subst z;rw[r]at j;exact j
 by_cases i:b=x
 ·subst i;rw[yB]at q;cases q;exact l
 ·rw[yJ i]at q;by_cases a:b=e
  ·have o:H b=some (.own x):=by
    rcases n with z|z
    ·exact absurd (a.trans z) i
    ·rw[a];exact z
   rw[q]at o;cases o;obtain⟨v,p⟩:=m;exact⟨v,by rw[a];exact p⟩
  ·refine(ok b u q).stay (λc v g r=>k c v ?_ r) (λc r=>by rw[yJ (d c b r)];exact r) λc xs r=>by rw[yJ (f c xs r)];exact r
   rcases g with rfl|g
   ·exact a
   ·rintro rfl;rcases n with z|z
    ·exact d c b g z
    ·rw[g]at z;cases z;exact i rfl
end
structure Un(fs ex:List Addr)(H H':Hp)(h h':Heap):Prop where
 keep:∀b o,h.get? b=some o->H b=none->b∉fs->b∉ex->h'.get? b=some o
 slot:∀b o,h.get? b=some o->H b=none->b∈fs->b∉ex->∃sl,h'.get? b=some {o with slots:=sl}
 free:∀b o,h.get? b=some o->H b=none->b∉ex->H' b=none
 there:∀b o,h.get? b=some o->b∉ex->∃o',h'.get? b=some o'
 tups:∀b xs,H b=some (.tup xs)->H' b=some (.tup xs)
 frzs:∀b o u,H b=some (.frz o u)->H' b=some (.frz o u)
 tbls:∀b ps,H b=some (.tbl ps)->∃more,H' b=some (.tbl (ps++more))
section
variable {fs fs' ex ex':List Addr}{H H1 H2:Hp}{h h1 h2 h':Heap}{a x e:Addr}{o:HO}
def Un.any(u:Un fs ex H H1 h h1){b:Addr}{a:Obj}(q:h.get? b=some a)(n:H b=none)(d:b∉ex):∃e,h1.get? b=some {a with slots:=e}:=by
 by_cases c:b∈fs
 ·exact u.slot b a q n c d
 ·exact⟨a.slots,u.keep b a q n c d⟩
def Un.kept(k:∀b u,h.get? b=some u->h'.get? b=some u):Un fs ex H H h h':=
 ⟨λb a q _ _ _=>k b a q,λb a q _ _ _=>⟨a.slots,k b a q⟩,λ_ _ _ n _=>n,λb a q _=>⟨a,k b a q⟩,λ_ _ q=>q,λ_ _ _ q=>q,λ_ ps q=>⟨#[],by rw[q];simp⟩⟩
def Un.refl:Un fs ex H H h h:=Un.kept λ_ _ q=>q
def Un.laid(k:∀b u,h.get? b=some u->h'.get? b=some u)(hp:h.objs.size<=a)(hn:H a=none):Un fs ex H (upd H a o) h h' where
 keep:=λb u q _ _ _=>k b u q
 slot:=λb u q _ _ _=>⟨u.slots,k b u q⟩
 free:=λb u q n _=>by rw[yJ (cQV (cQ1 (cQN q) hp))];exact n
 there:=λb u q _=>⟨u,k b u q⟩
 tups:=λb xs q=>by rw[yJ (yI q hn)];exact q
 frzs:=λb u xs q=>by rw[yJ (yI q hn)];exact q
 tbls:=λb ps q=>⟨#[],by rw[yJ (yI q hn),q];simp⟩
def Un.write(c:Mut (H x))(j:e=x\/H e=some (.own x))(k:∀b u,b≠e->h.get? b=some u->h'.get? b=some u)(d:∃u,h'.get? e=some u):Un fs ex H (upd H x o) h h':=by
 have i:∀b,H b=none->b≠x:=λb n z=>by subst z;rw[n]at c;exact c
 have g:∀b,H b=none->b≠e:=λb n z=>by
  subst z;rcases j with r|r
  ·exact i b n r
  ·rw[n]at r;cases r
 have f:∀b u,H b=some u->¬Mut (some u)->b≠x:=λb u q nm z=>by subst z;rw[q]at c;exact nm c
 refine⟨λb u q n _ _=>k b u (g b n) q,λb u q n _ _=>⟨u.slots,k b u (g b n) q⟩,λb u q n _=>by rw[yJ (i b n)];exact n,λb u q _=>?_,
  λb xs q=>by rw[yJ (f b _ q λz=>z)];exact q,λb u xs q=>by rw[yJ (f b _ q λz=>z)];exact q,λb ps q=>⟨#[],by rw[yJ (f b _ q λz=>z),q];simp⟩⟩
 by_cases a:b=e
 ·subst a;exact d
 ·exact⟨u,k b u a q⟩
end
def trk(h:Heap)(H:Hp):List Addr:=(cQJ h.objs.size).filter λa=>(H a).isSome
def aYP(h:Heap)(H:Hp):Heap:=PySem.W.hideAll h (trk h H)
def aYQ(h:Heap)(H:Hp):(aYP h H).objs.size=h.objs.size:=PySem.W.hideAll_size _ _
def bZh{h:Heap}{H:Hp}{b:Addr}{o:Obj}(e:h.get? b=some o)(n:H b=none):(aYP h H).get? b=some o:=
 PySem.W.hideAll_get _ e λa=>by have q:(H b).isSome=true:=(cXA.mp a).2;rw[n]at q;simp at q
def bV8{h:Heap}{H:Hp}{b:Addr}{o:Obj}(e:(aYP h H).get? b=some o):h.get? b=some o/\H b=none:=by
 have a:h.get? b=some o:=PySem.W.of_hideAll (trk h H) e;refine⟨a,?_⟩;cases q:H b with
 |none=>rfl
 |some x=>have c:b∈trk h H:=cXA.mpr ⟨cQ5.mpr (cQN a),by simp[q]⟩;have z:(aYP h H).get? b=none:=PySem.W.hideAll_none (trk h H) c;rw[z]at e;cases e
def bVC(g h:Heap)(L:Addr):List (Addr×Obj):=(cQJ h.objs.size).filterMap λa=>if a=L\/(g.get? a).isSome=true then none else(h.get? a).map λo=>(a,o)
def X8(g h:Heap)(L d:Addr):List (Addr×Obj):=(bVC g h L).filter λp=>decide (p.1≠d)
end L2
namespace L2
open PySem PySem.Spec PyProof.Rows
structure Mod(K:cQz)(mg:Str->Option cQx)(base:Heap):Prop where
 kin:K.In base
 glob:base.Ns cQ8 mg
 blt:∃mb,base.Ns builtinsNs mb/\∀x:Str,x≠"__name__"->mb x=cXj x
 nolimit:base.NoLimit
structure Cx where
 prog:cQT
 w:cQ2
 K:cQz
 mg:Str->Option cQx
 base:Heap
 A:cXi
 N:List Str
 s₀:cQA
 H₀:Hp
 env:Env
 outer:List Env
 stack:List Env
 ex:List Addr
 fn:Str->Bool
 calm:Bool
 pn:List (Addr×Obj)
 xe:cQx->cQA->Prop
def frs(l:List Env):List Addr:=l.filterMap (·.frame)
abbrev Cx.fs(X:Cx):List Addr:=frs X.outer
def Vis(a:cZL)(x:Str):Prop:=a.names.lookup x=some .local\/a.names.lookup x=some .cell\/a.names.lookup x=some .free
def Loc(a:cZL)(x:Str):Prop:=a.names.lookup x=some .local\/a.names.lookup x=some .cell
def cQe(env:Env)(h:Heap)(m:Str->Option cQx)(x:Str)(u:cQx):Prop:=
 (env.kindOf x=some .local/\m x=some u)\/((env.kindOf x=some .cell\/env.kindOf x=some .free)/\∃c,env.cells.lookup x=some c/\h.IsCell c (some u))
structure Cx.Ok(X:Cx):Prop where
 mod:Mod X.K X.mg X.base
 kind:X.env.scope.kind= .function
 glob:X.env.globals=cQ8
 blt:X.env.builtins=builtinsNs
 above:X.s₀.heap.objs.size<=X.env.locals
 inj:∀x y c,X.env.cells.lookup x=some c->X.env.cells.lookup y=some c->x=y
 has:∀x,(X.env.kindOf x=some .cell\/X.env.kindOf x=some .free)->∃c,X.env.cells.lookup x=some c
 cab:∀x c,X.fn x=true->X.env.cells.lookup x=some c->X.s₀.heap.objs.size<=c
 hd:X.calm=true->X.A.handled=none
 frames:X.A.frames=some X.stack
 stk:X.stack=X.outer\/(X.stack=X.env::X.outer/\X.env.frame=some X.env.locals)
 exf:∀b∈X.ex,b≠X.env.locals/\∀x c,X.env.cells.lookup x=some c->c≠b
 bs:∀b o,X.base.get? b=some o->X.s₀.heap.get? b=some o/\X.H₀ b=none
 bsz:X.base.objs.size<=X.s₀.heap.objs.size
 noex:∀b o,X.base.get? b=some o->b∉X.ex
 exfs:∀b∈X.ex,b∉X.fs
 funs:X.s₀.heap.FunFrames X.base X.outer
 frf:∀b∈X.fs,X.H₀ b=none
structure Inv(X:Cx)(pins:List (Addr×Obj))(σ:List (Option V))(H:Hp)(s:cQA):Prop where
 ok:X.Ok
 os:s.os=X.s₀.os
 bare:AllBare s.gens
 base:Un X.fs X.ex X.H₀ H X.s₀.heap s.heap
 loc:∃m,s.heap.Ns X.env.locals m/\∀ (i:Nat)(x:Str)(v:V),X.N[i]? =some x->σ[i]? =some (some v)->Vis X.env.scope x->∃u,wE v u/\cQe X.env s.heap m x u
 cell:∀x c,X.env.cells.lookup x=some c->∃v,s.heap.IsCell c v
 free:H X.env.locals=none
 freeC:∀x c,X.env.cells.lookup x=some c->H c=none
 pin:∀p∈X.pn++pins,s.heap.get? p.1=some p.2/\H p.1=none/\p.1≠X.env.locals/\p.1∉X.fs/\∀v,p.2.data≠ .cell v
 hok:HOk X.prog X.w H s.heap
 len:σ.length=X.N.length
section
variable {X:Cx}{pins:List (Addr×Obj)}{σ:List (Option V)}{H H':Hp}{s:cQA}{h':Heap}
def Cx.Ok.nofr(ok:X.Ok){b:Addr}{o:Obj}(e:X.base.get? b=some o):b∉X.fs:=λa=>by
 have:=(ok.funs.mem a).1;rw[e]at this;cases this
def Inv.bs(I:Inv X pins σ H s):∀b o,X.base.get? b=some o->s.heap.get? b=some o/\H b=none:=λb o e=>
 ⟨I.base.keep b o (I.ok.bs b o e).1 (I.ok.bs b o e).2 (I.ok.nofr e) (I.ok.noex b o e),I.base.free b o (I.ok.bs b o e).1 (I.ok.bs b o e).2 (I.ok.noex b o e)⟩
def Inv.bk(I:Inv X pins σ H s):∀b o,X.base.get? b=some o->s.heap.get? b=some o:=λb o e=>(I.bs b o e).1
def Inv.mod(I:Inv X pins σ H s):Mod X.K X.mg X.base:=I.ok.mod
def Inv.kIn(I:Inv X pins σ H s):X.K.In s.heap:=I.ok.mod.kin.keeps I.bk
def Inv.nolimit(I:Inv X pins σ H s):s.heap.NoLimit:=I.ok.mod.nolimit.keeps I.bk
def Inv.lt(I:Inv X pins σ H s):X.env.locals<s.heap.objs.size:=let ⟨_,hn,_⟩:=I.loc;hn.lt
def Inv.sz(I:Inv X pins σ H s):X.s₀.heap.objs.size<=s.heap.objs.size:=cQ7 I.ok.above (cJj I.lt)
def Inv.nofs(I:Inv X pins σ H s){a:Addr}(h:s.heap.objs.size<=a):a∉X.fs:=λc=>by
 obtain⟨_,o,b,_⟩:=I.ok.funs.mem c;exact absurd (cQ1 (cQN b) (cQ7 I.sz h)) (cXG _)
def Inv.cne(I:Inv X pins σ H s):∀x c,X.env.cells.lookup x=some c->c≠X.env.locals:=λx c e z=>by
 obtain⟨v,o,d,f⟩:=I.cell x c e;obtain⟨m,⟨o',es,g,b,a,_⟩,_⟩:=I.loc;rw[z,b]at d;cases d;rw[a]at f;cases f
def Inv.funs(I:Inv X pins σ H s):s.heap.FunFrames X.base X.outer:=by
 have all:∀ (l:List Env),(∀b∈frs l,b∈X.fs)->X.s₀.heap.FunFrames X.base l->s.heap.FunFrames X.base l:=by
  intro l;induction l with
  |nil=>intro _ _;trivial
  |cons env r k=>intro f hl;obtain⟨g,⟨L,o,c,j,h,i⟩,m⟩:=hl;have a:L∈X.fs:=f L (by unfold frs;rw[cJn,c];exact cQM);obtain⟨n,e⟩:=I.base.slot L o h (I.ok.frf L a) a λz=>I.ok.exfs L z a;exact⟨g,⟨L,_,c,j,e,i⟩,k (λb d=>f b (by unfold frs;rw[cJn,c];exact cQI _ d)) m⟩
 exact all X.outer (λ_ d=>d) I.ok.funs
def Inv.stack(I:Inv X pins σ H s):s.heap.FunFrames X.base X.stack:=by
 rcases I.ok.stk with e|⟨e,b⟩
 ·rw[e];exact I.funs
 ·rw[e];obtain⟨m,a,_⟩:=I.loc;refine .cons (by rw[I.ok.kind];decide) b a ?_ I.funs;exact Heap.get?_none_of_le (cQ7 I.ok.bsz I.ok.above)
def Inv.stkSub(I:Inv X pins σ H s):∀b∈frs X.stack,b∈X.env.locals::X.fs:=λb a=>by
 rcases I.ok.stk with e|⟨e,c⟩
 ·rw[e]at a;exact cQI _ a
 ·rw[e]at a;unfold frs at a;rw[cJn,c]at a;exact a
def Inv.stkFree(I:Inv X pins σ H s):∀b∈frs X.stack,H b=none:=λb a=>by
 rcases cQG.mp (I.stkSub b a)with e|a
 ·rw[e];exact I.free
 ·obtain⟨_,o,c,_⟩:=I.ok.funs.mem a;exact I.base.free b o c (I.ok.frf b a) λz=>I.ok.exfs b z a
def Inv.step{g':Array GenState}{t':Nat}{d':Drawn}{ch:List Addr}(I:Inv X pins σ H s) (h:∀b∈ch,(b∈X.ex\/X.s₀.heap.objs.size<=b)/\b≠X.env.locals/\(∀x c,X.env.cells.lookup x=some c->c≠b)/\∀p∈X.pn++pins,p.1≠b) (keep:∀b o,b≠X.env.locals->b∉X.fs->b∉ch->s.heap.get? b=some o->H b=none->h'.get? b=some o) (A:∀b o,b≠X.env.locals->b∈X.fs->b∉ch->s.heap.get? b=some o->H b=none->∃L,h'.get? b=some {o with slots:=L}) (f:∀b o,b∉ch->s.heap.get? b=some o->H b=none->H' b=none) (there:∀b o,b∉ch->s.heap.get? b=some o->∃o',h'.get? b=some o') (F:∀b xs,H b=some (.tup xs)->H' b=some (.tup xs)) (E:∀b o u,H b=some (.frz o u)->H' b=some (.frz o u)) (G:∀b ps,H b=some (.tbl ps)->∃more,H' b=some (.tbl (ps++more))) (R:∀m,s.heap.Ns X.env.locals m->h'.Ns X.env.locals m) (M:HOk X.prog X.w H' h') (S:AllBare g'): Inv X pins σ H' {s with heap:=h',gens:=g',drawn:=d',toks:=t'}:=by
 have J:∀b o,X.s₀.heap.get? b=some o->b≠X.env.locals:=λb o e=>cQV (cQ1 (cQN e) I.ok.above);have t:∀b o,X.s₀.heap.get? b=some o->b∉X.ex->b∉ch:=λb o e a B=>by
  rcases(h b B).1 with z|z
  ·exact a z
  ·exact absurd (cQ1 (cQN e) z) (cXG _)
 have g:∀x c,X.env.cells.lookup x=some c->∀v,s.heap.IsCell c v->h'.IsCell c v:=λx c e v ⟨o,C,K⟩=>by
  have j:c∉ch:=λz=>(h c z).2.2.1 x c e rfl;by_cases O:c∈X.fs
  ·obtain⟨L,q⟩:=A c o (I.cne x c e) O j C (I.freeC x c e);exact⟨_,q,K⟩
  ·exact⟨o,keep c o (I.cne x c e) O j C (I.freeC x c e),K⟩
 refine⟨I.ok,I.os,S,⟨λb o e n B a=>?_,λb o e n B a=>?_,λb o e n a=>?_,λb o e a=>?_,λb xs e=>F b xs (I.base.tups b xs e),λb o xs e=>E b o xs (I.base.frzs b o xs e),λb ps e=>?_⟩,?_,λx c e=>?_,?_,λx c e=>?_,λp Q=>?_,M,I.len⟩
 ·exact keep b o (J b o e) B (t b o e a) (I.base.keep b o e n B a) (I.base.free b o e n a)
 ·obtain⟨L,y⟩:=I.base.slot b o e n B a;obtain⟨N,D⟩:=A b _ (J b o e) B (t b o e a) y (I.base.free b o e n a);exact⟨N,D⟩
 ·obtain⟨o',y⟩:=I.base.there b o e a;exact f b o' (t b o e a) y (I.base.free b o e n a)
 ·obtain⟨o',y⟩:=I.base.there b o e a;exact there b o' (t b o e a) y
 ·obtain⟨T,y⟩:=I.base.tbls b ps e;obtain⟨U,D⟩:=G b _ y;exact⟨T++U,by rw[D,Array.append_assoc]⟩
 ·obtain⟨m,V,hl⟩:=I.loc;refine⟨m,R m V,λi x v y D W=>?_⟩;obtain⟨u,r,l⟩:=hl i x v y D W;refine⟨u,r,?_⟩;rcases l with l|⟨k,c,e,z⟩
  ·exact .inl l
  ·exact .inr ⟨k,c,e,g x c e _ z⟩
 ·obtain⟨v,z⟩:=I.cell x c e;exact⟨v,g x c e v z⟩
 ·obtain⟨m,⟨o,_,_,C,_⟩,_⟩:=I.loc;exact f _ o (λz=>(h _ z).2.1 rfl) C I.free
 ·obtain⟨v,o,C,K⟩:=I.cell x c e;exact f c o (λz=>(h c z).2.2.1 x c e rfl) C (I.freeC x c e)
 ·obtain⟨e,n,ne,P,d⟩:=I.pin p Q;have j:p.1∉ch:=λz=>(h p.1 z).2.2.2 p Q rfl;exact⟨keep p.1 p.2 ne P j e n,f p.1 p.2 j e n,ne,P,d⟩
def Inv.un{t':Nat}(I:Inv X pins σ H s)(u:Un X.fs [] H H' s.heap h')(c:HOk X.prog X.w H' h'):Inv X pins σ H' {s with heap:=h',toks:=t'}:=by
 obtain⟨m,⟨o,es,q,h,r⟩,_⟩:=id I.loc;obtain⟨p,i⟩:=u.any h I.free (by simp);exact I.step (g':=s.gens) (d':=s.drawn) (ch:= []) (λ_ z=>nomatch z) (λb o _ d _ e n=>u.keep b o e n d (by simp)) (λb o _ d _ e n=>u.slot b o e n d (by simp)) (λb o _ e n=>u.free b o e n (by simp)) (λb o _ e=>u.there b o e (by simp)) u.tups u.frzs u.tbls (λl k=>by
  obtain⟨o',g,f,a,j⟩:=k;rw[h]at a;cases a;exact⟨_,g,f,i,j⟩) c I.bare
def Inv.call{g':Array GenState}{t':Nat}{d':Drawn}{ch:List Addr}(I:Inv X pins σ H s)(u:Un (frs X.stack) ch H H' s.heap h')(h:HOk X.prog X.w H' h')(l:AllBare g') (d:∀b∈ch,(b∈X.ex\/X.s₀.heap.objs.size<=b)/\b≠X.env.locals/\(∀x c,X.env.cells.lookup x=some c->c≠b)/\∀p∈X.pn++pins,p.1≠b): Inv X pins σ H' {s with heap:=h',gens:=g',drawn:=d',toks:=t'}:=by
 obtain⟨m,⟨o,es,B,k,r⟩,_⟩:=id I.loc;obtain⟨A,g⟩:=u.any k I.free λz=>(d _ z).2.1 rfl;exact I.step (ch:=ch) d (λb o g v a e n=>u.keep b o e n (λz=>(cQG.mp (I.stkSub b z)).elim g v) a) (λb o _ _ a e n=>u.any e n a) (λb o a e n=>u.free b o e n a) (λb o a e=>u.there b o e a) u.tups u.frzs u.tbls (λy t=>by
  obtain⟨o',j,i,f,q⟩:=t;rw[k]at f;cases f;exact⟨_,j,i,g,q⟩) h l
def Inv.turned{t':Nat}{it:Addr}(I:Inv X pins σ H s)(k:∀b o,b≠it->s.heap.get? b=some o->h'.get? b=some o)(i:H it=none)(f:it≠X.env.locals) (h1:it∈X.ex\/X.s₀.heap.objs.size<=it) (h2:∀x c,X.env.cells.lookup x=some c->c≠it) (h:∀p∈X.pn++pins,p.1≠it):Inv X pins σ H {s with heap:=h',toks:=t'}:=by
 have d:∀b u,H b=some u->b≠it:=λb u e z=>by rw[z,i]at e;cases e
 refine I.step (g':=s.gens) (d':=s.drawn) (ch:= [it]) (λb l=>?_) (λb o _ _ a e _=>k b o (λz=>a (by simp[z])) e) (λb o _ _ a e _=>⟨o.slots,k b o (λz=>a (by simp[z])) e⟩) (λ_ _ _ _ n=>n)
  (λb o a e=>⟨o,k b o (λz=>a (by simp[z])) e⟩) (λ_ _ e=>e) (λ_ _ _ e=>e) (λb ps e=>⟨#[],by rw[e];simp⟩) (λm j=>?_) (λb u e=>?_) I.bare
 ·have e:b=it:=by simpa using l
  subst e;exact⟨h1,f,h2,h⟩
 ·obtain⟨o,es,t,g,r⟩:=j;exact⟨o,es,t,k _ o (cXg f) g,r⟩
 ·refine(I.hok b u e).stay (λc v a q=>k c v ?_ q) (λ_ q=>q) λ_ _ q=>q;rcases a with z|z
  ·rw[z];exact d b u e
  ·exact d c _ z
def Inv.tok(I:Inv X pins σ H s)(t:Nat):Inv X pins σ H {s with toks:=t}:=I.un (h':=s.heap) (t':=t) Un.refl I.hok
def Inv.kept{t':Nat}(I:Inv X pins σ H s)(k:∀b u,s.heap.get? b=some u->h'.get? b=some u):Inv X pins σ H {s with heap:=h',toks:=t'}:=I.un (Un.kept k) (I.hok.kept k)
def Inv.laid{a:Addr}{o:HO}{t':Nat}(I:Inv X pins σ H s)(k:∀b u,s.heap.get? b=some u->h'.get? b=some u)(d:s.heap.objs.size<=a)(c:zQ X.prog X.w (upd H a o) h' a o):
  Inv X pins σ (upd H a o) {s with heap:=h',toks:=t'}:=I.un (Un.laid k d (I.hok.fresh d)) (I.hok.laid k d c)
def Inv.write{x e:Addr}{o:HO}{t':Nat}(I:Inv X pins σ H s)(d:Mut (H x))(f:e=x\/H e=some (.own x))(k:∀b u,b≠e->s.heap.get? b=some u->h'.get? b=some u)(a:∃u,h'.get? e=some u)
  (c:zQ X.prog X.w (upd H x o) h' x o):Inv X pins σ (upd H x o) {s with heap:=h',toks:=t'}:=I.un (Un.write d f k a) (I.hok.write d f k a c)
def Inv.pins_of{a:List (Addr×Obj)}(I:Inv X pins σ H s)(h:∀p∈a,s.heap.get? p.1=some p.2/\H p.1=none/\p.1≠X.env.locals/\p.1∉X.fs/\∀v,p.2.data≠ .cell v):Inv X a σ H s:=
 ⟨I.ok,I.os,I.bare,I.base,I.loc,I.cell,I.free,I.freeC,λp b=>(cQ4.mp b).elim (λz=>I.pin p (cZl _ z)) (h p),I.hok,I.len⟩
def aWq{N:List Str}(e:N.Nodup){i j:Nat}{x:Str}(a:N[i]? =some x)(b:N[j]? =some x):i=j:=by
 obtain⟨h1,c⟩:=cQK.mp a;obtain⟨h2,d⟩:=cQK.mp b;exact(cZs e).mp (c.trans d.symm)
def aXM{M:Model}{A:cXi}{E:cQx->cQA->Prop}{i:Nat}{x:Str}{v:V}{u:cQx}{Q:Unit->cQA->Prop}(I:Inv X pins σ H s)(hN:X.N.Nodup)(hi:X.N[i]? =some x)(B:Loc X.env.scope x)(r:wE v u) (h:∀s',Inv X pins (σ.set i (some v)) H s'->(∃a,cZC a s.heap s'.heap/\(a=X.env.locals\/X.env.cells.lookup x=some a))->Q () s') (hf:X.fn x=true\/X.env.scope.names.lookup x=some .local:=by first|exact .inl rfl|exact .inr rfl|assumption):cQF M A (storeName X.env x u) Q E s:=by
 obtain⟨m,hn,hl⟩:=id I.loc;have L:(X.env.scope.kind== .class || (X.env.scope.kind== .module && X.env.locals !=X.env.globals))=false:=by rw[I.ok.kind];rfl
 have hiσ:i<σ.length:=by rw[I.len];exact(cQK.mp hi).1
 have cne:=I.cne;have g:∀ {a:Addr} {h':Heap},(∃o,s.heap.get? a=some o/\H a=none)->cZC a s.heap h'->HOk X.prog X.w H h':=λ{a h'} ha f b ob e=>by
  obtain⟨_,_,C⟩:=ha;refine(I.hok b ob e).stay (λc T t q=>(f.2 c ?_).trans q) (λ_ q=>q) λ_ _ q=>q;rintro rfl;rcases t with rfl|t
  ·rw[C]at e;cases e
  ·rw[C]at t;cases t
 rcases B with F|F
 ·refine wpAny_storeName_local F hn (λh' a0 f=>?_) L;obtain⟨oL,_,_,a1,_⟩:=id hn;refine h _ ⟨I.ok,I.os,I.bare,⟨λb o e n K B=>?_,λb o e n K B=>?_,I.base.free,λb o e B=>?_,I.base.tups,I.base.frzs,I.base.tbls⟩,⟨_,a0,λj y Y l D e3=>?_⟩,λy c e=>?_,I.free,I.freeC,λp hp=>?_,g ⟨oL,a1,I.free⟩ f,by simpa using I.len⟩ ⟨_,f,.inl rfl⟩
  ·exact(f.2 b (cQV (cQ1 (cQN e) I.ok.above))).trans (I.base.keep b o e n K B)
  ·obtain⟨sl,l⟩:=I.base.slot b o e n K B;exact⟨sl,(f.2 b (cQV (cQ1 (cQN e) I.ok.above))).trans l⟩
  ·obtain⟨o',l⟩:=I.base.there b o e B;exact⟨o',(f.2 b (cQV (cQ1 (cQN e) I.ok.above))).trans l⟩
  ·by_cases G:j=i
   ·subst G;rw[hi]at l;cases l;rw[cZU hiσ]at D;cases D;exact⟨u,r,.inl ⟨F,by simp⟩⟩
   ·rw[cJR (cXg G)]at D;obtain⟨u',Z,q⟩:=hl j y Y l D e3;refine⟨u',Z,?_⟩;rcases q with⟨k,e⟩|⟨k,c,e,z⟩
    ·refine .inl ⟨k,?_⟩;have:y≠x:=λe=>G (aWq hN l (e ▸ hi));simp[this,e]
    ·exact .inr ⟨k,c,e,z.sameBut f (cne y c e)⟩
  ·obtain⟨T,z⟩:=I.cell y c e;exact⟨T,z.sameBut f (cne y c e)⟩
  ·obtain⟨e,n,ne,W,d⟩:=I.pin p hp;exact⟨(f.2 p.1 ne).trans e,n,ne,W,d⟩
 ·have J:X.fn x=true:=by
   rcases hf with z|z
   ·exact z
   ·rw[z]at F;cases F
  obtain⟨c,t⟩:=I.ok.has x (.inl F);obtain⟨T,z⟩:=I.cell x c t;refine wpAny_storeName_cell I.ok.kind F t z (λh' P f=>?_);obtain⟨oc,S,R⟩:=id z;refine h {s with heap:=h'} ⟨I.ok,I.os,I.bare,⟨λb o e n K B=>?_,λb o e n K B=>?_,I.base.free,λb o e B=>?_,I.base.tups,I.base.frzs,I.base.tbls⟩,⟨m,hn.sameBut f (cXg (cne x c t)),λj y Y l D e3=>?_⟩,λy U e=>?_,I.free,I.freeC,λp hp=>?_,g ⟨oc,S,I.freeC x c t⟩ f,by simpa using I.len⟩ ⟨c,f,.inr t⟩
  ·exact(f.2 b (cQV (cQ1 (cQN e) (I.ok.cab x c J t)))).trans (I.base.keep b o e n K B)
  ·obtain⟨sl,l⟩:=I.base.slot b o e n K B;exact⟨sl,(f.2 b (cQV (cQ1 (cQN e) (I.ok.cab x c J t)))).trans l⟩
  ·obtain⟨o',l⟩:=I.base.there b o e B;exact⟨o',(f.2 b (cQV (cQ1 (cQN e) (I.ok.cab x c J t)))).trans l⟩
  ·by_cases G:j=i
   ·subst G;rw[hi]at l;cases l;rw[cZU hiσ]at D;cases D;exact⟨u,r,.inr ⟨.inl F,c,t,P⟩⟩
   ·rw[cJR (cXg G)]at D;obtain⟨u',Z,q⟩:=hl j y Y l D e3;refine⟨u',Z,?_⟩;rcases q with q|⟨k,U,e,z'⟩
    ·exact .inl q
    ·refine .inr ⟨k,U,e,z'.sameBut f ?_⟩;rintro rfl;exact G (aWq hN l (I.ok.inj _ _ _ e t ▸ hi))
  ·by_cases O:U=c
   ·subst O;exact⟨_,P⟩
   ·obtain⟨w2,z2⟩:=I.cell y U e;exact⟨w2,z2.sameBut f O⟩
  ·obtain⟨e,n,ne,W,d⟩:=I.pin p hp;refine⟨(f.2 p.1 ?_).trans e,n,ne,W,d⟩;intro q;rw[q,S]at e;have q':oc=p.2:=cQS e;exact d T (by rw[<- q'];exact R)
def aWY{M:Model}{A:cXi}{E:cQx->cQA->Prop}{i:Nat}{x:Str}{v:V}{u:cQx}{Q:Unit->cQA->Prop}(I:Inv X pins σ H s)(b:X.N.Nodup)(hi:X.N[i]? =some x)(c:Loc X.env.scope x)(r:wE v u) (h:∀s',Inv X pins (σ.set i (some v)) H s'->Q () s') (d:X.fn x=true\/X.env.scope.names.lookup x=some .local:=by first|exact .inl rfl|exact .inr rfl|assumption):cQF M A (storeName X.env x u) Q E s:=
 aXM I b hi c r (λs' a _=>h s' a) d
def Inv.call'{s':cQA}{ch:List Addr}(I:Inv X pins σ H s)(i:s'.os=s.os)(u:Un (frs X.stack) ch H H' s.heap s'.heap)(d:HOk X.prog X.w H' s'.heap)(j:AllBare s'.gens) (a:∀b∈ch,(b∈X.ex\/X.s₀.heap.objs.size<=b)/\b≠X.env.locals/\(∀x c,X.env.cells.lookup x=some c->c≠b)/\∀p∈X.pn++pins,p.1≠b):Inv X pins σ H' s':=by
 obtain⟨h',f,g,h,o'⟩:=s';have e:o'=s.os:=i;subst e;exact I.call (g':=f) (t':=h) (d':=g) u d j a
end
abbrev XK:=cQx->Option Addr->Hp->Prop
abbrev St:=List (Option V)
abbrev VK:=V->Hp->Prop
abbrev TE:=St->Hp->VK->Prop
abbrev TT:=St->Hp->(Bool->Hp->Prop)->Prop
abbrev TA:=St->Hp->(List V->Hp->Prop)->Prop
structure aYo where
 nx:St->Hp->Prop
 rt:VK
 bk:St->Hp->Prop:=λ_ _=>False
 ct:St->Hp->Prop:=λ_ _=>False
abbrev TS:=aYo->St->Hp->Prop
def EP(X:Cx)(pins:List (Addr×Obj))(σ:St)(Q:VK)(u:cQx)(s':cQA):Prop:=∃v H',Inv X pins σ H' s'/\wE v u/\Q v H'
def TP(X:Cx)(pins:List (Addr×Obj))(σ:St)(Q:Bool->Hp->Prop)(b:Bool)(s':cQA):Prop:=∃H',Inv X pins σ H' s'/\Q b H'
def AP(X:Cx)(pins:List (Addr×Obj))(σ:St)(Q:List V->Hp->Prop)(us:List cQx)(s':cQA):Prop:=∃a H',Inv X pins σ H' s'/\zD a us/\Q a H'
def SP(X:Cx)(pins:List (Addr×Obj))(D:aYo)(f:Flow)(s':cQA):Prop:=
 match f with
 |.next=>∃a H',Inv X pins a H' s'/\D.nx a H'
 |.brk=>∃a H',Inv X pins a H' s'/\D.bk a H'
 |.cont=>∃a H',Inv X pins a H' s'/\D.ct a H'
 |.ret u=>∃v a H',Inv X pins a H' s'/\wE v u/\D.rt v H'
def PE(X:Cx)(e:Expr)(t:TE):Prop:=
 ∀ (pins:List (Addr×Obj))(s:cQA)(σ:St)(H:Hp)(Q:VK),Inv X pins σ H s->t σ H Q->cQF (cQH X.prog X.w) X.A (eval e X.env) (EP X pins σ Q) X.xe s
def PT(X:Cx)(e:Expr)(t:TT):Prop:=
 ∀ (pins:List (Addr×Obj))(s:cQA)(σ:St)(H:Hp)(Q:Bool->Hp->Prop),Inv X pins σ H s->t σ H Q->cQF (cQH X.prog X.w) X.A (isTrue e X.env (eval e X.env)) (TP X pins σ Q) X.xe s
def PW(X:Cx)(e:Expr)(t:TT):Prop:=
 ∀ (a:Sem cQx)(pins:List (Addr×Obj))(s:cQA)(σ:St)(H:Hp)(Q:Bool->Hp->Prop),Inv X pins σ H s->t σ H Q->cQF (cQH X.prog X.w) X.A (isTrue e X.env a) (TP X pins σ Q) X.xe s
def PW.pt{X:Cx}{e:Expr}{t:TT}(h:PW X e t):PT X e t:=h _
def PA(X:Cx)(es:List Expr)(t:TA):Prop:=
 ∀ (pos:Pos)(pins:List (Addr×Obj))(s:cQA)(σ:St)(H:Hp)(Q:List V->Hp->Prop),Inv X pins σ H s->t σ H Q->cQF (cQH X.prog X.w) X.A (spliced (cZj pos (cXe es X.env))) (AP X pins σ Q) X.xe s
def PS(X:Cx)(st:Stmt)(t:TS):Prop:=
 ∀ (pins:List (Addr×Obj))(s:cQA)(σ:St)(H:Hp)(D:aYo),Inv X pins σ H s->t D σ H->cQF (cQH X.prog X.w) X.A (exec st X.env) (SP X pins D) X.xe s
def PSs(X:Cx)(st:List Stmt)(t:TS):Prop:=
 ∀ (pins:List (Addr×Obj))(s:cQA)(σ:St)(H:Hp)(D:aYo),Inv X pins σ H s->t D σ H->cQF (cQH X.prog X.w) X.A (execs st X.env) (SP X pins D) X.xe s
def thn{α:Type}{t:Sem α}{Q b:α->cQA->Prop}{M:Model}{A:cXi}{E:cQx->cQA->Prop}{s:cQA}(h:cQF M A t Q E s)(c:∀a s,Q a s->b a s):cQF M A t b E s:=cXD h c λ_ _ x=>x
end L2
namespace L2
open PySem PySem.Spec PyProof.Rows
section
variable {X:Cx}
def bin{a b:Expr}{ta tb:TE}(g:PE X a ta)(j:PE X b tb){pins:List (Addr×Obj)}{s:cQA}{σ:St}{H:Hp}{R:V->V->Hp->Prop}(I:Inv X pins σ H s)(h:ta σ H λx H1=>tb σ H1 λy H2=>R x y H2) {α:Type} {Q:α->cQA->Prop} {f:cQx->cQx->Sem α} (i:∀v u e x y H2,Inv X pins σ H2 e->wE x v->wE y u->R x y H2->cQF (cQH X.prog X.w) X.A (f v u) Q X.xe e): cQF (cQH X.prog X.w) X.A (eval a X.env) (λv c=>cQF (cQH X.prog X.w) X.A (eval b X.env) (λu d=>cQF (cQH X.prog X.w) X.A (f v u) Q X.xe d) X.xe c) X.xe s:=by
 refine thn (g pins s σ H _ I h) λv s1 ⟨x,H1,I1,r1,q1⟩=>?_;refine thn (j pins s1 σ H1 _ I1 q1) λu e ⟨y,H2,I2,r2,q2⟩=>?_;exact i v u e x y H2 I2 r1 r2 q2
def bKa(i:Nat):TE:=λσ H Q=>∃v,σ[i]? =some (some v)/\Q v H
def tC(v:V):TE:=λ_ H Q=>Q v H
def bVf{i:Nat}{x:Str}{pos:Pos}(j:X.N[i]? =some x)(k:Vis X.env.scope x)(d:(x==("__debug__":Str))=false:=by decide)(f:(x==("__classdict__":Str))=false:=by decide):PE X (.Name x pos) (bKa i):=by
 intro pins s σ H Q I h;obtain⟨v,e,h⟩:=h;obtain⟨m,n,hl⟩:=I.loc;obtain⟨u,r,l⟩:=hl i x v j e k;have fin:EP X pins σ Q u s:=⟨v,H,I,r,h⟩;rcases l with⟨b,o⟩|⟨b,c,g,a⟩
 ·exact wpAny_Name (wpAny_loadName_local I.ok.kind b n o fin) d
 ·rcases b with b|b
  ·exact wpAny_Name (wpAny_loadName_cell I.ok.kind b g a fin) d
  ·exact wpAny_Name (wpAny_loadName_free I.ok.kind b g a fin f) d
def yG{i j pos}:PE X (.Constant (.int i) j pos) (tC (.int i)):=λ_ _ _ H _ I h=>wpAny_Constant_int ⟨.int i,H,I.tok _,⟨_,rfl⟩,h⟩
def vQ{b j pos}:PE X (.Constant (.bool b) j pos) (tC (.bl b)):=λ_ _ _ H _ I h=>Constant_bool ⟨.bl b,H,I,rfl,h⟩
def zL{j pos}:PE X (.Constant .none j pos) (tC .non):=λ_ _ _ H _ I h=>Constant_none ⟨.non,H,I,rfl,h⟩
def yQ{x j pos}:PE X (.Constant (.str x) j pos) (tC (.str x)):=λ_ _ _ H _ I h=>Calls.Constant_str ⟨.str x,H,I.tok _,⟨_,rfl⟩,h⟩
def Gl(X:Cx)(x:Str):Prop:=X.env.kindOf x=some .globalImplicit
def jL{E:cQx->cQA->Prop}{pins:List (Addr×Obj)}{s:cQA}{σ:St}{H:Hp}{x:Str}{u:cQx}{pos:Pos}{Q:cQx->cQA->Prop}(I:Inv X pins σ H s)(a:Gl X x)(c:X.mg x=some u)(h:Q u s) (b:(x==("__debug__":Str))=false:=by decide):cQF (cQH X.prog X.w) X.A (eval (.Name x pos) X.env) Q E s:=
 cVW I.ok.kind a (Calls.loadGlobal_global (by rw[I.ok.glob];exact I.mod.glob.keeps I.bk) c h) b
def aX6{E:cQx->cQA->Prop}{pins:List (Addr×Obj)}{s:cQA}{σ:St}{H:Hp}{x:Str}{u:cQx}{pos:Pos}{Q:cQx->cQA->Prop}(I:Inv X pins σ H s)(a:Gl X x)(e:X.mg x=none)(c:cXj x=some u)(h:Q u s) (d:x≠"__name__":=by decide) (b:(x==("__debug__":Str))=false:=by decide):cQF (cQH X.prog X.w) X.A (eval (.Name x pos) X.env) Q E s:=by
 obtain⟨f,h1,h2⟩:=I.mod.blt;exact cVW I.ok.kind a (Calls.loadGlobal_builtin (by rw[I.ok.glob];exact I.mod.glob.keeps I.bk) e (by rw[I.ok.blt];exact h1.keeps I.bk) ((h2 x d).trans c) h) b
def jN{x:Str}{v:V}{u:cQx}{pos:Pos}(a:Gl X x)(c:X.mg x=some u)(r:wE v u)(b:(x==("__debug__":Str))=false:=by decide):PE X (.Name x pos) (tC v):=
 λ_ _ _ H _ I h=>jL I a c ⟨v,H,I,r,h⟩ b
def xX{x:Str}{v:V}{u:cQx}{pos:Pos}(b:Gl X x)(e:X.mg x=none)(a:cXj x=some u)(r:wE v u)(d:x≠"__name__":=by decide)(c:(x==("__debug__":Str))=false:=by decide):PE X (.Name x pos) (tC v):=
 λ_ _ _ H _ I h=>aX6 I b e a ⟨v,H,I,r,h⟩ d c
variable {a b:Expr}{ta tb:TE}{pos:Pos}
def PC(X:Cx)(op:CmpOp)(a b:Expr)(t:TE):Prop:=
 ∀ (pins:List (Addr×Obj))(s:cQA)(σ:St)(H:Hp)(Q:VK),Inv X pins σ H s->t σ H Q->
  cQF (cQH X.prog X.w) X.A (eval a X.env) (λv d=>cQF (cQH X.prog X.w) X.A (eval b X.env) (λu c=>cQF (cQH X.prog X.w) X.A (cZa op v u) (EP X pins σ Q) X.xe c) X.xe d) X.xe s
def bZB(b:Expr){op:CmpOp}(h:op≠ .In)(h2:op≠ .NotIn):cJs op b=false:=by
 have a:(op==CmpOp.In)=false:=by cases op<;> first|rfl|exact absurd rfl h
 have c:(op==CmpOp.NotIn)=false:=by cases op<;> first|rfl|exact absurd rfl h2
 cases b<;> simp[cJs,a,c]
def tB(t:TE):TT:=λσ H Q=>t σ H λx H1=>∃c,x= .bl c/\Q c H1
def bK0{op:CmpOp}{t:TE}(h:PC X op a b t)(h1:cJs op b=false:=by first|exact bZB _ (by decide) (by decide)|rfl):PT X (.Compare a [op] [b] pos) (tB t):=by
 intro pins s σ H Q I hw;refine wpAny_isTrue_Compare1 (thn (h pins s σ H _ I hw) λv f h1=>thn h1 λu e h2=>thn h2 λc s3 ⟨x,H1,I1,r1,q1⟩=>?_) h1;obtain⟨d,rfl,q⟩:=q1;cases r1;exact cZA ⟨H1,I1,q⟩
def zA{e:Expr}{t:TE}(h:PE X e t)(b:∀a,isTrue e X.env a=(do let v <- a;standAt e.pos;cJ1 [v] (truthy v)):=by intro _;rfl):PT X e (tB t):=by
 intro pins s σ H Q I hw;refine isTrue_plain (thn (h pins s σ H _ I hw) λv s1 ⟨x,H1,I1,r1,q1⟩=>?_) (b _);obtain⟨d,rfl,q⟩:=q1;cases r1;exact cZA ⟨H1,I1,q⟩
variable {tA tB':TT}{X8:List Expr}
def cQq(t u:TT):TT:=λσ H Q=>t σ H λc H1=>if c=true then u σ H1 Q else Q false H1
def tOr(t u:TT):TT:=λσ H Q=>t σ H λc H1=>if c=true then Q true H1 else u σ H1 Q
def cQt(t:TT):TT:=λσ H Q=>t σ H λc H1=>Q (!c) H1
def uG(b:PT X a tA):PW X (.BoolOp .And [a] pos) tA:=by
 intro f pins s σ H Q I h;refine isTrue_and (thn (b pins s σ H Q I h) λc d e=>?_);cases c with
 |true=>exact isTrue_and_nil e
 |false=>exact e
def uR(b:PT X a tA):PW X (.BoolOp .Or [a] pos) tA:=by
 intro f pins s σ H Q I h;refine isTrue_or (thn (b pins s σ H Q I h) λc d e=>?_);cases c with
 |false=>exact isTrue_or_nil e
 |true=>exact e
def jE(d:PT X a tA)(e:PW X (.BoolOp .And (b::X8) pos) tB'):PW X (.BoolOp .And (a::b::X8) pos) (cQq tA tB'):=by
 intro f pins s σ H Q I h;refine isTrue_and (thn (d pins s σ H _ I h) λc s1 ⟨H1,I1,q1⟩=>?_);cases c with
 |true=>exact e f pins s1 σ H1 Q I1 q1
 |false=>exact⟨H1,I1,q1⟩
def Y5(d:PT X a tA)(e:PW X (.BoolOp .Or (b::X8) pos) tB'):PW X (.BoolOp .Or (a::b::X8) pos) (tOr tA tB'):=by
 intro f pins s σ H Q I h;refine isTrue_or (thn (d pins s σ H _ I h) λc s1 ⟨H1,I1,q1⟩=>?_);cases c with
 |true=>exact⟨H1,I1,q1⟩
 |false=>exact e f pins s1 σ H1 Q I1 q1
def vH(b:PT X a tA):PT X (.UnaryOp .Not a pos) (cQt tA):=by
 intro pins s σ H Q I h;exact isTrue_not (b pins s σ H (λc H1=>Q (!c) H1) I h)
def bYW(ta tb:TE):TE:=λσ H Q=>ta σ H λx H1=>∃c,x= .bl c/\if c=true then tb σ H1 Q else Q (.bl false) H1
def cQu(ta tb:TE):TE:=λσ H Q=>ta σ H λx H1=>∃c,x= .bl c/\if c=true then Q (.bl true) H1 else tb σ H1 Q
def bYX(ta:TE):TE:=λσ H Q=>ta σ H λx H1=>∃c,x= .bl c/\Q (.bl (!c)) H1
def aJF{op}{t:TE}(h:PE X a t):PE X (.BoolOp op [a] pos) t:=λpins s σ H Q I hw=>BoolOp_one (h pins s σ H Q I hw)
def aWw(f:PE X a ta)(e:PE X (.BoolOp .And (b::X8) pos) tb):PE X (.BoolOp .And (a::b::X8) pos) (bYW ta tb):=by
 intro pins s σ H Q I h;refine BoolOp_and (thn (f pins s σ H _ I h) λv s1 ⟨x,H1,I1,r1,d⟩=>?_);obtain⟨c,rfl,d⟩:=d;cases r1;refine cZA ?_;cases c with
 |true=>exact e pins s1 σ H1 Q I1 d
 |false=>exact⟨.bl false,H1,I1,rfl,d⟩
def bKV(f:PE X a ta)(e:PE X (.BoolOp .Or (b::X8) pos) tb):PE X (.BoolOp .Or (a::b::X8) pos) (cQu ta tb):=by
 intro pins s σ H Q I h;refine BoolOp_or (thn (f pins s σ H _ I h) λv s1 ⟨x,H1,I1,r1,d⟩=>?_);obtain⟨c,rfl,d⟩:=d;cases r1;refine cZA ?_;cases c with
 |false=>exact e pins s1 σ H1 Q I1 d
 |true=>exact⟨.bl true,H1,I1,rfl,d⟩
def bVe(d:PE X a ta):PE X (.UnaryOp .Not a pos) (bYX ta):=by
 intro pins s σ H Q I h;refine UnaryOp_ (thn (d pins s σ H _ I h) λv s1 ⟨x,H1,I1,r1,b⟩=>?_);obtain⟨c,rfl,b⟩:=b;cases r1;exact not_of (cZA ⟨.bl (!c),H1,I1,rfl,b⟩)
def tIf(t:TT)(ta tb:TE):TE:=λσ H Q=>t σ H λc H1=>if c=true then ta σ H1 Q else tb σ H1 Q
def aWx{c:Expr}(f:PT X c tA)(g:PE X a ta)(e:PE X b tb):PE X (.IfExp c a b pos) (tIf tA ta tb):=by
 intro pins s σ H Q I h;refine wpAny_IfExp (thn (f pins s σ H _ I h) λd s1 ⟨H1,I1,q1⟩=>?_);cases d with
 |true=>exact g pins s1 σ H1 Q I1 q1
 |false=>exact e pins s1 σ H1 Q I1 q1
end
end L2
namespace L2
open PySem PySem.Spec PyProof.Rows
def SqL(K:cQz)(H:Hp)(a:Addr)(xs:List V):Prop:=
 Rd H a (.lst xs)\/
  ∃ (o:Obj)(b:Array cQx)(n:Nat),K.lookup a=some o/\o.cls= .type "list"/\o.dict=none/\o.data= .seq b n/\b.size<=cQW/\zD xs b.toList
def SqT(K:cQz)(H:Hp)(a:Addr)(xs:List V):Prop:=
 Rd H a (.tup xs)\/
  ∃ (o:Obj)(b:Array cQx)(n:Nat),K.lookup a=some o/\o.cls= .type "tuple"/\o.data= .seq b n/\b.size<=cQW/\zD xs b.toList
def cQf:cQx->Option V
 |.none=>some .non
 |.bool b=>some (.bl b)
 |.int i _=>some (.int i)
 |.str x _=>some (.str x)
 |.bytes b _=>some (.byt b)
 |.float b _=>some (.flt b)
 |.ref a=>some (.ref a)
 |.type n=>some (.ty n)
 |_=>none
def wE.abs{x:V}{u:cQx}(r:wE x u):cQf u=some x:=by
 cases x with
 |non=>cases r;rfl
 |bl _=>cases r;rfl
 |int _=>obtain⟨t,rfl⟩:=r;rfl
 |str _=>obtain⟨t,rfl⟩:=r;rfl
 |byt _=>obtain⟨t,rfl⟩:=r;rfl
 |flt _=>obtain⟨t,rfl⟩:=r;rfl
 |ref _=>cases r;rfl
 |ty _=>cases r;rfl
def wE.inj{x y:V}{u:cQx}(r:wE x u)(q:wE y u):x=y:=cQS (r.abs.symm.trans q.abs)
def zD.inj:∀ {xs ys:List V} {us:List cQx},zD xs us->zD ys us->xs=ys
 |_,_,_,.nil,.nil=>rfl
 |_,_,_,.cons r t,.cons r' t'=>by rw[r.inj r',zD.inj t t']
section
variable {X:Cx}{pins:List (Addr×Obj)}{σ:St}{H:Hp}{s:cQA}{a:Addr}{xs ys:List V}
def SqL.of{K:cQz}(h:H a=some (.lst xs)):SqL K H a xs:= .inl (.inl h)
def SqT.of{K:cQz}(h:H a=some (.tup xs)):SqT K H a xs:= .inl (.inl h)
def Inv.list(I:Inv X pins σ H s)(h:SqL X.K H a xs):∃b:List cQx,zD xs b/\PlainL s.heap a b.toArray/\xs.length<=cQW:=by
 rcases h with h|⟨o,b,n,d,f,g,c,i,r⟩
 ·obtain⟨z,b,n,r,e⟩:=h.ok I.hok;exact⟨b,r,⟨_,n,e,rfl,rfl,rfl⟩,z⟩
 ·refine⟨b.toList,r,⟨o,n,I.kIn a o d,f,g,by simpa using c⟩,?_⟩;have e:=r.length;simp only[cXS]at e;omega
def Inv.tuple(I:Inv X pins σ H s)(h:SqT X.K H a xs):∃b:List cQx,zD xs b/\cJu s.heap a b.toArray/\xs.length<=cQW:=by
 rcases h with h|⟨o,b,n,d,f,c,g,r⟩
 ·obtain⟨z,b,r,p⟩:=h.ok I.hok;exact⟨b,r,p,z⟩
 ·refine⟨b.toList,r,⟨o,I.kIn a o d,f,n,by simpa using c⟩,?_⟩;have e:=r.length;simp only[cXS]at e;omega
def Inv.list_inj(I:Inv X pins σ H s)(h:SqL X.K H a xs)(h':SqL X.K H a ys):xs=ys:=by
 obtain⟨c,r,⟨o,n,e,_,_,d⟩,_⟩:=I.list h;obtain⟨b,i,⟨o',j,g,_,_,f⟩,_⟩:=I.list h';rw[e]at g;cases g;rw[d]at f;injection f with d1 _;have:c=b:=by simpa using congrArg Array.toList d1
 subst this;exact r.inj i
end
abbrev Cx.wish(X:Cx)(E:cQx->cQA->Prop):Cx:={X with xe:=E}
abbrev Cx.nox(X:Cx):Cx:=X.wish λ_ _=>False
def Cx.Ok.wish{X:Cx}(ok:X.Ok)(E:cQx->cQA->Prop):(X.wish E).Ok:=
 ⟨ok.mod,ok.kind,ok.glob,ok.blt,ok.above,ok.inj,ok.has,ok.cab,ok.hd,ok.frames,ok.stk,ok.exf,ok.bs,ok.bsz,ok.noex,ok.exfs,ok.funs,ok.frf⟩
def Cx.Ok.unwish{X:Cx}{E:cQx->cQA->Prop}(ok:(X.wish E).Ok):X.Ok:=
 ⟨ok.mod,ok.kind,ok.glob,ok.blt,ok.above,ok.inj,ok.has,ok.cab,ok.hd,ok.frames,ok.stk,ok.exf,ok.bs,ok.bsz,ok.noex,ok.exfs,ok.funs,ok.frf⟩
section
variable {X:Cx}{pins:List (Addr×Obj)}{σ:St}{H:Hp}{s:cQA}{E:cQx->cQA->Prop}
def Inv.wish(I:Inv X pins σ H s)(E:cQx->cQA->Prop):Inv (X.wish E) pins σ H s:=⟨I.ok.wish E,I.os,I.bare,I.base,I.loc,I.cell,I.free,I.freeC,I.pin,I.hok,I.len⟩
def Inv.unwish(I:Inv (X.wish E) pins σ H s):Inv X pins σ H s:=⟨I.ok.unwish,I.os,I.bare,I.base,I.loc,I.cell,I.free,I.freeC,I.pin,I.hok,I.len⟩
def SP.unwish{D:aYo}{f:Flow}{s':cQA}(h:SP (X.wish E) pins D f s'):SP X pins D f s':=by
 cases f with
 |next=>obtain⟨a,H',I,q⟩:=h;exact⟨a,H',I.unwish,q⟩
 |brk=>obtain⟨a,H',I,q⟩:=h;exact⟨a,H',I.unwish,q⟩
 |cont=>obtain⟨a,H',I,q⟩:=h;exact⟨a,H',I.unwish,q⟩
 |ret u=>obtain⟨v,a,H',I,r,q⟩:=h;exact⟨v,a,H',I.unwish,r,q⟩
def PSs.nox{st:List Stmt}{t:TS}(h:PSs X.nox st t):PSs X st t:=λpins s σ H D I hw=>
 cXD (h pins s σ H D (I.wish _) hw) (λ_ _ q=>q.unwish) λ_ _ z=>cZb z
end
section
variable {X:Cx}{st:Stmt}{X8:List Stmt}{t u:TS}{e:Expr}{te:TE}{pos:Pos}
def aV8:TS:=λD σ H=>D.nx σ H
def bYz(t u:TS):TS:=λD σ H=>t {D with nx:=u D} σ H
def yS:PSs X [] aV8:=λ_ _ σ H _ I h=>cVI ⟨σ,H,I,h⟩
def yC(h1:PS X st t)(h2:PSs X X8 u):PSs X (st::X8) (bYz t u):=by
 intro pins s σ H D I h;refine wpAny_execs_cons (thn (h1 pins s σ H {D with nx:=u D} I h) λf c q=>?_);cases f with
 |next=>obtain⟨a,H',b,q⟩:=q;exact h2 pins c a H' D b q
 |ret v=>exact q
 |brk=>exact q
 |cont=>exact q
def yF(h1:PS X st t):PSs X [st] t:=by
 intro pins s σ H D I h;refine wpAny_execs_cons (thn (h1 pins s σ H D I h) λf a q=>?_);cases f with
 |next=>exact cVI q
 |ret v=>exact q
 |brk=>exact q
 |cont=>exact q
def Inv.quiet{pins:List (Addr×Obj)}{σ:St}{H:Hp}{s:cQA}(I:Inv X pins σ H s):interactive X.env=false:=by simp[interactive,I.ok.kind]
def aV7(te:TE):TS:=λD σ H=>te σ H λ_ H1=>D.nx σ H1
def yZ(b:PE X e te)(a:swapsWith e none pos.line X.env=pure false:=by rfl):PS X (.Expr e pos) (aV7 te):=by
 intro pins s σ H D I h;exact wpAny_Expr_any (thn (b pins s σ H _ I h) λv s1 ⟨x,H1,I1,r1,q1⟩=>⟨σ,H1,I1,q1⟩) I.quiet a
def cQa(te:TE):TS:=λD σ H=>te σ H D.rt
def yP(a:PE X e te):PS X (.Return (some e) pos) (cQa te):=by
 intro pins s σ H D I h;exact wpAny_Return_some (thn (a pins s σ H _ I h) λv s1 ⟨x,H1,I1,r1,q1⟩=>⟨x,σ,H1,I1,r1,q1⟩)
def bYy(c:TT)(t u:TS):TS:=λD σ H=>c σ H λb H1=>if b=true then t D σ H1 else u D σ H1
def xA{c:Expr}{a b:List Stmt}{tc:TT}(f:PT X c tc)(g:PSs X a t)(e:PSs X b u):PS X (.If c a b pos) (bYy tc t u):=by
 intro pins s σ H D I h;refine wpAny_If (thn (f pins s σ H _ I h) λd s1 ⟨H1,I1,q1⟩=>?_);cases d with
 |true=>exact g pins s1 σ H1 D I1 q1
 |false=>exact e pins s1 σ H1 D I1 q1
end
abbrev TG:=V->St->Hp->(St->Hp->Prop)->Prop
abbrev TGs:=List V->St->Hp->(St->Hp->Prop)->Prop
def PG(X:Cx)(a:Expr)(t:TG):Prop:=
 ∀ (pins:List (Addr×Obj))(s:cQA)(σ:St)(H:Hp)(v:V)(u:cQx)(Q:St->Hp->Prop),Inv X pins σ H s->wE v u->t v σ H Q->
  cQF (cQH X.prog X.w) X.A (assign a X.env u) (λ_ s'=>∃b H',Inv X pins b H' s'/\Q b H') X.xe s
def PGs(X:Cx)(d:List Expr)(t:TGs):Prop:=
 ∀ (pins:List (Addr×Obj))(s:cQA)(σ:St)(H:Hp)(b:List V)(c:List cQx)(Q:St->Hp->Prop),Inv X pins σ H s->zD b c->t b σ H Q->
  cQF (cQH X.prog X.w) X.A (assignInOrder ((cVC d X.env).map (·.2)) c) (λ_ s'=>∃a H',Inv X pins a H' s'/\Q a H') X.xe s
abbrev bYE:=V->V->V->Hp->(Hp->Prop)->Prop
def bY3(X:Cx)(t:bYE):Prop:=
 ∀ (pins:List (Addr×Obj))(s:cQA)(σ:St)(H:Hp)(o i v:V)(a b u:cQx)(Q:Hp->Prop),Inv X pins σ H s->wE o a->wE i b->wE v u->t o i v H Q->
  cQF (cQH X.prog X.w) X.A (setItem a b u) (λ_ s'=>∃H',Inv X pins σ H' s'/\Q H') X.xe s
section
variable {X:Cx}{pos:Pos}
def yW(i:Nat):TG:=λv σ H Q=>Q (σ.set i (some v)) H
def xI{i:Nat}{x:Str}(b:X.N.Nodup:=by exact ‹yO _ _ _›.nd)(hi:X.N[i]? =some x:=by rfl)(c:Loc X.env.scope x:=by first|exact Or.inl rfl|exact Or.inr rfl)(d:X.fn x=true\/X.env.scope.names.lookup x=some .local:=by first|exact .inl rfl|exact .inr rfl|assumption):PG X (.Name x pos) (yW i):=by
 intro pins s σ H v u Q I r h;exact wpAny_assign_Name (aWY I b hi c r (λs' a=>⟨_,H,a,h⟩) d)
def cQg:TGs:=λa σ H Q=>a= []/\Q σ H
def bYJ(t:TG)(u:TGs):TGs:=λb σ H Q=>∃v r,b=v::r/\t v σ H λa H'=>u r a H' Q
def aZC:PGs X [] cQg:=by
 intro pins s σ H a b Q I r h;obtain⟨e,h⟩:=h;subst e;cases r;exact assignInOrder_nil ⟨σ,H,I,h⟩
def wI{e:Expr}{es:List Expr}{t:TG}{u:TGs}(h1:PG X e t)(h2:PGs X es u) (a:(cVC (e::es) X.env).map (·.2)=assign e X.env::(cVC es X.env).map (·.2):=by rfl):PGs X (e::es) (bYJ t u):=by
 intro pins s σ H g f Q I r h;obtain⟨v,d,c,h⟩:=h;subst c;cases r with
 |cons r b=>rw[a];refine assignInOrder_cons (thn (h1 pins s σ H _ _ _ I r h) λ_ s1 ⟨σ1,H1,I1,q1⟩=>?_);exact h2 pins s1 σ1 H1 _ _ Q I1 b q1
def cQi(K:cQz)(n:Nat)(t:TGs):TG:=λv σ H Q=>∃a xs,v= .ref a/\SqT K H a xs/\xs.length=n/\t xs σ H Q
def aWy{es:List Expr}{k:Nat}{t:TGs}{n:Nat}(f:X.calm=true)(h:PGs X es t) (l:(cVC es X.env).length=n:=by rfl) (c:(cVC es X.env).findIdx? (·.1)=none:=by rfl):PG X (.Tuple es k pos) (cQi X.K n t):=by
 intro pins s σ H v u Q I r hw;obtain⟨a,xs,m,p,hl,hw⟩:=hw;subst m;cases r;obtain⟨g,d,j,w⟩:=I.tuple p;refine assign_Tuple_tuple (I.ok.hd f) j (by simp[l,<- hl,d.length]) c λh' q=>?_;have i:Inv X pins σ H {s with heap:=h'}:=I.kept (t':=s.toks) λb o e=>q b o (cQV (cQN e)) e;exact h pins _ σ H xs _ Q i (by simpa using d) hw
def cQh(to a:TE)(t:bYE):TG:=λv σ H Q=>to σ H λo H1=>a σ H1 λi H2=>t o i v H2 λb=>Q σ b
def X0{o i:Expr}{to a:TE}{t:bYE}(c:PE X o to)(hi:PE X i a)(b:bY3 X t)
  (d:∀v,assign (.Subscript o i pos) X.env v=(do
   let ov <- cJ1 [v] (eval o X.env)
   let iv <- cJ1 [v,ov] (eval i X.env)
   standAt pos
   cJ1 [v,ov,iv] (setItem ov iv v)
   release [v,ov,iv] []):=by intro _;rfl):PG X (.Subscript o i pos) (cQh to a t):=by
 intro pins s σ H v u Q I r h
 rw[d]
 refine cQy (cXP (thn (c pins s σ H _ I h) λov s1 ⟨x,H1,I1,r1,q1⟩=>?_))
 refine cQy (cXP (thn (hi pins s1 σ H1 _ I1 q1) λiv s2 ⟨y,H2,I2,r2,q2⟩=>?_))
 refine cQy (cVl (cQy (cXP (thn (b pins s2 σ H2 x y v ov iv u _ I2 r1 r2 r q2) λ_ s3 ⟨H3,I3,q3⟩=>?_))))
 exact wpAny_release ⟨σ,H3,I3,q3⟩
def bYx(te:TE)(g:TG):TS:=λD σ H=>te σ H λx H1=>g x σ H1 D.nx
def uQ{tg e:Expr}{te:TE}{g:TG}(c:PE X e te)(b:PG X tg g)(a:swapsWithSole [tg] e pos.line X.env=pure false:=by rfl)(hw:swappedStores [tg] e X.env=pure none:=by rfl)
  (h1:(cVC [tg] X.env).map (·.2)= [assign tg X.env]:=by rfl):PS X (.Assign [tg] e pos) (bYx te g):=by
 intro pins s σ H D I h
 refine wpAny_Assign_stores (thn (c pins s σ H _ I h) λv s1 ⟨x,H1,I1,r1,q1⟩=>?_) a hw
 rw[h1]
 exact thn (b pins s1 σ H1 x v _ I1 r1 q1) λ_ d q=>q
def yU{i:Nat}{x:Str}{e:Expr}{te:TE}{pos':Pos}(c:PE X e te)(b:X.N.Nodup:=by exact ‹yO _ _ _›.nd)(hi:X.N[i]? =some x:=by rfl)(g:Loc X.env.scope x:=by first|exact Or.inl rfl|exact Or.inr rfl)(a:swapsWith e (some (.Name x pos')) pos.line X.env=pure false:=by rfl)(d:X.fn x=true\/X.env.scope.names.lookup x=some .local:=by first|exact .inl rfl|exact .inr rfl|assumption):
  PS X (.Assign [.Name x pos'] e pos) (bYx te (yW i)):=by
 intro pins s σ H D I h
 refine wpAny_Assign_Name (thn (c pins s σ H _ I h) λv s1 ⟨y,H1,I1,r1,q1⟩=>?_) a
 exact aWY I1 b hi g r1 (λj f=>⟨_,H1,f,q1⟩) d
end
section
variable {X:Cx}{pos:Pos}
def bYm(c:TT)(tb:TS):TS:=λD σ H=>∃W:Nat->St->Hp->Prop,(∃m,W m σ H)/\∀m σ H,W m σ H->
 c σ H λb H1=>if b=true then ∃N:St->Hp->Prop,(∀a H',N a H'->∃d,d<m/\W d a H')/\tb {D with nx:=N,ct:=N,bk:=D.nx} σ H1 else D.nx σ H1
def jO{c:Expr}{body:List Stmt}{tc:TT}{tb:TS}(r:PassesOwn (cQH X.prog X.w) X.A X.env X.xe)(t:PT X c tc)(C:PSs X body tb):PS X (.While c body [] pos) (bYm tc tb):=by
 intro pins s σ H D I h;obtain⟨W,⟨x,B⟩,turn⟩:=h;refine wpAny_While (codeAny_whileLoop (λn s'=>∃e H',Inv X pins e H' s'/\W n e H') ?_ x ⟨σ,H,I,B⟩);rintro n y ⟨d,H1,z,u⟩;refine cZ3 r (thn (t pins y d H1 _ z (turn n d H1 u)) λb s2 ⟨H2,I2,j⟩=>?_);cases b with
 |true=>
  obtain⟨N,q,j⟩:=j;rw[if_pos rfl];refine cZ3 r (thn (C pins s2 d H2 _ I2 j) λf E i=>?_);cases f with
  |next=>obtain⟨a,g,p,k⟩:=i;obtain⟨l,m,o⟩:=q a g k;exact⟨l,m,a,g,p,o⟩
  |cont=>obtain⟨a,g,p,k⟩:=i;obtain⟨l,m,o⟩:=q a g k;exact⟨l,m,a,g,p,o⟩
  |brk=>exact i
  |ret v=>exact i
 |false=>rw[if_neg Bool.false_ne_true];exact cVI ⟨d,H2,I2,j⟩
end
structure It where
 go:Nat->Hp->Prop
 yld:Nat->Hp->V->Hp->Prop
 stop:Nat->Hp->Prop
def bJV(X:Cx)(pins:List (Addr×Obj))(H:Hp)(b:Addr):Prop:=
 H b=none/\b≠X.env.locals/\b∉X.fs/\(b∈X.ex\/X.s₀.heap.objs.size<=b)/\(∀x c,X.env.cells.lookup x=some c->c≠b)/\∀p∈X.pn++pins,p.1≠b
def Inv.fpOk{X:Cx}{pins:List (Addr×Obj)}{σ:St}{H H':Hp}{s:cQA}{b:Addr}(I:Inv X pins σ H s)(a:s.heap.objs.size<=b)(f:H' b=none):bJV X pins H' b:=by
 refine⟨f,cZZ (cQ1 I.lt a),I.nofs a,.inr (cQ7 I.sz a),λx c e z=>?_,λp d z=>?_⟩
 ·obtain⟨v,q⟩:=I.cell x c e;exact absurd (cQ1 q.lt (by rw[z];exact a)) (cXG _)
 ·exact absurd (cQ1 (cQN (I.pin p d).1) (by rw[z];exact a)) (cXG _)
structure bYs(P:cQT)(w:cQ2)(K:cQz)(tg:Expr)(J:It)(fp:List Addr)(it:Addr)(tn:Nat->Heap->Prop):Prop where
 mem:it∈fp
 obj:∀i h,tn i h->∀b∈fp,∃o,h.get? b=some o/\∀v,o.data≠ .cell v
 keep:∀i h h',tn i h->(∀b∈fp,∀o,h.get? b=some o->h'.get? b=some o)->tn i h'
 item:∀ (X:Cx),X.prog=P->X.w=w->X.K=K->X.calm=true->∀ (i:Nat)(pins:List (Addr×Obj))(s:cQA)(σ:St)(H:Hp)(E:cQx->cQA->Prop),Inv X pins σ H s->(∀b∈fp,bJV X pins H b)->tn i s.heap->J.go i H->
  cQF (cQH P w) X.A (pyNext (.ref it)) (λr s1=>∃u,r=some u/\
   cQF (cQH P w) X.A (cVG tg (.ref it) u) (λ_ s2=>∃x H',Inv X pins σ H' s2/\wE x u/\J.yld i H x H'/\tn (i+1) s2.heap/\∀b∈fp,H' b=none) E s1) E s
 done:∀ (X:Cx),X.prog=P->X.w=w->X.K=K->X.calm=true->∀ (i:Nat)(pins:List (Addr×Obj))(s:cQA)(σ:St)(H:Hp)(E:cQx->cQA->Prop),Inv X pins σ H s->(∀b∈fp,bJV X pins H b)->tn i s.heap->J.stop i H->
  cQF (cQH P w) X.A (pyNext (.ref it)) (λr s1=>r=none/\Inv X pins σ H s1) E s
 self:∀ (A:cXi)(i:Nat)(s:cQA)(Q:cQx->cQA->Prop)(E:cQx->cQA->Prop),tn i s.heap->Q (.ref it) s->cQF (cQH P w) A (pyIter (.ref it)) Q E s
abbrev TI:=St->Hp->(It->Hp->Prop)->Prop
def PIE(X:Cx)(pins:List (Addr×Obj))(σ:St)(tg:Expr)(R:It->Hp->Prop)(a:cQx)(e:cQA):Prop:=
 ∃ (d:Addr)(c:List Addr)(tn:Nat->Heap->Prop)(J:It)(H':Hp),a= .ref d/\Inv X pins σ H' e/\bYs X.prog X.w X.K tg J c d tn/\tn 0 e.heap/\(∀b∈c,bJV X pins H' b)/\R J H'
def PI(X:Cx)(tg a:Expr)(c:TI):Prop:=
 ∀ (pins:List (Addr×Obj))(s:cQA)(σ:St)(H:Hp)(R:It->Hp->Prop),Inv X pins σ H s->c σ H R->
  cQF (cQH X.prog X.w) X.A (eval a X.env) (λv b=>cQF (cQH X.prog X.w) X.A (pyIter v) (PIE X pins σ tg R) X.xe b) X.xe s
def bKB{M:Model}{A:cXi}{E:cQx->cQA->Prop}{s:cQA}{tg:Expr}{it:Addr}{u:cQx}{o:Obj}{n:String}{vs:Array cQx}{Q:Unit->cQA->Prop}(b:s.heap.get? it=some o)(c:o.cls= .type n)(d:o.data= .fields vs) (e: ["enumerate","zip","dict_itemiterator","dict_reverseitemiterator","odict_iterator","itertools.zip_longest","itertools.pairwise"].contains n=false) (a:Q () s):cQF M A (cVG tg (.ref it) u) Q E s:=by
 unfold cVG;cases tg<;> first
  |exact cQC a
  |(cases u<;> first
    |exact cQC a
    |(refine cQy (wpAny_load b ?_)
      rw[c,d]
      show cQF M A (if(["enumerate","zip","dict_itemiterator","dict_reverseitemiterator","odict_iterator","itertools.zip_longest","itertools.pairwise"].contains n && vs[0]? ==some (cXR _))=true then _ else _) Q E s
      rw[if_neg (by intro h;rw[e,Bool.false_and]at h;cases h)]
      exact cQC a))
def Itl(K:cQz)(a:Addr):It:=
 ⟨λi H=>∃xs x,SqL K H a xs/\xs[i]? =some x,λi H x H'=>H'=H/\∀xs,SqL K H a xs->xs[i]? =some x,λi H=>∃xs,SqL K H a xs/\xs.length<=i⟩
def Itr(lo:Int)(n:Nat):It:=⟨λi _=>i<n,λi H x H'=>H'=H/\x= .int (lo+i),λi _=>n<=i⟩
def bXT{P:cQT}{w:cQ2}{K:cQz}{tg:Expr}(a it:Addr):bYs P w K tg (Itl K a) [it] it (λi h=>h.IsListIter it a i) where
 mem:=by simp
 obj:=λi h st b hb=>by
  have e:b=it:=by simpa using hb
  subst e
  obtain⟨o,e,c,d⟩:=st
  exact⟨o,e,λv z=>by rw[d]at z;cases z⟩
 keep:=λi h h' st k=>st.at λo e=>k it (by simp) o e
 item:=by
  intro X hP hw hK hc i pins s σ H E I hf st hg
  subst hP hw hK
  obtain⟨xs,x,hq,hx⟩:=hg
  obtain⟨its,rv,p,hz⟩:=I.list hq
  obtain⟨u,hu,ru⟩:=rv.get hx
  obtain⟨f0,f1,f2,f3,f4,f5⟩:=hf it (by simp)
  refine wpAny_pyNext_list_item st p.isList (x:=u) (by simpa using hu) λh' st' sb=>?_
  have I1:Inv X pins σ H {s with heap:=h'}:=I.turned (t':=s.toks) (λb o hb e=>(sb.2 b hb).trans e) f0 f1 f3 f4 f5
  obtain⟨o,e,c,d⟩:=id st'
  exact⟨u,rfl,bKB (s:={s with heap:=h'}) e c d (by decide) ⟨x,H,I1,ru,⟨rfl,λys hy=>by rw[I.list_inj hy hq];exact hx⟩,st',λb hb=>(hf b hb).1⟩⟩
 done:=by
  intro X hP hw hK hc i pins s σ H E I hf st hg
  subst hP hw hK
  obtain⟨xs,hq,hx⟩:=hg
  obtain⟨its,rv,p,hz⟩:=I.list hq
  obtain⟨f0,f1,f2,f3,f4,f5⟩:=hf it (by simp)
  have hl:=rv.length
  exact wpAny_pyNext_list_end (I.ok.hd hc) st p.isList (by simp;omega) λh' eb=>⟨rfl,I.turned (t':=s.toks) (λb o hb e=>eb b o hb e) f0 f1 f3 f4 f5⟩
 self:=λ_ _ _ _ _ st h=>wpAny_pyIter_listiter st h
def aYm{P:cQT}{w:cQ2}{K:cQz}{tg:Expr}(it:Addr)(lo:Int)(n:Nat):bYs P w K tg (Itr lo n) [it] it (λi h=>IsRangeIter h it (lo+(i:Nat)*1) ((n:Int) - (i:Nat)) 1) where
 mem:=by simp
 obj:=λi h st b hb=>by
  have e:b=it:=by simpa using hb
  subst e
  exact⟨_,st,λv z=>by
   have z':Data.fields _=Data.cell v:=z
   cases z'⟩
 keep:=λi h h' st k=>k it (by simp) _ st
 item:=by
  intro X hP hw hK hc i pins s σ H E I hf st hg
  subst hP hw hK
  obtain⟨f0,f1,f2,f3,f4,f5⟩:=hf it (by simp)
  have W:=Walks.range (prog:=X.prog) (w:=X.w) (I.ok.hd hc) it lo 1 n
  refine W.item i s _ _ hg st λv h' tk hv st' kk=>?_
  obtain⟨t,rfl⟩:=hv
  have I1:Inv X pins σ H {s with heap:=h',toks:=tk}:=I.turned (λb o hb e=>kk b o (by simpa using hb) e) f0 f1 f3 f4 f5
  refine⟨_,rfl,bKB (s:={s with heap:=h',toks:=tk}) (n:="range_iterator") st' rfl rfl (by decide) ⟨.int (lo+i),H,I1,⟨t,?_⟩,⟨rfl,rfl⟩,st',λb hb=>(hf b hb).1⟩⟩
  rw[Int.mul_one]
 done:=by
  intro X hP hw hK hc i pins s σ H E I hf st hg
  subst hP hw hK
  obtain⟨f0,f1,f2,f3,f4,f5⟩:=hf it (by simp)
  exact wpAny_pyNext_range_end (I.ok.hd hc) st (by have:n<=i:=hg;omega) λh' eb=>⟨rfl,I.turned (t':=s.toks) (λb o hb e=>eb b o hb e) f0 f1 f3 f4 f5⟩
 self:=λ_ _ _ _ _ st h=>wpAny_pyIter_rangeiter st h
end L2
namespace L2
open PySem PySem.Spec PyProof.Rows
section
variable {X:Cx}{tg:Expr}
def bYK(K:cQz)(tl:TE):TI:=λσ H R=>tl σ H λx H1=>∃a,x= .ref a/\(∃xs,SqL K H1 a xs)/\R (Itl K a) H1
def xN{l:Expr}{tl:TE}(hl:PE X l tl):PI X tg l (bYK X.K tl):=by
 intro pins s σ H R I h;refine thn (hl pins s σ H _ I h) λv s1 ⟨x,H1,I1,r1,q1⟩=>?_;obtain⟨a,e,⟨xs,f⟩,q⟩:=q1;subst e;cases r1;obtain⟨c,i,p,g⟩:=I1.list f;refine cVg p.isList ?_;refine⟨s1.heap.objs.size,[s1.heap.objs.size],_,_,H1,rfl,I1.kept (t':=s1.toks) λb o e=>cQD _ e,bXT a _,⟨_,cQY _ rfl,rfl,rfl⟩,λb d=>?_,q⟩;have e:b=s1.heap.objs.size:=by simpa using d
 subst e;exact I1.fpOk (cQE _) (I1.hok.fresh (cQE _))
def bZ9{pins:List (Addr×Obj)}{σ:St}{H:Hp}{s:cQA}{R:It->Hp->Prop}{E:cQx->cQA->Prop}{lo hi:Int}{t u v:Tok}{tk:Nat}(I:Inv X pins σ H s)(h1: -(2 ^ 62)<=lo)(h2:lo<2 ^ 62)(c: -(2 ^ 62)<=hi)(f:hi<2 ^ 62) (q:R (Itr lo (hi - lo).toNat) H):cQF (cQH X.prog X.w) X.A (pyIter (.ref s.heap.objs.size)) (PIE X pins σ tg R) E {s with heap:=s.heap.push {cls:= .type "range",data:= .fields #[.int lo t,.int hi u,.int 1 v] },toks:=tk}:=by
 refine wpAny_pyIter_range (IsRange.new ..) (small_one h1 h2 c f) ?_;have a:Inv X pins σ H {s with heap:=s.heap.push {cls:= .type "range",data:= .fields #[.int lo t,.int hi u,.int 1 v] },toks:=tk}:=I.kept λb o e=>cQD _ e;refine⟨(s.heap.push {cls:= .type "range",data:= .fields #[.int lo t,.int hi u,.int 1 v] }).objs.size,[(s.heap.push {cls:= .type "range",data:= .fields #[.int lo t,.int hi u,.int 1 v] }).objs.size],_,_,H,rfl,a.kept (t':=tk) λb o e=>cQD _ e,aYm _ lo (hi - lo).toNat,?_,λb h=>?_,q⟩
 ·have g:lo+((0:Nat):Int)*1=lo:=by simp
  have d:(((hi - lo).toNat:Nat):Int) - ((0:Nat):Int)=Builtin.Range.rangeSize lo hi 1:=by rw[rangeSize_one];split<;> omega
  show IsRangeIter _ _ (lo+((0:Nat):Int)*1) ((((hi - lo).toNat:Nat):Int) - ((0:Nat):Int)) 1;rw[g,d];exact cQY _ rfl
 ·have e:b=(s.heap.push {cls:= .type "range",data:= .fields #[.int lo t,.int hi u,.int 1 v] }).objs.size:=by simpa using h
  subst e;exact a.fpOk (cQE _) (a.hok.fresh (cQE _))
def bYL(ta:TA):TI:=λσ H R=>ta σ H λa H1=>∃j:Int,a= [.int j]/\ -(2 ^ 62)<=j/\j<2 ^ 62/\R (Itr 0 j.toNat) H1
def zY{a:Expr}{ta:TA}{p pos:Pos}(d:Gl X "range")(i:X.mg "range"=none)(g:PA X [a] ta)(c:cXe [a] X.env= [(false,eval a X.env)]:=by rfl):PI X tg (.Call (.Name "range" p) [a] [] pos) (bYL ta):=by
 intro pins s σ H R I h;refine Call_ (aX6 I d i boot_range (cJK (thn (g pos pins s σ H _ I h) λus s1 ⟨vs,H1,I1,r1,b⟩=>?_) c rfl));obtain⟨j,e,b,k,q⟩:=b;subst e;cases r1 with
 |cons r f=>cases f;obtain⟨t,rfl⟩:=r;exact call_range_1 (bZ9 I1 (by omega) (by omega) b k (by simpa using q))
def cQs(d:TI)(g:TG)(tb:TS):TS:=λD σ H=>d σ H λJ H1=>∃W:Nat->Nat->St->Hp->Prop,(∃m,W 0 m σ H1)/\∀i m σ H,W i m σ H->
 (J.stop i H/\D.nx σ H)\/(J.go i H/\∃N:St->Hp->Prop,(∀a H',N a H'->∃c,c<m/\W (i+1) c a H')/\∀x H',J.yld i H x H'->g x σ H' λb H2=>tb {D with nx:=N,ct:=N,bk:=D.nx} b H2)
def aJH(a:List Addr)(h:Heap):List (Addr×Obj):=a.filterMap λb=>(h.get? b).map λo=>(b,o)
def qV{a:List Addr}{h:Heap}{b:Addr}{o:Obj}(c:b∈a)(e:h.get? b=some o):(b,o)∈aJH a h:=List.mem_filterMap.mpr ⟨b,c,by rw[e];rfl⟩
def bQj{a:List Addr}{h:Heap}{p:Addr×Obj}(f:p∈aJH a h):p.1∈a/\h.get? p.1=some p.2:=by
 obtain⟨b,c,e⟩:=List.mem_filterMap.mp f;cases q:h.get? b with
 |none=>rw[q]at e;cases e
 |some o=>rw[q]at e;have d:(b,o)=p:=cQS e;subst d;exact⟨c,q⟩
def Inv.pinned{pins:List (Addr×Obj)}{σ:St}{H:Hp}{s:cQA}{a:List Addr}(I:Inv X pins σ H s)(j:∀b∈a,bJV X pins H b)(h:∀b∈a,∃o,s.heap.get? b=some o/\∀v,o.data≠ .cell v):Inv X (pins++aJH a s.heap) σ H s:=
 I.pins_of λp k=>(cQ4.mp k).elim (λz=>I.pin p (cQU _ z)) λz=>by obtain⟨f,e⟩:=bQj z;obtain⟨l,i,g,_⟩:=j p.1 f;obtain⟨o,c,d⟩:=h p.1 f;rw[e]at c;cases c;exact⟨e,l,i,g,d⟩
def Inv.unpinned{pins pl:List (Addr×Obj)}{σ:St}{H:Hp}{s:cQA}(I:Inv X (pins++pl) σ H s):Inv X pins σ H s:=I.pins_of λp a=>I.pin p (cQU _ (cZl _ a))
def wT{q:Expr}{body:List Stmt}{Q:TI}{g:TG}{tb:TS}{pos:Pos}(B:PassesOwn (cQH X.prog X.w) X.A X.env X.xe)(V:X.calm=true)(hi:PI X tg q Q)(hg:PG X tg g)(k:PSs X body tb) (hs:∀x,cV2 q X.env x=pure x:=by intro _;rfl):PS X (.For tg q body [] pos) (cQs Q g tb):=by
 intro pins s σ H D I h;refine wpAny_For (thn (hi pins s σ H _ I h) λv s1 h1=>thn h1 λY s2 h2=>?_) hs;obtain⟨it,C,tn,J,H2,e,I2,T,M,U,W,⟨m0,w0⟩,turn⟩:=h2;subst e;have y:∀ {H':Hp},(∀b∈C,H' b=none)->∀b∈C,bJV X pins H' b:=λhn b k=>⟨hn b k,(U b k).2⟩;refine codeAny_forLoop_any (λn s'=>∃i p H',Inv X pins p H' s'/\tn i s'.heap/\(∀b∈C,H' b=none)/\W i n p H') ?_ m0 ⟨0,σ,H2,I2,M,λb k=>(U b k).1,w0⟩;rintro n R ⟨i,j,L,S,K,G,w3⟩;rcases turn i n j L w3 with⟨E,qn⟩|⟨go,N,Z,step⟩
 ·refine cZ3 B (thn (T.done X rfl rfl rfl V i pins R j L X.xe S (y G) K E) λr s4 ⟨hr,I4⟩=>?_);subst hr;exact cVI ⟨j,L,I4,qn⟩
 ·refine cZ3 B (thn (T.item X rfl rfl rfl V i pins R j L X.xe S (y G) K go) λr s4 ⟨u,hr,h4⟩=>?_);subst hr;refine cZ3 B (thn h4 λ_ s5 ⟨x,H5,I5,r5,y5,st5,fr5⟩=>?_);have P:=I5.pinned (y fr5) (T.obj _ _ st5);refine cZ3 B (thn (hg _ s5 j H5 x u _ P r5 (step x H5 y5)) λ_ s6 ⟨σ6,H6,I6,q6⟩=>?_);refine cZ3 B (thn (k _ s6 σ6 H6 _ I6 q6) λf O z=>?_);have c:∀ {a:St} {l:Hp},Inv X (pins++aJH C s5.heap) a l O->N a l->∃m,m<n/\∃i p H',Inv X pins p H' O/\tn i O.heap/\(∀b∈C,H' b=none)/\W i m p H':=λ{a l} t F=>by
   obtain⟨m',hm,w7⟩:=Z a l F;refine⟨m',hm,i+1,a,l,t.unpinned,T.keep _ _ _ st5 λb k o e=>(t.pin (b,o) (cQU _ (cQU _ (qV k e)))).1,λb k=>?_,w7⟩;obtain⟨o,e,d⟩:=T.obj _ _ st5 b k;exact(t.pin (b,o) (cQU _ (cQU _ (qV k e)))).2.1
  cases f with
  |next=>obtain⟨a,l,t,F⟩:=z;exact c t F
  |cont=>obtain⟨a,l,t,F⟩:=z;exact c t F
  |brk=>obtain⟨a,l,t,z⟩:=z;exact⟨a,l,t.unpinned,z⟩
  |ret v=>obtain⟨x7,a,l,t,r7,z⟩:=z;exact⟨x7,a,l,t.unpinned,r7,z⟩
end
def zS{K:cQz}{a:Addr}{xs:List V}{g:TG}{tb:TS}{D:aYo}{σ:St}{H:Hp}(b:Nat->St->Hp->Prop)(h0:b 0 σ H)(hl:∀i σ H,i<=xs.length->b i σ H->SqL K H a xs) (j:∀i x σ H,xs[i]? =some x->b i σ H->g x σ H λd H2=>tb {D with nx:=b (i+1),ct:=b (i+1),bk:=D.nx} d H2) (k:∀σ H,b xs.length σ H->D.nx σ H): ∃W:Nat->Nat->St->Hp->Prop,(∃m,W 0 m σ H)/\∀i m σ H,W i m σ H-> ((Itl K a).stop i H/\D.nx σ H)\/((Itl K a).go i H/\∃N:St->Hp->Prop,(∀c H',N c H'->∃h,h<m/\W (i+1) h c H')/\∀x H',(Itl K a).yld i H x H'->g x σ H' λd H2=>tb {D with nx:=N,ct:=N,bk:=D.nx} d H2):=by
 refine⟨λi m σ H=>m=xs.length - i/\i<=xs.length/\b i σ H,⟨xs.length,by simp,cXz _,h0⟩,?_⟩;rintro i m σ H ⟨rfl,hi,p⟩;have q:=hl i σ H hi p;by_cases f:i<xs.length
 ·refine .inr ⟨⟨xs,xs[i],q,by simp[f]⟩,b (i+1),λc H' l=>⟨xs.length - (i+1),by omega,rfl,f,l⟩,λx H' y=>?_⟩;obtain⟨e,y⟩:=y;subst e;exact j i x σ _ (y xs q) p
 ·have e:i=xs.length:=by omega
  subst e;exact .inl ⟨⟨xs,q,cQE _⟩,k σ H p⟩
def vO{lo:Int}{n:Nat}{g:TG}{tb:TS}{D:aYo}{σ:St}{H:Hp}(b:Nat->St->Hp->Prop)(h0:b 0 σ H) (h:∀i σ H,i<n->b i σ H->g (.int (lo+i)) σ H λd H2=>tb {D with nx:=b (i+1),ct:=b (i+1),bk:=D.nx} d H2) (j:∀σ H,b n σ H->D.nx σ H): ∃W:Nat->Nat->St->Hp->Prop,(∃m,W 0 m σ H)/\∀i m σ H,W i m σ H-> ((Itr lo n).stop i H/\D.nx σ H)\/((Itr lo n).go i H/\∃N:St->Hp->Prop,(∀a H',N a H'->∃f,f<m/\W (i+1) f a H')/\∀x H',(Itr lo n).yld i H x H'->g x σ H' λd H2=>tb {D with nx:=N,ct:=N,bk:=D.nx} d H2):=by
 refine⟨λi m σ H=>m=n - i/\i<=n/\b i σ H,⟨n,by simp,cXz _,h0⟩,?_⟩;rintro i m σ H ⟨rfl,hi,p⟩;by_cases c:i<n
 ·refine .inr ⟨c,b (i+1),λa H' k=>⟨n - (i+1),by omega,rfl,c,k⟩,λx H' y=>?_⟩;obtain⟨e,y⟩:=y;subst e y;exact h i σ _ c p
 ·have e:i=n:=by omega
  subst e;exact .inl ⟨cQE _,j σ H p⟩
end L2
namespace L2
open PySem PySem.Spec PyProof.Rows
abbrev R2:=V->V->Hp->VK->Prop
def OpR(X:Cx)(f:cQx->cQx->Sem cQx)(r:R2):Prop:=
 ∀ (pins:List (Addr×Obj))(s:cQA)(σ:St)(H:Hp)(x y:V)(v u:cQx)(Q:VK),Inv X pins σ H s->wE x v->wE y u->r x y H Q->
  cQF (cQH X.prog X.w) X.A (f v u) (EP X pins σ Q) X.xe s
def UnR(X:Cx)(f:cQx->Sem cQx)(r:V->Hp->VK->Prop):Prop:=
 ∀ (pins:List (Addr×Obj))(s:cQA)(σ:St)(H:Hp)(x:V)(v:cQx)(Q:VK),Inv X pins σ H s->wE x v->r x H Q->
  cQF (cQH X.prog X.w) X.A (f v) (EP X pins σ Q) X.xe s
def jX(X:Cx)(f:cQx)(r:List V->Hp->VK->Prop):Prop:=
 ∀ (pins:List (Addr×Obj))(s:cQA)(σ:St)(H:Hp)(xs:List V)(a:List cQx)(Q:VK),Inv X pins σ H s->zD xs a->r xs H Q->
  cQF (cQH X.prog X.w) X.A (call f a) (EP X pins σ Q) X.xe s
def tOp(r:R2)(ta tb:TE):TE:=λσ H Q=>ta σ H λx H1=>tb σ H1 λy H2=>r x y H2 Q
def tUn(r:V->Hp->VK->Prop)(ta:TE):TE:=λσ H Q=>ta σ H λx H1=>r x H1 Q
def rI(C:Int->Int->Prop)(g:Int->Int->V):R2:=λx y H Q=>∃i j,x= .int i/\y= .int j/\C i j/\Q (g i j) H
def rI0(g:Int->Int->V):R2:=λx y H Q=>∃i j,x= .int i/\y= .int j/\Q (g i j) H
def rU(g:Int->V):V->Hp->VK->Prop:=λx H Q=>∃i,x= .int i/\Q (g i) H
section
variable {X:Cx}{a b c:Expr}{ta tb tc:TE}{pos:Pos}
def bYG(g:PE X a ta)(j:PE X b tb){pins:List (Addr×Obj)}{s:cQA}{σ:St}{H:Hp}{R:V->V->Hp->Prop}(I:Inv X pins σ H s) (h:ta σ H λx H1=>tb σ H1 λy H2=>R x y H2) {Q:cQx->cQA->Prop} {f:cQx->cQx->Sem cQx} (i:∀v u e x y H2,Inv X pins σ H2 e->wE x v->wE y u->R x y H2->cQF (cQH X.prog X.w) X.A (f v u) Q X.xe e): cQF (cQH X.prog X.w) X.A (eval a X.env) (λv c=>cQF (cQH X.prog X.w) X.A (eval b X.env) (λu d=>cQF (cQH X.prog X.w) X.A (f v u) Q X.xe d) X.xe c) X.xe s:=by
 refine thn (g pins s σ H _ I h) λv s1 ⟨x,H1,I1,r1,q1⟩=>?_;refine thn (j pins s1 σ H1 _ I1 q1) λu e ⟨y,H2,I2,r2,q2⟩=>?_;exact i v u e x y H2 I2 r1 r2 q2
def yV{op:Operator}{r:R2}(d:OpR X (cZ5 op) r)(f:PE X a ta)(j:PE X b tb):PE X (.BinOp a op b pos) (tOp r ta tb):=by
 intro pins s σ H Q I h;exact wpAny_BinOp (bYG f j I h λv u e x y H2 i c g q=>d pins e σ H2 x y v u Q i c g q)
def bQH{op:UnaryOp}{r:V->Hp->VK->Prop}(c:UnR X (unaryOp op) r)(b:PE X a ta):PE X (.UnaryOp op a pos) (tUn r ta):=by
 intro pins s σ H Q I h;exact UnaryOp_ (thn (b pins s σ H _ I h) λv s1 ⟨x,H1,I1,r1,q1⟩=>c pins s1 σ H1 x v Q I1 r1 q1)
def opI{f:cQx->cQx->Sem cQx}{C:Int->Int->Prop}{g:Int->Int->Int} (a:∀ (i j:Int)(t u:Tok)(s:cQA)(Q:cQx->cQA->Prop)(E:cQx->cQA->Prop),C i j->Q (.int (g i j) s.toks) {s with toks:=s.toks+1}->cQF (cQH X.prog X.w) X.A (f (.int i t) (.int j u)) Q E s): OpR X f (rI C λi j=> .int (g i j)):=by
 intro pins s σ H x y v u Q I b e h;obtain⟨i,j,rfl,rfl,c,q⟩:=h;obtain⟨t,rfl⟩:=b;obtain⟨d,rfl⟩:=e;exact a i j t d s _ _ c ⟨.int (g i j),H,I.tok _,⟨_,rfl⟩,q⟩
def bY5{f:cQx->cQx->Sem cQx}{g:Int->Int->Int} (a:∀ (i j:Int)(t u:Tok)(s:cQA)(Q:cQx->cQA->Prop)(E:cQx->cQA->Prop),Q (.int (g i j) s.toks) {s with toks:=s.toks+1}->cQF (cQH X.prog X.w) X.A (f (.int i t) (.int j u)) Q E s): OpR X f (rI0 λi j=> .int (g i j)):=by
 intro pins s σ H x y v u Q I b d h;obtain⟨i,j,rfl,rfl,q⟩:=h;obtain⟨t,rfl⟩:=b;obtain⟨c,rfl⟩:=d;exact a i j t c s _ _ ⟨.int (g i j),H,I.tok _,⟨_,rfl⟩,q⟩
def bYu{f:cQx->cQx->Sem cQx}{g:Int->Int->Bool} (a:∀ (i j:Int)(t u:Tok)(s:cQA)(Q:cQx->cQA->Prop)(E:cQx->cQA->Prop),Q (.bool (g i j)) s->cQF (cQH X.prog X.w) X.A (f (.int i t) (.int j u)) Q E s): OpR X f (rI0 λi j=> .bl (g i j)):=by
 intro pins s σ H x y v u Q I b d h;obtain⟨i,j,rfl,rfl,q⟩:=h;obtain⟨t,rfl⟩:=b;obtain⟨c,rfl⟩:=d;exact a i j t c s _ _ ⟨.bl (g i j),H,I,rfl,q⟩
def cQc(i j:Int):Prop:=0<j/\j<1073741824
def bY0(i j:Int):Prop:=0<=j/\j<=1000000/\i.natAbs<2 ^ 64
def bYA(i j:Int):Prop:=(-(2 ^ 64)<i/\i<2 ^ 64)\/(-(2 ^ 64)<j/\j<2 ^ 64)
def bYA.ok{i j:Int}(h:bYA i j):IntMulOk i j:=by
 rcases h with⟨h1,h2⟩|⟨h1,h2⟩
 ·exact .of_left (intBits_le_64 h1 h2)
 ·exact .of_right (intBits_le_64 h1 h2)
def zT:OpR X (cZ5 .Add) (rI0 λi j=> .int (i+j)):=bY5 λ_ _ _ _ _ _ _ q=>add_int q
def uF:OpR X (cZ5 .Sub) (rI0 λi j=> .int (i - j)):=bY5 λ_ _ _ _ _ _ _ q=>sub_int q
def aWs:OpR X (cZ5 .Mult) (rI bYA λi j=> .int (i*j)):=opI λ_ _ _ _ _ _ _ a q=>mul_int q a.ok
def aQg:OpR X (cZ5 .FloorDiv) (rI cQc λi j=> .int (i / j)):=opI λi j _ _ _ _ _ a q=>by
 have h1:(0:Int)<j:=a.1;have h2:j<1073741824:=a.2;exact floordiv_int (by omega) (by rw[Int.fdiv_eq_ediv_of_nonneg i (by omega)];exact q) (.inl (PyProof.noPylong_small (by omega)))
def xD:OpR X (cZ5 .Mod) (rI (λ_ j=>0<j) λi j=> .int (i % j)):=opI λi j _ _ _ _ _ a q=>by
 have h1:(0:Int)<j:=a;exact mod_int' (by omega) (by rw[Int.fmod_eq_emod_of_nonneg i (by omega)];exact q)
def aXj:OpR X (cZ5 .Pow) (rI bY0 λi j=> .int (i ^ j.toNat)):=opI λ_ _ _ _ _ _ _ a q=>pow_int_small a.1 a.2.1 a.2.2 q
def unI{f:cQx->Sem cQx}{g:Int->Int} (a:∀ (i:Int)(t:Tok)(s:cQA)(Q:cQx->cQA->Prop)(E:cQx->cQA->Prop),Q (.int (g i) s.toks) {s with toks:=s.toks+1}->cQF (cQH X.prog X.w) X.A (f (.int i t)) Q E s): UnR X f (rU λi=> .int (g i)):=by
 intro pins s σ H x v Q I b h;obtain⟨i,rfl,q⟩:=h;obtain⟨t,rfl⟩:=b;exact a i t s _ _ ⟨.int (g i),H,I.tok _,⟨_,rfl⟩,q⟩
def aJ2:UnR X (unaryOp .USub) (rU λi=> .int (-i)):=unI λ_ _ _ _ _ q=>neg_int q
end
def bY7:V->V->Bool
 |.non,.non=>true|.non,.int _=>true|.int _,.non=>true|.non,.bl _=>true|.bl _,.non=>true|.non,.str _=>true|.str _,.non=>true
 |.int _,.int _=>true|.bl _,.bl _=>true|.str _,.str _=>true|.byt _,.byt _=>true
 |.int _,.str _=>true|.str _,.int _=>true|.bl _,.str _=>true|.str _,.bl _=>true
 |_,_=>false
def rEq:R2:=λx y H Q=>bY7 x y=true/\Q (.bl (decide (x=y))) H
def rNe:R2:=λx y H Q=>bY7 x y=true/\Q (.bl (!decide (x=y))) H
def aYF{i j:Int}:decide (V.int i=V.int j)=(i==j):=by
 rw[Bool.eq_iff_iff];simp
def bJ0{i j:Bool}:decide (V.bl i=V.bl j)=(i==j):=by
 rw[Bool.eq_iff_iff];simp
def aYG{i j:Str}:decide (V.str i=V.str j)=(i==j):=by
 rw[Bool.eq_iff_iff];simp
def aYE{i j:Array UInt8}:decide (V.byt i=V.byt j)=(i.toList==j.toList):=by
 rw[Bool.eq_iff_iff];cases i;cases j;simp
section
variable {X:Cx}{a b c:Expr}{ta tb tc:TE}{pos:Pos}
def xY{pins:List (Addr×Obj)}{σ:St}{H:Hp}{s:cQA}{Q:VK}{k a:Bool}(I:Inv X pins σ H s)(q:Q (.bl k) H)(e:k=a):EP X pins σ Q (.bool a) s:=by
 subst e;exact⟨.bl k,H,I,rfl,q⟩
def zR:OpR X (cZa .Eq) rEq:=by
 intro pins s σ H x y v u Q I d a h;obtain⟨c,q⟩:=h;cases x with
 |non=>
  cases d;cases y with
  |non=>cases a;exact PySem.EqNone.eq_none_none (xY I q (by simp))
  |bl j=>cases a;exact PySem.EqNone.eq_none_bool (xY I q (by simp))
  |int j=>obtain⟨b,rfl⟩:=a;exact PySem.EqNone.eq_none_int (xY I q (by simp))
  |str j=>obtain⟨b,rfl⟩:=a;exact PySem.EqNone.eq_none_str (xY I q (by simp))
  |_=>exact absurd (show false=true from c) Bool.false_ne_true
 |bl i=>
  cases d;cases y with
  |non=>cases a;exact PySem.EqNone.eq_bool_none (xY I q (by simp))
  |bl j=>cases a;exact eq_bool (xY I q bJ0)
  |str j=>obtain⟨b,rfl⟩:=a;exact PySem.EqMixed.eq_bool_str (xY I q (by simp))
  |_=>exact absurd (show false=true from c) Bool.false_ne_true
 |int i=>
  obtain⟨t,rfl⟩:=d;cases y with
  |non=>cases a;exact PySem.EqNone.eq_int_none (xY I q (by simp))
  |int j=>obtain⟨b,rfl⟩:=a;exact eq_int (xY I q aYF)
  |str j=>obtain⟨b,rfl⟩:=a;exact PySem.EqMixed.eq_int_str (xY I q (by simp))
  |_=>exact absurd (show false=true from c) Bool.false_ne_true
 |str i=>
  obtain⟨t,rfl⟩:=d;cases y with
  |non=>cases a;exact PySem.EqNone.eq_str_none (xY I q (by simp))
  |bl j=>cases a;exact PySem.EqMixed.eq_str_bool (xY I q (by simp))
  |int j=>obtain⟨b,rfl⟩:=a;exact PySem.EqMixed.eq_str_int (xY I q (by simp))
  |str j=>obtain⟨b,rfl⟩:=a;exact eq_str (xY I q aYG)
  |_=>exact absurd (show false=true from c) Bool.false_ne_true
 |byt i=>
  obtain⟨t,rfl⟩:=d;cases y with
  |byt j=>obtain⟨b,rfl⟩:=a;exact PySem.W.eq_bytes (xY I q aYE)
  |_=>exact absurd (show false=true from c) Bool.false_ne_true
 |_=>cases y<;> exact absurd (show false=true from c) Bool.false_ne_true
def J7:OpR X (cZa .NotEq) rNe:=by
 intro pins s σ H x y v u Q I d a h;obtain⟨c,q⟩:=h;cases x with
 |non=>
  cases d;cases y with
  |non=>cases a;exact PySem.EqNone.ne_none_none (xY I q (by simp))
  |bl j=>cases a;exact PySem.EqNone.ne_none_bool (xY I q (by simp))
  |int j=>obtain⟨b,rfl⟩:=a;exact PySem.EqNone.ne_none_int (xY I q (by simp))
  |str j=>obtain⟨b,rfl⟩:=a;exact PySem.EqNone.ne_none_str (xY I q (by simp))
  |_=>exact absurd (show false=true from c) Bool.false_ne_true
 |bl i=>
  cases d;cases y with
  |non=>cases a;exact PySem.EqNone.ne_bool_none (xY I q (by simp))
  |bl j=>cases a;exact ne_bool (xY I q (congrArg not bJ0))
  |str j=>obtain⟨b,rfl⟩:=a;exact PySem.EqMixed.ne_bool_str (xY I q (by simp))
  |_=>exact absurd (show false=true from c) Bool.false_ne_true
 |int i=>
  obtain⟨t,rfl⟩:=d;cases y with
  |non=>cases a;exact PySem.EqNone.ne_int_none (xY I q (by simp))
  |int j=>obtain⟨b,rfl⟩:=a;exact ne_int (xY I q (congrArg not aYF))
  |str j=>obtain⟨b,rfl⟩:=a;exact PySem.EqMixed.ne_int_str (xY I q (by simp))
  |_=>exact absurd (show false=true from c) Bool.false_ne_true
 |str i=>
  obtain⟨t,rfl⟩:=d;cases y with
  |non=>cases a;exact PySem.EqNone.ne_str_none (xY I q (by simp))
  |bl j=>cases a;exact PySem.EqMixed.ne_str_bool (xY I q (by simp))
  |int j=>obtain⟨b,rfl⟩:=a;exact PySem.EqMixed.ne_str_int (xY I q (by simp))
  |str j=>obtain⟨b,rfl⟩:=a;exact ne_str (xY I q (congrArg not aYG))
  |_=>exact absurd (show false=true from c) Bool.false_ne_true
 |byt i=>
  obtain⟨t,rfl⟩:=d;cases y with
  |byt j=>obtain⟨b,rfl⟩:=a;exact PySem.W.ne_bytes (xY I q (congrArg not aYE))
  |_=>exact absurd (show false=true from c) Bool.false_ne_true
 |_=>cases y<;> exact absurd (show false=true from c) Bool.false_ne_true
def uM:OpR X (cZa .Lt) (rI0 λi j=> .bl (decide (i<j))):=bYu λ_ _ _ _ _ _ _ q=>lt_int q
def bQA:OpR X (cZa .LtE) (rI0 λi j=> .bl (decide (i<=j))):=bYu λ_ _ _ _ _ _ _ q=>le_int q
def aXY:OpR X (cZa .Gt) (rI0 λi j=> .bl (decide (j<i))):=bYu λ_ _ _ _ _ _ _ q=>gt_int q
def bYN:OpR X (cZa .GtE) (rI0 λi j=> .bl (decide (j<=i))):=bYu λ_ _ _ _ _ _ _ q=>ge_int q
def aX9:OpR X (cZa .Is) (λx y H Q=>y= .non/\Q (.bl (decide (x= .non))) H):=by
 intro pins s σ H x y v u Q I a b h;obtain⟨rfl,q⟩:=h;cases b;refine is_none_gen (xY I q ?_);cases x<;> first
  |(cases a;rfl)
  |(obtain⟨t,rfl⟩:=a;rfl)
def wZ:OpR X (cZa .IsNot) (λx y H Q=>y= .non/\Q (.bl (!decide (x= .non))) H):=by
 intro pins s σ H x y v u Q I a b h;obtain⟨rfl,q⟩:=h;cases b;refine isnot_none_gen (xY I q ?_);cases x<;> first
  |(cases a;rfl)
  |(obtain⟨t,rfl⟩:=a;rfl)
def bVb(b:Expr){op:CmpOp}(h:op≠ .In:=by decide)(h2:op≠ .NotIn:=by decide):cJs op b=false:=by
 have a:(op==CmpOp.In)=false:=by cases op<;> first|rfl|exact absurd rfl h
 have c:(op==CmpOp.NotIn)=false:=by cases op<;> first|rfl|exact absurd rfl h2
 cases b<;> simp[cJs,a,c]
def wL{op:CmpOp}{r:R2}(d:OpR X (cZa op) r)(f:PE X a ta)(k:PE X b tb)(j:cJs op b=false:=by first|exact bVb _|with_unfolding_all rfl):PE X (.Compare a [op] [b] pos) (tOp r ta tb):=by
 intro pins s σ H Q I h;exact wpAny_Compare1 (bYG f k I h λv u e x y H2 i c g q=>d pins e σ H2 x y v u Q i c g q) j
def bYl(t:TE):TT:=λσ H Q=>t σ H λx H'=>∃k,x= .bl k/\Q k H'
def yM{op:CmpOp}{r:R2}(f:OpR X (cZa op) r)(d:PE X a ta)(g:PE X b tb)(i:cJs op b=false:=by first|exact bVb _|with_unfolding_all rfl):PT X (.Compare a [op] [b] pos) (bYl (tOp r ta tb)):=by
 intro pins s σ H Q I h;refine wpAny_isTrue_Compare1 (thn (d pins s σ H _ I h) λv s1 ⟨x,H1,I1,r1,q1⟩=>thn (g pins s1 σ H1 _ I1 q1) λu s2 ⟨y,H2,I2,r2,q2⟩=>
  thn (f pins s2 σ H2 x y v u _ I2 r1 r2 q2) λc s3 ⟨z,H3,I3,r3,k,e,q3⟩=>?_) i
 subst e;cases r3;exact cZA ⟨H3,I3,q3⟩
def bYj(r c:R2)(ta tb tc:TE):TE:=λσ H Q=>ta σ H λx H1=>tb σ H1 λy H2=>r x y H2 λz a=>∃k,z= .bl k/\
 (if k=true then tc σ a λd b=>c y d b Q else Q (.bl false) a)
def bZ7{op f:CmpOp}{r i:R2}(j:OpR X (cZa op) r)(g:OpR X (cZa f) i)(o:PE X a ta)(q:PE X b tb)(l:PE X c tc) (p:lastMarks [op,f] [b,c]=false:=by with_unfolding_all rfl):PT X (.Compare a [op,f] [b,c] pos) (bYl (bYj r i ta tb tc)):=by
 intro pins s σ H Q I h;refine isTrue_chain (thn (o pins s σ H _ I h) λv s1 ⟨x,H1,I1,r1,q1⟩=>test_link (thn (q pins s1 σ H1 _ I1 q1) λu s2 ⟨y,H2,I2,r2,q2⟩=>
  thn (j pins s2 σ H2 x y v u _ I2 r1 r2 q2) λd s3 ⟨z,H3,I3,r3,k,e,q3⟩=>?_)) p
 subst e;cases r3;refine cZA ?_;cases k with
 |false=>obtain⟨t,m,n⟩:=q3;cases m;exact ite_ff ⟨H3,I3,n⟩
 |true=>refine ite_tt (test_last (thn (l pins s3 σ H3 _ I3 q3) λw' s4 ⟨z',H4,I4,r4,q4⟩=>thn (g pins s4 σ H4 y z' u w' _ I4 r2 r4 q4) λd' s5 ⟨z2,H5,I5,r5,k2,e2,q5⟩=>?_));subst e2;cases r5;exact cZA ⟨H5,I5,q5⟩
def aJy:(cQW:Nat)<2 ^ 63:=by rw[cQZ];decide
def aX7:OpR X (cZ5 .Add) (λx y H Q=>∃i j,x= .str i/\y= .str j/\i.length+j.length<=cQW/\Q (.str (i++j)) H):=by
 intro pins s σ H x y v u Q I a c h;obtain⟨i,j,rfl,rfl,d,q⟩:=h;obtain⟨t,rfl⟩:=a;obtain⟨b,rfl⟩:=c;exact add_str (λb tk=>⟨.str (i++j),H,I.tok _,⟨_,rfl⟩,q⟩) d
def aQs{x:V}{us:List cQx}(r:zD [x] us):∃u,us= [u]/\wE x u:=by
 cases r with
 |cons a b=>cases b;exact⟨_,rfl,a⟩
def bYp{x y:V}{us:List cQx}(r:zD [x,y] us):∃u a,us= [u,a]/\wE x u/\wE y a:=by
 cases r with
 |cons c e=>
  cases e with
  |cons d b=>cases b;exact⟨_,_,rfl,c,d⟩
def aYw(b:X.calm=true):jX X (.builtin "max") (λxs H Q=>∃i j,xs= [.int i,.int j]/\Q (.int (if j > i then j else i)) H):=by
 intro pins s σ H xs e Q I r h;obtain⟨i,j,rfl,q⟩:=h;obtain⟨u,d,rfl,⟨t,rfl⟩,⟨c,rfl⟩⟩:=bYp r;refine max_two_ints (I.ok.hd b) λh' tk k=>⟨_,H,I.kept k,?_,q⟩;by_cases a:j > i
 ·rw[if_pos a,if_pos a];exact⟨_,rfl⟩
 ·rw[if_neg a,if_neg a];exact⟨_,rfl⟩
def aYx(b:X.calm=true):jX X (.builtin "min") (λxs H Q=>∃i j,xs= [.int i,.int j]/\Q (.int (if j<i then j else i)) H):=by
 intro pins s σ H xs e Q I r h;obtain⟨i,j,rfl,q⟩:=h;obtain⟨u,d,rfl,⟨t,rfl⟩,⟨c,rfl⟩⟩:=bYp r;refine min_two_ints (I.ok.hd b) λh' tk k=>⟨_,H,I.kept k,?_,q⟩;by_cases a:j<i
 ·rw[if_pos a,if_pos a];exact⟨_,rfl⟩
 ·rw[if_neg a,if_neg a];exact⟨_,rfl⟩
def uC:jX X (.type "int") (λxs H Q=>(∃i,xs= [.int i]/\Q (.int i) H)\/∃k,xs= [.bl k]/\Q (.int (if k then 1 else 0)) H):=by
 intro pins s σ H xs b Q I r h;rcases h with⟨i,rfl,q⟩|⟨k,rfl,q⟩
 ·obtain⟨u,rfl,t,rfl⟩:=aQs r;exact call_int_int ⟨.int i,H,I,⟨_,rfl⟩,q⟩
 ·obtain⟨u,rfl,a⟩:=aQs r;cases a;exact call_int_bool ⟨.int (if k then 1 else 0),H,I.tok _,⟨_,rfl⟩,q⟩
end
end L2
namespace L2
open PySem PySem.Spec PyProof.Rows
structure bVy(h:Heap)(x dx C:Addr)(mA:Str->Option cQx):Prop where
 obj:h.get? x=some (cZJ C dx)
 ns:h.Ns1 dx mA
 ne:dx≠x
def aJz{h:Heap}{dx:Addr}{mA:Str->Option cQx}(n:h.Ns1 dx mA):∃c,h.get? dx=some c/\∀name,cVO name c=some (mA name):=by
 obtain⟨o,es,l,f,g,d,_,j⟩:=n;refine⟨o,f,λname=>?_⟩;have e:=j name;unfold nsFind findBy at e;rw[<- Array.find?_toList]at e;unfold cVO;rw[g];dsimp only;split
 ·rename_i y q;rw[q]at e;exact congrArg some e
 ·rename_i q;rw[q]at e;have a:es.toList.any (·.refKey)=false:=by
   rw[List.any_eq_false];intro y i;obtain⟨z,t,b⟩:=d y (Array.mem_toList_iff.mp i);simp[DictEntry.refKey,b]
  have k:¬es.toList.any (·.refKey)=true:=by rw[a];exact Bool.false_ne_true
  rw[if_neg k];exact congrArg some e
def bVy.look{h:Heap}{x dx C:Addr}{mA:Str->Option cQx}(I:bVy h x dx C mA):∃a,PySem.W.InstAt h x (cZJ C dx) C (some a)/\∀name,cVO name a=some (mA name):=
 let ⟨a,ho,hl⟩:=aJz I.ns
 ⟨a,⟨I.obj,rfl,rfl,ho⟩,hl⟩
section
variable {prog:cQT}{w:cQ2}{A:cXi}{E:cQx->cQA->Prop}{s:cQA}{K:cQz}{x dx C f:Addr}{mA:Str->Option cQx}{name:Str}{v:cQx}
def bVQ{a:Bool}{Q:cQx->cQA->Prop}(X:K.In s.heap)(I:bVy s.heap x dx C mA)(d:cJl K C name=true)(e:cJA K C=true) (f:cXl K (.ref C) name=some none) (c:mA name=some v) (b:PySem.W.handedIn v=true) (h:Q v {s with toks:=s.toks+1}): cQF (cQH prog w) A (getAttr (.ref x) name a) Q E s:=by
 obtain⟨g,J,hl⟩:=I.look;exact PySem.W.get_value X J (cVM d).1 (PySem.W.findObj_own e f rfl (by rw[hl,c])) b h
def bZe{pl:Sem Bool}{Q:cQx×List cQx->cQA->Prop}(X:K.In s.heap)(I:bVy s.heap x dx C mA)(a:cJl K C name=true) (e:cXl K (.ref C) name=some (some (.ref f))) (c:cJk K (.ref f)=true) (b:mA name=none) (h:Q (.ref f,[.ref x]) s): cQF (cQH prog w) A (cJ8 (.ref x) name pl) Q E s:=by
 obtain⟨d,J,hl⟩:=I.look;exact PySem.W.method_fn X J (cVM a).1 (cVM a).2 e (beq_iff_eq.mp c) (by show(cVO name d).map (·.isSome)=some false;rw[hl,b];rfl) h
def bW2{j:List Str}{Q:Unit->cQA->Prop}(X:K.In s.heap)(I:bVy s.heap x dx C mA) (k:cXl K (.ref C) "__setattr__"=some (some (.builtin "object.__setattr__"))) (m:cVe K C=true) (n:PySem.W.takerIn K C name=some none) (p:cJA K C=true) (hw:PySem.Within mA j) (hsz:j.length<=cQW) (h:∀h',bVy h' x dx C (λy=>if y=name then some v else mA y)->cZC dx s.heap h'->Q () {s with heap:=h',toks:=s.toks+2}): cQF (cQH prog w) A (setAttr (.ref x) name v) Q E s:=by
 obtain⟨z,J,hl⟩:=I.look;refine PySem.W.set_plain X J k (PySem.W.osa_open (s:={s with toks:=s.toks+1}) (r:=none) X J m n λb=>?_);obtain⟨B,l,e⟩:=PySem.W.any_some p;have q:s.heap.get? x=some ⟨.ref C,some dx,.plain, #[]⟩:=I.obj;refine cQy (cQC (cQy (cQy (wpAny_loadPart q (cQy (PySem.W.Looks.here (s:={s with toks:=s.toks+1}) (PySem.W.looks_clsIn X l) ?_))))));rw[e];refine cQC (a:=some dx) (cQy (cQC (cQy ?_)));refine wpAny_nsSet1 (s:={s with toks:=s.toks+1}) I.ns λh' d c=>?_;obtain⟨u,o,t,f,g,i⟩:=d.count (PySem.Within.cons name v hw);refine cQy (wpAny_lookBehind f (by rw[g];exact pastItsLine_dict (cQ7 i (by rw[cXy];omega))) ?_);exact cQC (h _ ⟨(c.2 _ (cXg I.ne)).trans I.obj,d,I.ne⟩ c)
def bZx{R:Result->cQA->Prop}{vs:List cQx}{a:List (Str×cQx)}(X:K.In s.heap)(b:PySem.W.makesIn K C=true) (hi:cXl K (.ref C) "__init__"=some (some (.ref f))) (c:PySem.W.typeIn K (.ref f)=some (.type "function")) (h:cZO (cQH prog w) (A.under (.builtin "type.__call__" ⟨.ref C::vs,a⟩)) (.call (.ref f) ⟨.ref (s.heap.objs.size+1)::vs,a⟩) (PySem.W.InitBack (s.heap.objs.size+1) R) {s with heap:=(s.heap.push cZo).push (cZJ C s.heap.objs.size) }): cZO (cQH prog w) A (.call (.ref C) ⟨vs,a⟩) R s:=by
 obtain⟨e,g,d,t,i⟩:=s;exact PySem.W.make_core (PySem.W.makes_of X b) (PySem.W.looks_findIn X hi) (λself=>PySem.W.bind_fn X self c) (.inl rfl) h
end
def aX0(f:Str)(v:V):List (Str×V)->List (Str×V)
 |[]=> [(f,v)]
 |(g,x)::r=>if g=f then(g,v)::r else(g,x)::aX0 f v r
def aXh(f g:Str)(v:V):∀fs:List (Str×V),(aX0 f v fs).lookup g=if g=f then some v else fs.lookup g
 |[]=>by
  show cZV g [(f,v)]=_;by_cases h:g=f
  ·have a:(g==f)=true:=beq_iff_eq.mpr h;simp only[cZV,a,if_pos h]
  ·have a:(g==f)=false:=beq_eq_false_iff_ne.mpr h;simp only[cZV,a,if_neg h]
 |(k,x)::r=>by
  have c:=aXh f g v r;rw[show aX0 f v ((k,x)::r)=(if k=f then(k,v)::r else(k,x)::aX0 f v r)from rfl];by_cases b:k=f
  ·rw[if_pos b];by_cases h:g=k
   ·have a:(g==k)=true:=beq_iff_eq.mpr h;simp only[cZV,a,if_pos (h.trans b)]
   ·have a:(g==k)=false:=beq_eq_false_iff_ne.mpr h;simp only[cZV,a,if_neg (λe:g=f=>h (e.trans b.symm))]
  ·rw[if_neg b];by_cases h:g=k
   ·have a:(g==k)=true:=beq_iff_eq.mpr h;simp only[cZV,a,if_neg (λe:g=f=>b (h.symm.trans e))]
   ·have a:(g==k)=false:=beq_eq_false_iff_ne.mpr h;simp only[cZV,a];exact c
def aQ6(f:Str)(v:V):∀fs:List (Str×V),f∈(aX0 f v fs).map (·.1)/\∀g,g∈fs.map (·.1)->g∈(aX0 f v fs).map (·.1)
 |[]=>⟨by simp[aX0],λg h=>by simp at h⟩
 |(k,x)::r=>by
  obtain⟨b,c⟩:=aQ6 f v r;rw[show aX0 f v ((k,x)::r)=(if k=f then(k,v)::r else(k,x)::aX0 f v r)from rfl];by_cases a:k=f
  ·rw[if_pos a];subst a;exact⟨by simp,λg h=>by simpa using h⟩
  ·rw[if_neg a];refine⟨?_,λg h=>?_⟩
   ·rw[cXb];exact cQI _ b
   ·rw[cXb]at h ⊢;rcases cQG.mp h with e|e
    ·exact cQG.mpr (.inl e)
    ·exact cQI _ (c g e)
def aXf(f:Str)(v:V):∀fs:List (Str×V),(aX0 f v fs).length<=fs.length+1
 |[]=>by simp[aX0]
 |(k,x)::r=>by
  have b:=aXf f v r;rw[show aX0 f v ((k,x)::r)=(if k=f then(k,v)::r else(k,x)::aX0 f v r)from rfl];by_cases a:k=f
  ·rw[if_pos a,cXy,cXy];omega
  ·rw[if_neg a,cXy,cXy];omega
def aZ5.some_of{v:V}{o:Option cQx}(r:aZ5 (some v) o):∃u,o=some u/\wE v u:=by
 cases o with
 |none=>exact(show False from r).elim
 |some u=>exact⟨u,rfl,r⟩
def aZ5.none_of{o:Option cQx}(r:aZ5 none o):o=none:=by
 cases o with
 |none=>rfl
 |some u=>exact(show False from r).elim
def aJn{v:V}{u:cQx}(r:wE v u):PySem.W.handedIn u=true:=by
 cases v with
 |non=>cases (show u=Value.none from r);rfl
 |bl b=>cases (show u=Value.bool b from r);rfl
 |int i=>obtain⟨t,e⟩:=(show ∃t,u=Value.int i t from r);cases e;rfl
 |str x=>obtain⟨t,e⟩:=(show ∃t,u=Value.str x t from r);cases e;rfl
 |byt b=>obtain⟨t,e⟩:=(show ∃t,u=Value.bytes b t from r);cases e;rfl
 |flt b=>obtain⟨t,e⟩:=(show ∃t,u=Value.float b t from r);cases e;rfl
 |ref a=>cases (show u=Value.ref a from r);rfl
 |ty n=>cases (show u=Value.type n from r);rfl
section
variable {P:cQT}{w:cQ2}{H H':Hp}{h h':Heap}{a C dx:Addr}{fs fs':List (Str×V)}
def aQ3(b:HOk P w H h)(e:H a=some (.ins C dx fs)):∃mA,bVy h a dx C mA/\(∀f,aZ5 (fs.lookup f) (mA f))/\PySem.Within mA (fs.map (·.1))/\fs.length<=1000/\H dx=some (.own a):=by
 obtain⟨d,z,ne,c,mA,n,r,q⟩:=(show zQ P w H h a (.ins C dx fs)from b a _ e);exact⟨mA,⟨c,n,ne⟩,r,q,z,d⟩
end
structure Cls(K:cQz)(C:Addr):Prop where
 pg:cJl K C Str.empty=true
 hd:cJA K C=true
 po:cVe K C=true
 sa:cXl K (.ref C) "__setattr__"=some (some (.builtin "object.__setattr__"))
def Cls.get{K:cQz}{C:Addr}(c:Cls K C)(f:Str):cJl K C f=true:=c.pg
def vM(K:cQz)(C:Addr)(f:Str):Prop:=cXl K (.ref C) f=some none
def vM.taker{K:cQz}{C:Addr}{f:Str}(n:vM K C f):PySem.W.takerIn K C f=some none:=by
 unfold PySem.W.takerIn;rw[show cXl K (.ref C) f=some none from n];rfl
structure bKf(K:cQz)(C:Addr)(m:Str)(f:Addr):Prop where
 at_:cXl K (.ref C) m=some (some (.ref f))
 fn:cJk K (.ref f)=true
 kp:cXv K (.ref f)=true
section
variable {X:Cx}{pins:List (Addr×Obj)}{σ:St}{H:Hp}{s:cQA}{a C dx:Addr}{fs:List (Str×V)}{f:Str}{v:V}{A:cXi}{E:cQx->cQA->Prop}
def aKk{b:Bool}{Q:cQx->cQA->Prop}(I:Inv X pins σ H s)(e:H a=some (.ins C dx fs))(c:Cls X.K C)(n:vM X.K C f)(l:fs.lookup f=some v) (h:∀u s',Inv X pins σ H s'->wE v u->Q u s'):cQF (cQH X.prog X.w) A (getAttr (.ref a) f b) Q E s:=by
 obtain⟨mA,O,r,_,_,_⟩:=aQ3 I.hok e;obtain⟨u,g,d⟩:=aZ5.some_of (v:=v) (o:=mA f) (by rw[<- l];exact r f);exact bVQ I.kIn O (c.get f) c.hd n g (aJn d) (h u _ (I.tok _) d)
def aQa{m:Str}{g:Addr}{pl:Sem Bool}{Q:cQx×List cQx->cQA->Prop}(I:Inv X pins σ H s)(e:H a=some (.ins C dx fs))(c:Cls X.K C)(k:bKf X.K C m g)(l:fs.lookup m=none) (h:Q (.ref g,[.ref a]) s):cQF (cQH X.prog X.w) A (cJ8 (.ref a) m pl) Q E s:=by
 obtain⟨mA,O,r,_,_,_⟩:=aQ3 I.hok e;have b:mA m=none:=aZ5.none_of (by rw[<- l];exact r m);exact bZe I.kIn O (c.get m) k.at_ k.fn b h
def aYh{y:V}{u:cQx}{Q:Unit->cQA->Prop}(I:Inv X pins σ H s)(e:H a=some (.ins C dx fs))(c:Cls X.K C)(n:vM X.K C f)(hl:fs.length<1000)(p:wE y u) (h:∀s',Inv X pins σ (upd H a (.ins C dx (aX0 f y fs))) s'->Q () s'):cQF (cQH X.prog X.w) A (setAttr (.ref a) f u) Q E s:=by
 obtain⟨mA,O,r,j,_,i⟩:=aQ3 I.hok e;have m:(fs.map (·.1)).length<=cQW:=by rw[cQB,cQZ];omega
 refine bW2 I.kIn O c.sa c.po n.taker c.hd j m λh' d t=>h _ ?_;have l:∃o,h'.get? dx=some o:=let ⟨o,_,_,e',_⟩:=d.ns;⟨o,e'⟩;refine I.write (x:=a) (e:=dx) (by rw[e];exact cXQ) (.inr i) (λb q v z=>(t.2 b v).trans z) l ?_;refine⟨by rw[yJ O.ne];exact i,?_,O.ne,d.obj,_,d.ns,λg=>?_,λg k=>?_⟩
 ·have:=aXf f y fs;omega
 ·show aZ5 ((aX0 f y fs).lookup g) (if g=f then some u else mA g);rw[aXh];by_cases q:g=f
  ·rw[if_pos q,if_pos q];exact p
  ·rw[if_neg q,if_neg q];exact r g
 ·by_cases q:g=f
  ·rw[q];exact(aQ6 f y fs).1
  ·refine(aQ6 f y fs).2 g (j g λz=>k ?_);show(if g=f then some u else mA g)=none;rw[if_neg q];exact z
def Inv.made(I:Inv X pins σ H s):Inv X pins σ (upd (upd H s.heap.objs.size (.own (s.heap.objs.size+1))) (s.heap.objs.size+1) (.ins C s.heap.objs.size [])) {s with heap:=(s.heap.push cZo).push (cZJ C s.heap.objs.size) }:=by
 have c:(s.heap.push cZo).get? s.heap.objs.size=some cZo:=cQY s.heap rfl;have f:((s.heap.push cZo).push (cZJ C s.heap.objs.size)).get? (s.heap.objs.size+1)=some (cZJ C s.heap.objs.size):=by have:=cQY (s.heap.push cZo) (o:=cZJ C s.heap.objs.size) rfl;rwa [cX1]at this
 have i:(s.heap.push cZo).Ns s.heap.objs.size (λ_=>none):=⟨cZo, #[],_,c,rfl,(λe d=>absurd d (by simp)),λ_=>rfl⟩;have g:=I.laid (a:=s.heap.objs.size) (o:= .own (s.heap.objs.size+1)) (h':=s.heap.push cZo) (t':=s.toks) (λb u q=>cQD _ q) (cQE _) ⟨_,c⟩;refine g.laid (a:=s.heap.objs.size+1) (o:= .ins C s.heap.objs.size []) (t':=s.toks) (λb u q=>cQD _ q) (cJi (cX1 _ _)) ?_;have ne:s.heap.objs.size≠s.heap.objs.size+1:=cQV (cX5 _);refine⟨by rw[yJ ne,yB],cXz _,ne,f,λ_=>none,(Heap.Ns1.of_empty i).at λo q=>cQD _ q,λ_=>cXQ,λy h=>absurd rfl h⟩
def aYu{prog:cQT}{w:cQ2}{env:Env}{e:Expr}{f:Str}{pos:Pos}{s:cQA}{Q:cQx->cQA->Prop}(b:cJr e f env (eval e env)=eval e env) (h:cQF (cQH prog w) A (eval e env) (λo a=>cQF (cQH prog w) A (getAttr o f true) Q E a) E s):cQF (cQH prog w) A (eval (.Attribute e f pos) env) Q E s:=
 Attribute_any_ h (by rw[arm_eval_Attribute,b])
end
def bY8(K:cQz)(ta:TE)(f:Str):TE:=λσ H Q=>ta σ H λx H1=>∃a C dx fs v,x= .ref a/\H1 a=some (.ins C dx fs)/\Cls K C/\vM K C f/\fs.lookup f=some v/\Q v H1
def cQp(K:cQz)(ta tv:TE)(f:Str):TS:=λD σ H=>tv σ H λy H1=>ta σ H1 λx H2=>∃a C dx fs,x= .ref a/\H2 a=some (.ins C dx fs)/\Cls K C/\vM K C f/\fs.length<1000/\
 D.nx σ (upd H2 a (.ins C dx (aX0 f y fs)))
section
variable {X:Cx}{o e value:Expr}{f:Str}{pos pos' tpos:Pos}{ta tv:TE}
def xC(d:PE X e ta)(g:cJr e f X.env (eval e X.env)=eval e X.env):PE X (.Attribute e f pos) (bY8 X.K ta f):=by
 intro pins s σ H Q I h;refine aYu g (thn (d pins s σ H _ I h) λu s1 ⟨x,H1,I1,rx,a,C,dx,fs,v,ex,ea,c,n,l,q⟩=>?_);subst ex;obtain rfl:u=Value.ref a:=rx;exact aKk I1 ea c n l λk j i b=>⟨v,H1,i,b,q⟩
def wJ(g:PE X o ta)(d:PE X value tv)(b:swapsWith value (some (.Attribute o f pos')) pos.line X.env=pure false):PS X (.Assign [.Attribute o f pos'] value pos) (cQp X.K ta tv f):=by
 intro pins s σ H D I h;refine cVv (thn (d pins s σ H _ I h) λu s1 ⟨y,H1,I1,ry,q⟩=>thn (g pins s1 σ H1 _ I1 q) λov s2 ⟨x,H2,I2,rx,a,C,dx,fs,ex,ea,c,n,l,q2⟩=>?_) b;subst ex;obtain rfl:ov=Value.ref a:=rx;exact aYh I2 ea c n l ry λi e=>⟨σ,_,e,q2⟩
def bV5{pl:Sem Bool}{m:Str}{apos:Pos}{args:List Expr}{pins:List (Addr×Obj)}{s:cQA}{σ:St}{H:Hp}{Q:cQx->cQA->Prop}{te:TE}(d:PE X e te)(I:Inv X pins σ H s)
  (h:te σ H λx H1=>∃a C dx fs g,x= .ref a/\H1 a=some (.ins C dx fs)/\Cls X.K C/\bKf X.K C m g/\fs.lookup m=none/\
   ∀b,Inv X pins σ H1 b->cQF (cQH X.prog X.w) X.A (callWith pos (.ref g) [.ref a] (cZj pos (cXe args X.env)) (cJT pos (cZW [] X.env))) Q X.xe b)
  (i:eval (.Call (.Attribute e m apos) args [] pos) X.env=(do
   let ov <- eval e X.env
   standAt apos.atName
   let (f,first) <- cJ1 [ov] (cJ8 ov m pl)
   callWith pos f first (cZj pos (cXe args X.env)) (cJT pos (cZW [] X.env)))):
  cQF (cQH X.prog X.w) X.A (eval (.Call (.Attribute e m apos) args [] pos) X.env) Q X.xe s:=by
 refine cJF (pl:=pl) (thn (d pins s σ H _ I h) λu b ⟨x,H1,I1,rx,a,C,dx,fs,g,ex,ea,c,k,l,q⟩=>?_) i
 subst ex
 obtain rfl:u=Value.ref a:=rx
 exact aQa I1 ea c k l (q b I1)
end
section
variable {X:Cx}{pins:List (Addr×Obj)}{σ:St}{H:Hp}{s:cQA}{A:cXi}{E:cQx->cQA->Prop}{Q:cQx->cQA->Prop}{c:cQx}{b:Bool}
inductive aJ7(K:cQz)(H:Hp):V->cQx->Prop where
 |non:aJ7 K H .non (.type "NoneType")
 |bl (x:Bool):aJ7 K H (.bl x) (.type "bool")
 |int (i:Int):aJ7 K H (.int i) (.type "int")
 |str (x:Str):aJ7 K H (.str x) (.type "str")
 |flt (x:UInt64):aJ7 K H (.flt x) (.type "float")
 |lst {a:Addr} {xs:List V} (e:H a=some (.lst xs)):aJ7 K H (.ref a) (.type "list")
 |frz {a:Addr} {o:Obj} {xs:List V} (e:H a=some (.frz o (.lst xs))):aJ7 K H (.ref a) (.type "list")
 |tup {a:Addr} {xs:List V} (e:H a=some (.tup xs)):aJ7 K H (.ref a) (.type "tuple")
 |dK {a:Addr} {kvs:List (Key×V)} (e:H a=some (.dK kvs)):aJ7 K H (.ref a) (.type "dict")
 |dT {a:Addr} {kvs:List (List Key×V)} (e:H a=some (.dT kvs)):aJ7 K H (.ref a) (.type "dict")
 |ins {a C dx:Addr} {fs:List (Str×V)} (e:H a=some (.ins C dx fs)) (cl:Cls K C) (ha:cXl K (.ref C) "__class__"=some (some (.builtin "object.__class__")))
   (hn:cVf K (.builtin "object.__class__") "__get__"=some (some (.builtin "getset_descriptor.__get__"))) (htk:PySem.W.takesIn K (.builtin "object.__class__")=some true)
   (hm:cJW K C (.type "object")=some true):aJ7 K H (.ref a) (.ref C)
def aYT{x:V}{u t:cQx}(I:Inv X pins σ H s)(d:wE x u)(ty:aJ7 X.K H x t)(e:cXt X.K t c=some b)(h:∀tk,Q (.bool b) {s with toks:=tk}): cQF (cQH X.prog X.w) A (call (.builtin "isinstance") [u,c]) Q E s:=by
 cases ty with
 |non=>cases (show u=Value.none from d);exact cZh PySem.W.kitx_none I.kIn cXQ e (λz=>nomatch z) h
 |bl y=>cases (show u=Value.bool y from d);exact cZh PySem.W.kitx_bool I.kIn cXQ e (λz=>nomatch z) h
 |int i=>obtain⟨t,q⟩:=(show ∃t,u=Value.int i t from d);cases q;exact cZh PySem.W.kitx_int I.kIn cXQ e (λz=>nomatch z) h
 |str y=>obtain⟨t,q⟩:=(show ∃t,u=Value.str y t from d);cases q;exact cZh PySem.W.kitx_str I.kIn cXQ e (λz=>nomatch z) h
 |flt y=>obtain⟨t,q⟩:=(show ∃t,u=Value.float y t from d);cases q;exact cZh PySem.W.kitx_float I.kIn cXQ e (λz=>nomatch z) h
 |@lst a xs f=>cases (show u=Value.ref a from d);obtain⟨_,_,n,_,h1⟩:=(show zQ X.prog X.w H s.heap a (.lst xs)from I.hok a _ f);exact cZh cVd I.kIn ⟨_,h1,rfl⟩ e (λz=>nomatch z) h
 |@frz a k xs f=>cases (show u=Value.ref a from d);obtain⟨_,_,_,n,_,h1⟩:=(show zQ X.prog X.w H s.heap a (.frz k (.lst xs))from I.hok a _ f);exact cZh cVd I.kIn ⟨_,h1,rfl⟩ e (λz=>nomatch z) h
 |@tup a xs f=>cases (show u=Value.ref a from d);obtain⟨_,_,_,p⟩:=(show zQ X.prog X.w H s.heap a (.tup xs)from I.hok a _ f);obtain⟨o,h1,h2,_⟩:=p;exact cZh PySem.W.kitx_tuple I.kIn ⟨o,h1,h2⟩ e (λz=>nomatch z) h
 |@dK a g f=>cases (show u=Value.ref a from d);obtain⟨_,_,D,_,p⟩:=(show zQ X.prog X.w H s.heap a (.dK g)from I.hok a _ f);obtain⟨o,es,v,h1,h2,_⟩:=p;exact cZh cVc I.kIn ⟨o,h1,h2.1⟩ e (λz=>nomatch z) h
 |@dT a g f=>cases (show u=Value.ref a from d);obtain⟨_,_,xs,_,o,es,v,h1,h2,_⟩:=(show zQ X.prog X.w H s.heap a (.dT g)from I.hok a _ f);exact cZh cVc I.kIn ⟨o,h1,h2.1⟩ e (λz=>nomatch z) h
 |@ins a C dx fs f cl l m j r=>cases (show u=Value.ref a from d);obtain⟨mA,O,_⟩:=aQ3 I.hok f;obtain⟨B,J,_⟩:=O.look;exact cZh (PySem.W.kitx_own (cl.get _) cl.hd l m j r) I.kIn J e (λz=>nomatch z) h
end
end L2
namespace L2
open PySem PySem.Spec PyProof.Rows
structure uS(k:Nat)(A:cXi):Prop where
 hd:A.handled=none
 dp:A.depth+3*k+5<recursionLimit
 un:A.units+16*k+200<cLine
def uS.mono{j k:Nat}{A:cXi}(r:uS k A)(h:j<=k):uS j A:=⟨r.hd,by have:=r.dp;omega,by have:=r.un;omega⟩
def uS.deeper{k:Nat}{A:cXi}(r:uS (k+1) A)(env:Env):uS k (A.deeper env):=
 ⟨r.hd,by have:=r.dp;show A.depth+1+3*k+5<_;omega,by have:=r.un;show A.units+3+16*k+200<_;omega⟩
def aKw{A:cXi}{C:Addr}{us:List cQx}{a:List (Str×cQx)}:(A.under (.builtin "type.__call__" ⟨.ref C::us,a⟩)).depth=A.depth+1:=by
 first|rfl|simp[Around.under,Code.weight,Code.isCreation,Code.isGuard,Code.isCaller,Code.frames,Code.isFrame,guardIds]
def aKx{A:cXi}{C:Addr}{us:List cQx}{a:List (Str×cQx)}:(A.under (.builtin "type.__call__" ⟨.ref C::us,a⟩)).units=A.units+1:=by
 first|rfl|simp[Around.under,Code.cUnits,Code.frames,Code.isFrame]
def uS.make{k:Nat}{A:cXi}(r:uS (k+1) A)(C:Addr)(us:List cQx)(a:List (Str×cQx)):uS k (A.under (.builtin "type.__call__" ⟨.ref C::us,a⟩)):=
 ⟨r.hd,by have:=r.dp;rw[aKw];omega,by have:=r.un;rw[aKx];omega⟩
def uS.depth{k:Nat}{A:cXi}(r:uS k A):A.depth<recursionLimit:=by have:=r.dp;omega
def uS.units{k:Nat}{A:cXi}(r:uS k A):A.units+64<cLine:=by have:=r.un;omega
def uS.units0{k:Nat}{A:cXi}(r:uS k A):A.units<cLine:=by have:=r.un;omega
def bXO:TA:=λ_ H Q=>Q [] H
def aYk(ta:TE)(a:TA):TA:=λσ H Q=>ta σ H λx H1=>a σ H1 λxs H2=>Q (x::xs) H2
section
variable {X:Cx}{e:Expr}{es:List Expr}{te:TE}{t:TA}{pos:Pos}
def yD:PA X [] bXO:=λ_ _ _ _ H Q I h=>Calls.spliced_nil ⟨[],H,I,.nil,h⟩
def yA(c:PE X e te)(b:PA X es t)(a:cXe (e::es) X.env=(false,eval e X.env)::cXe es X.env:=by rfl):PA X (e::es) (aYk te t):=by
 intro pos pins s σ H Q I h;rw[a];show cQF _ _ (spliced ((false,eval e X.env)::cZj pos (cXe es X.env))) _ _ s;refine Calls.spliced_cons (thn (c pins s σ H _ I h) λu s1 ⟨x,H1,I1,r1,q1⟩=>?_);exact thn (b pos pins s1 σ H1 _ I1 q1) λus s2 ⟨xs,H2,I2,r2,q2⟩=>⟨x::xs,H2,I2,.cons r1 r2,q2⟩
def cQb(t:TA):TE:=λσ H Q=>t σ H λxs H1=>xs.length<=cQW/\∀p,H1 p=none->Q (.ref p) (upd H1 p (.tup xs))
def bY9(t:TA):TE:=λσ H Q=>t σ H λxs H1=>xs.length<=cQW/\∀p,H1 p=none->Q (.ref p) (upd H1 p (.lst xs))
def xK{x1}(h:PA X es t):PE X (.Tuple es x1 pos) (cQb t):=by
 intro pins s σ H Q I a;refine wpAny_Tuple_spliced (thn (h pos pins s σ H _ I a) λus s1 ⟨xs,H1,I1,r,z,q⟩=>⟨by rw[<- r.length];exact z,?_⟩);have c:H1 s1.heap.objs.size=none:=I1.hok.fresh (cQE _);refine⟨.ref s1.heap.objs.size,upd H1 s1.heap.objs.size (.tup xs),I1.laid (t':=s1.toks) (λb u e=>cQD _ e) (cQE _) ?_,rfl,q _ c⟩;exact⟨z,us,r,⟨_,cQY _ rfl,rfl,_,rfl⟩⟩
def xB(h:PA X es t):PE X (.List es pos) (bY9 t):=by
 intro pins s σ H Q I a;refine wpAny_List_spliced (thn (h pos pins s σ H _ I a) λus s1 ⟨xs,H1,I1,r,z,q⟩=>⟨by rw[<- r.length];exact z,?_⟩);have c:H1 s1.heap.objs.size=none:=I1.hok.fresh (cQE _);refine⟨.ref s1.heap.objs.size,upd H1 s1.heap.objs.size (.lst xs),I1.laid (t':=s1.toks) (λb u e=>cQD _ e) (cQE _) ?_,rfl,q _ c⟩;exact⟨z,us,0,r,cQY _ rfl⟩
end
abbrev Sp:=List V->Hp->VK->XK->Prop
abbrev CXT:=List Env->Hp->cQA->XK->cQx->cQA->Prop
structure bVv(P:cQT)(w:cQ2)(K:cQz)(mg:Str->Option cQx)(base:Heap)(A:cXi)(outer:List Env)(s:cQA)(H:Hp):Prop where
 frames:A.frames=some outer
 mod:Mod K mg base
 bs:∀b o,base.get? b=some o->s.heap.get? b=some o/\H b=none
 bsz:base.objs.size<=s.heap.objs.size
 funs:s.heap.FunFrames base outer
 frf:∀b∈frs outer,H b=none
 hok:HOk P w H s.heap
 bare:AllBare s.gens
def CE(outer:List Env)(P:cQT)(w:cQ2)(H:Hp)(s:cQA)(Q:VK)(u:cQx)(s':cQA):Prop:=
 ∃v H',s'.os=s.os/\AllBare s'.gens/\Un (frs outer) [] H H' s.heap s'.heap/\HOk P w H' s'.heap/\wE v u/\Q v H'
def CR(CX:CXT)(outer:List Env)(P:cQT)(w:cQ2)(H:Hp)(s:cQA)(Q:VK)(E:XK)(r:Result)(s':cQA):Prop:=
 match r with
 |.ok (.ret u)=>CE outer P w H s Q u s'
 |.ok _=>False
 |.error e=>CX outer H s E e s'
structure xL(P:cQT)(w:cQ2)(K:cQz)(mg:Str->Option cQx)(base:Heap)(CX:CXT)(k:Nat)(f:Addr)(fd:cZz)(ps:List Str)(sp:Sp):Prop where
 len:∀vs H Q E,sp vs H Q E->vs.length=ps.length
 run:∀ (A:cXi)(outer:List Env)(s:cQA)(H:Hp)(args:Args)(us:List cQx)(vs:List V)(Q:VK)(E:XK),uS k A->bVv P w K mg base A outer s H->BindsTo s fd args (ps.zip us)->zD vs us->sp vs H Q E->
  cZO (cQH P w) A (.call (.ref f) args) (CR CX outer P w H s Q E) s
def xL.mono{P:cQT}{w:cQ2}{K:cQz}{mg:Str->Option cQx}{base:Heap}{CX:CXT}{j k:Nat}{f:Addr}{fd:cZz}{ps:List Str}{sp:Sp}(F:xL P w K mg base CX j f fd ps sp)(h:j<=k):
  xL P w K mg base CX k f fd ps sp:=⟨F.len,λA outer s H args a b Q E c=>F.run A outer s H args a b Q E (c.mono h)⟩
def bVv.make{P:cQT}{w:cQ2}{K:cQz}{mg:Str->Option cQx}{base:Heap}{A:cXi}{outer:List Env}{s:cQA}{H:Hp}(e:bVv P w K mg base A outer s H)(C:Addr)(us:List cQx)(a:List (Str×cQx)):
  bVv P w K mg base (A.under (.builtin "type.__call__" ⟨.ref C::us,a⟩)) outer s H:=⟨by first|exact e.frames|(simpa[Around.under,Code.envs,Code.isFrame,pushEnvs]using e.frames),e.mod,e.bs,e.bsz,e.funs,e.frf,e.hok,e.bare⟩
section
variable {X:Cx}{pins:List (Addr×Obj)}{σ:St}{H:Hp}{s s':cQA}
def Inv.env0(I:Inv X pins σ H s):bVv X.prog X.w X.K X.mg X.base X.A X.stack s H:=
 ⟨I.ok.frames,I.ok.mod,I.bs,cQ7 I.ok.bsz I.sz,I.stack,I.stkFree,I.hok,I.bare⟩
def Inv.after{Q:VK}{u:cQx}(I:Inv X pins σ H s)(h:CE X.stack X.prog X.w H s Q u s'):EP X pins σ Q u s':=by
 obtain⟨v,H',e,bare,un,c,r,q⟩:=h;obtain⟨f,g,d,t,a⟩:=s';obtain rfl:a=s.os:=e;exact⟨v,H',I.call (h':=f) (g':=g) (d':=d) (t':=t) (ch:= []) un c bare (λb z=>absurd z (by simp)),r,q⟩
end
def aYj(sp:Sp)(dvs:List V)(E:XK)(t:TA):TE:=λσ H Q=>t σ H λa H1=>sp (a++dvs) H1 Q E
def bJG(C:Addr)(m:Str)(sp:Sp)(dvs:List V)(E:XK)(ta:TE)(t:TA):TE:=λσ H Q=>ta σ H λx H1=>∃a dx fs,x= .ref a/\H1 a=some (.ins C dx fs)/\fs.lookup m=none/\
 t σ H1 λb H2=>sp (x::(b++dvs)) H2 Q E
def bJF(C:Addr)(sp:Sp)(dvs:List V)(E:XK)(t:TA):TE:=λσ H Q=>t σ H λa H1=>∀x dx,H1 x=none->H1 dx=none->dx≠x->
 sp (.ref x::(a++dvs)) (upd (upd H1 dx (.own x)) x (.ins C dx [])) (λv H2=>v= .non/\Q (.ref x) H2) E
def uX(K:cQz)(fd:cZz)(ps:List Str)(ds:List cQx):Prop:=
 ∀ (s:cQA)(a:List cQx),K.In s.heap->(a++ds).length=ps.length->BindsTo s fd ⟨a,[]⟩ (ps.zip (a++ds))
def uX.all{K:cQz}{fd:cZz}{ps:List Str}(h:∀a:List cQx,a.length=ps.length->bindArgs fd ⟨a,[]⟩=pure (ps.zip a)):uX K fd ps []:=λs a _ hl=>by
 rw[cXC]at hl ⊢;exact .of_eq (h a hl)
def uB(CX:CXT)(X:Cx)(E:XK):Prop:=∀ (pins:List (Addr×Obj))(σ:St)(H:Hp)(s:cQA)(e:cQx)(s':cQA),Inv X pins σ H s->CX X.stack H s E e s'->X.xe e s'
section
variable {X:Cx}{CX:CXT}{k:Nat}{f C:Addr}{fd:cZz}{ps:List Str}{sp:Sp}{dvs:List V}{ds:List cQx}{E:XK}{x m:Str}{p pos apos:Pos}{e o:Expr}{es:List Expr}{ta:TE}{t:TA}
def aZd{pins:List (Addr×Obj)}{σ:St}{H:Hp}{s:cQA}{Q:VK}{us:List cQx}{vs:List V}(F:xL X.prog X.w X.K X.mg X.base CX k f fd ps sp)(i:uS k X.A)(d:uX X.K fd ps ds)(c:zD dvs ds)(j:uB CX X E) (I:Inv X pins σ H s) (r:zD vs us) (h:sp (vs++dvs) H Q E):cQF (cQH X.prog X.w) X.A (call (.ref f) us) (EP X pins σ Q) X.xe s:=by
 have b:zD (vs++dvs) (us++ds):=r.append c;have hl:(us++ds).length=ps.length:=by rw[<- b.length];exact F.len _ _ _ _ h
 refine cJU (cZv (F.run X.A X.stack s H ⟨us,[]⟩ (us++ds) (vs++dvs) Q E i I.env0 (d s us I.kIn hl) b h) λr s' a=>?_);cases r with
 |error e=>exact j pins σ H s e s' I a
 |ok g=>
  cases g with
  |ret u=>exact I.after a
  |next=>exact cZb a
  |brk=>exact cZb a
  |cont=>exact cZb a
def bQG(F:xL X.prog X.w X.K X.mg X.base CX k f fd ps sp)(n:uS k X.A)(d:Gl X x)(l:X.mg x=some (.ref f))(c:cXv X.K (.ref f)=true)(m:uX X.K fd ps ds)(g:zD dvs ds)(o:uB CX X E)
  (j:PA X (e::es) t) (b:(x==("__debug__":Str))=false:=by decide) (i:cXe (e::es) X.env=(false,eval e X.env)::cXe es X.env:=by rfl) (a:(cZj pos (cXe es X.env)).any (·.1)=false:=by rfl):
  PE X (.Call (.Name x p) (e::es) [] pos) (aYj sp dvs E t):=by
 intro pins s σ H Q I h
 refine cX4 (jL I d l ?_ b)
 refine cJv (h₀:=X.base) I.ok.mod.kin c (thn (j pos pins s σ H _ I h) λus s1 ⟨vs,H1,I1,r,q⟩=>⟨I1.kIn,?_⟩) i a
 exact aZd F n m g o I1 r q
def bZ0(F:xL X.prog X.w X.K X.mg X.base CX k f fd ps sp)(e:uS k X.A)(d:Gl X x)(j:X.mg x=some (.ref f))(b:cXv X.K (.ref f)=true)(c:uX X.K fd ps ds)(g:zD dvs ds)(i:uB CX X E) (a:(x==("__debug__":Str))=false:=by decide):PE X (.Call (.Name x p) [] [] pos) (aYj sp dvs E bXO):=by
 intro pins s σ H Q I h;refine cX4 (jL I d j ?_ a);exact cJ4 I.kIn b (aZd (us:= []) F e c g i I .nil h)
def bWt{pl:Sem Bool}(j:PE X o ta)(c:Cls X.K C)(g:bKf X.K C m f)(F:xL X.prog X.w X.K X.mg X.base CX k f fd ps sp)(y:uS k X.A)(v:uX X.K fd ps ds)(i:zD dvs ds)(z:uB CX X E)(n:PA X (e::es) t)
  (b:cXe (e::es) X.env=(false,eval e X.env)::cXe es X.env:=by rfl) (d:(cZj pos (cXe es X.env)).any (·.1)=false:=by rfl)
  (p:eval (.Call (.Attribute o m apos) (e::es) [] pos) X.env=(do
   let ov <- eval o X.env
   standAt apos.atName
   let (f,first) <- cJ1 [ov] (cJ8 ov m pl)
   callWith pos f first (cZj pos (cXe (e::es) X.env)) (cJT pos (cZW [] X.env))):=by rfl):
  PE X (.Call (.Attribute o m apos) (e::es) [] pos) (bJG C m sp dvs E ta t):=by
 intro pins s σ H Q I h
 refine cJF (pl:=pl) (thn (j pins s σ H _ I h) λu s1 ⟨x,H1,I1,rx,a,dx,fs,ex,ea,l,q⟩=>?_) p
 subst ex
 obtain rfl:u=Value.ref a:=rx
 refine aQa I1 ea c g l ?_
 refine cJv (first:= [.ref a]) (h₀:=X.base) I.ok.mod.kin g.kp (thn (n pos pins s1 σ H1 _ I1 q) λus s2 ⟨vs,H2,I2,r,q2⟩=>⟨I2.kIn,?_⟩) b d
 exact aZd (us:= .ref a::us) (vs:= .ref a::vs) F y v i z I2 (.cons rfl r) q2
def bZ5{pl:Sem Bool}(e:PE X o ta)(c:Cls X.K C)(b:bKf X.K C m f)(F:xL X.prog X.w X.K X.mg X.base CX k f fd ps sp)(i:uS k X.A)(g:uX X.K fd ps ds)(j:zD dvs ds)(n:uB CX X E)
  (d:eval (.Call (.Attribute o m apos) [] [] pos) X.env=(do
   let ov <- eval o X.env
   standAt apos.atName
   let (f,first) <- cJ1 [ov] (cJ8 ov m pl)
   callWith pos f first (cZj pos (cXe [] X.env)) (cJT pos (cZW [] X.env))):=by rfl):
  PE X (.Call (.Attribute o m apos) [] [] pos) (bJG C m sp dvs E ta bXO):=by
 intro pins s σ H Q I h
 refine cJF (pl:=pl) (thn (e pins s σ H _ I h) λu s1 ⟨x,H1,I1,rx,a,dx,fs,ex,ea,l,q⟩=>?_) d
 subst ex
 obtain rfl:u=Value.ref a:=rx
 refine aQa I1 ea c b l ?_
 exact cJ4 (first:= [.ref a]) I1.kIn b.kp (aZd (us:= [.ref a]) (vs:= [.ref a]) F i g j n I1 (.cons rfl .nil) q)
structure Mk(K:cQz)(C f:Addr):Prop where
 makes:PySem.W.makesIn K C=true
 init:cXl K (.ref C) "__init__"=some (some (.ref f))
 fn:cJk K (.ref f)=true
 kp:cXv K (.ref C)=true
def aWB{pins:List (Addr×Obj)}{σ:St}{H:Hp}{s:cQA}{Q:VK}{us:List cQx}{vs:List V}(M:Mk X.K C f)(F:xL X.prog X.w X.K X.mg X.base CX k f fd ps sp)(p:uS (k+1) X.A)(l:uX X.K fd ps ds)(g:zD dvs ds) (q:uB CX X E) (I:Inv X pins σ H s) (r:zD vs us) (h:∀x dx,H x=none->H dx=none->dx≠x->sp (.ref x::(vs++dvs)) (upd (upd H dx (.own x)) x (.ins C dx [])) (λv H2=>v= .non/\Q (.ref x) H2) E): cQF (cQH X.prog X.w) X.A (call (.ref C) us) (EP X pins σ Q) X.xe s:=by
 have d:=h (s.heap.objs.size+1) s.heap.objs.size (I.hok.fresh (cZD _)) (I.hok.fresh (cQE _)) (cQV (cX5 _));have b:=Inv.made (C:=C) I;have c:zD (V.ref (s.heap.objs.size+1)::(vs++dvs)) (Value.ref (s.heap.objs.size+1)::(us++ds)):= .cons rfl (r.append g);have hl:(Value.ref (s.heap.objs.size+1)::us++ds).length=ps.length:=by have e:=c.length;rw[F.len _ _ _ _ d]at e;exact e.symm
 refine cJU (bZx (f:=f) I.kIn M.makes M.init (beq_iff_eq.mp M.fn) (cZv (F.run _ X.stack _ _ ⟨Value.ref (s.heap.objs.size+1)::us,[]⟩ (Value.ref (s.heap.objs.size+1)::(us++ds)) _ _ E (p.make C us []) (b.env0.make C us []) (l _ (Value.ref (s.heap.objs.size+1)::us) b.kIn hl) c d) λr s' a=>?_));cases r with
 |error e=>exact q pins σ _ _ e s' b a
 |ok o=>
  cases o with
  |ret u=>obtain⟨v,H',n,i,m,j⟩:=b.after a;subst m;exact⟨i,⟨V.ref (s.heap.objs.size+1),H',n,rfl,j⟩⟩
  |next=>exact cZb a
  |brk=>exact cZb a
  |cont=>exact cZb a
def bWs(M:Mk X.K C f)(F:xL X.prog X.w X.K X.mg X.base CX k f fd ps sp)(m:uS (k+1) X.A)(c:Gl X x)(j:X.mg x=some (.ref C))(l:uX X.K fd ps ds)(d:zD dvs ds)(n:uB CX X E)
  (i:PA X (e::es) t) (b:(x==("__debug__":Str))=false:=by decide) (g:cXe (e::es) X.env=(false,eval e X.env)::cXe es X.env:=by rfl) (a:(cZj pos (cXe es X.env)).any (·.1)=false:=by rfl):
  PE X (.Call (.Name x p) (e::es) [] pos) (bJF C sp dvs E t):=by
 intro pins s σ H Q I h
 refine cX4 (jL I c j ?_ b)
 refine cJv (h₀:=X.base) I.ok.mod.kin M.kp (thn (i pos pins s σ H _ I h) λus s1 ⟨vs,H1,I1,r,q⟩=>⟨I1.kIn,?_⟩) g a
 exact aWB M F m l d n I1 r q
def bZ4(M:Mk X.K C f)(F:xL X.prog X.w X.K X.mg X.base CX k f fd ps sp)(d:uS (k+1) X.A)(c:Gl X x)(i:X.mg x=some (.ref C))(b:uX X.K fd ps ds)(e:zD dvs ds)(g:uB CX X E) (a:(x==("__debug__":Str))=false:=by decide):PE X (.Call (.Name x p) [] [] pos) (bJF C sp dvs E bXO):=by
 intro pins s σ H Q I h;refine cX4 (jL I c i ?_ a);exact cJ4 I.kIn M.kp (aWB (us:= []) M F d b e g I .nil h)
end
section
variable {X:Cx}{CX:CXT}{k:Nat}{f C:Addr}{fd:cZz}{ps ks:List Str}{sp:Sp}{E:XK}{x m:Str}{p pos apos kpos:Pos}{e o:Expr}{es:List Expr}{kws:List Keyword}{te ta:TE}{t tk:TA}{nm:Option Str}
variable {g:List cQx->List cQx->List cQx}{gV:List V->List V->List V}
end
structure yO(N P:List Str)(sc:cZL):Prop where
 kind:sc.kind= .function
 co:sc.isCoroutine=false
 gen:sc.isGenerator=false
 nd:N.Nodup
 pre:N.take P.length=P
 par:∀x∈P,sc.names.lookup x=some .local\/sc.names.lookup x=some .cell
 nofree:∀y∈sc.names,y.2≠ .free
def aJd{a:Str->Option cJz}{x:Str}:∀ {binds:List (Str×cQx)} {m:Str->Option cQx},(∀v,(x,v)∉binds)->bindL a binds m x=m x
 |[],_,_=>rfl
 |(n,v)::r,m,h=>by
  unfold bindL;rw[aJd λw hw=>h w (cQI _ hw)];split
  ·have:x≠n:=by rintro rfl;exact h v cQM
   simp[this]
  ·rfl
def aJb{a:Str->Option cJz}{x:Str}:∀ {binds:List (Str×cQx)} {m:Str->Option cQx},(∀v,(x,v)∉binds)->bindC a binds m x=m x
 |[],_,_=>rfl
 |(n,v)::r,m,h=>by
  unfold bindC;rw[aJb λw hw=>h w (cQI _ hw)];split
  ·rfl
  ·have:x≠n:=by rintro rfl;exact h v cQM
   simp[this]
def aJc{a:Str->Option cJz}{x:Str}{v:cQx}:∀ {P:List Str} {vs:List cQx} {i:Nat} {m:Str->Option cQx},P.Nodup->P[i]? =some x->vs[i]? =some v->a x=some .local->
  bindL a (P.zip vs) m x=some v
 |[],_,_,_,_,h,_,_=>by simp at h
 |_::_,[],_,_,_,_,h,_=>by simp at h
 |p::P,w::vs,0,m,nd,h1,h2,hk=>by simp at h1 h2;subst h1;subst h2;show bindL a ((p,w)::P.zip vs) m p=_;unfold bindL;rw[aJd λv b=>(cZr.mp nd).1 (List.of_mem_zip b).1,if_pos hk];simp
 |p::P,w::vs,i+1,m,nd,h1,h2,hk=>by show bindL a ((p,w)::P.zip vs) m x=_;unfold bindL;exact aJc (i:=i) (cZr.mp nd).2 (by simpa using h1) (by simpa using h2) hk
def aJa{a:Str->Option cJz}{x:Str}{v:cQx}:∀ {P:List Str} {vs:List cQx} {i:Nat} {m:Str->Option cQx},P.Nodup->P[i]? =some x->vs[i]? =some v->a x≠some .local->
  bindC a (P.zip vs) m x=some v
 |[],_,_,_,_,h,_,_=>by simp at h
 |_::_,[],_,_,_,_,h,_=>by simp at h
 |p::P,w::vs,0,m,nd,h1,h2,hk=>by simp at h1 h2;subst h1;subst h2;show bindC a ((p,w)::P.zip vs) m p=_;unfold bindC;rw[aJb λv b=>(cZr.mp nd).1 (List.of_mem_zip b).1,if_neg hk];simp
 |p::P,w::vs,i+1,m,nd,h1,h2,hk=>by show bindC a ((p,w)::P.zip vs) m x=_;unfold bindC;exact aJa (i:=i) (cZr.mp nd).2 (by simpa using h1) (by simpa using h2) hk
def start(N:List Str)(vs:List V):St:=vs.map some++cJd (N.length - vs.length) none
def aZo(CX:CXT)(P:cQT)(w:cQ2)(K:cQz)(mg:Str->Option cQx)(base:Heap)(N:List Str)(qual:Str)(scope:cZL)(f:Addr)(cd:cQx)(A:cXi)(outer:List Env)(s:cQA)(H:Hp)(E:XK):Cx where
 prog:=P
 w:=w
 K:=K
 mg:=mg
 base:=base
 A:=A.deeper (cZy qual scope s.heap.objs.size f cd)
 N:=N
 s₀:=s
 H₀:=H
 env:=cZy qual scope s.heap.objs.size f cd
 outer:=outer
 stack:=cZy qual scope s.heap.objs.size f cd::outer
 ex:= []
 calm:=true
 fn:=λ_=>true
 pn:= []
 xe:=λe s'=>cQF (cQH P w) (A.deeper (cZy qual scope s.heap.objs.size f cd)) (leaving (cZy qual scope s.heap.objs.size f cd) e) (λ_ s''=>CX outer H s E e s'') (λe' s''=>CX outer H s E e' s'') s'
def aWc{a:cZL}{n:Nat}{x:Str}(h:a.names.lookup x=some .cell):∃c,(cellsFrom n a.names []).lookup x=some c:=by
 have q:=PySem.W.cellsFrom_some a.names n [] (.inl h);exact Option.isSome_iff_exists.mp q
def aYR{CX:CXT}{P:cQT}{w:cQ2}{K:cQz}{mg:Str->Option cQx}{base:Heap}{N ps:List Str}{qual:Str}{scope:cZL}{f:Addr}{o:cQx}{A:cXi}{outer:List Env}{s B:cQA}{H:Hp}{E:XK}{us:List cQx}{vs:List V} (S:yO N ps scope) (D:A.handled=none) (d:bVv P w K mg base A outer s H) (hl:vs.length=ps.length) (r:zD vs us) (x:InCallC s s.heap.objs.size (bindL (cZy qual scope s.heap.objs.size f o).kindOf (ps.zip us) λ_=>none) (cellsFrom (s.heap.objs.size+1) scope.names []) (bindC (cZy qual scope s.heap.objs.size f o).kindOf (ps.zip us) λ_=>none) B): Inv (aZo CX P w K mg base N qual scope f o A outer s H E) [] (start N vs) H B:=by
 have F:ps.length<=N.length:=by have:=congrArg cZH S.pre;rw[cXH]at this;omega
 obtain⟨h1,tk,rfl,t⟩:=x.done;have j:∀b:Addr,b∉(aZo CX P w K mg base N qual scope f o A outer s H E).ex:=λb z=>absurd (show b∈([]:List Addr)from z) (by simp);refine⟨⟨d.mod,S.kind,rfl,rfl,cQE _,λy z c h1 h2=>?_,λy g=>?_,λy c _ h=>?_,λ_=>D,Around.frames_deeper d.frames,.inr ⟨rfl,rfl⟩,λb z=>absurd z (j b),d.bs,d.bsz,λb _ _=>j b,λb z=>absurd z (j b),d.funs,d.frf⟩,rfl,d.bare,Un.kept t,⟨_,x.toInCall.ns,λi y v h1 h2 J=>?_⟩,λy c h=>⟨_,x.cell y c h⟩,d.hok.fresh (cQE _),λy c h=>?_,λp m=>absurd (show p∈([]:List (Addr×Obj))from m) (by simp),d.hok.kept t,?_⟩
 ·exact name_of_addr x.apart (cX9 h1) (cX9 h2)
 ·have g:scope.names.lookup y=some .cell\/scope.names.lookup y=some .free:=g;rcases g with g|g
  ·exact aWc g
  ·exact absurd rfl (S.nofree _ (cX9 g))
 ·exact cJj (x.above y c (cX9 h))
 ·have hi:i<vs.length:=by
   unfold start at h2;by_cases hi:i<vs.length
   ·exact hi
   ·rw[cQX (by simpa using hi)]at h2;rw[List.getElem?_replicate]at h2;split at h2<;> cases h2
  have G:vs[i]? =some v:=by
   unfold start at h2;rw[cXh (by simpa using hi),cQR]at h2;cases e:vs[i]? with
   |none=>rw[e]at h2;cases h2
   |some a=>rw[e]at h2;cases h2;rfl
  obtain⟨u,C,I⟩:=r.get G;have m:ps[i]? =some y:=by rw[<- S.pre,List.getElem?_take_of_lt (by omega)];exact h1
  have l:ps.Nodup:=by rw[<- S.pre];exact S.nd.sublist (List.take_sublist _ _)
  refine⟨u,I,?_⟩;rcases S.par y (cQP m)with k|k
  ·exact .inl ⟨k,aJc l m C k⟩
  ·obtain⟨c,e⟩:=aWc (n:=s.heap.objs.size+1) k;refine .inr ⟨.inl k,c,e,?_⟩;have q:=x.cell y c e;rw[aJa l m C (by show scope.names.lookup y≠_;rw[k];decide)]at q;exact q
 ·exact d.hok.fresh (cJj (x.above y c (cX9 h)))
 ·unfold start;show _=N.length;rw[cQ0,cQB,List.length_replicate];omega
def bVO{CX:CXT}{P:cQT}{w:cQ2}{K:cQz}{mg:Str->Option cQx}{base:Heap}{k:Nat}{f:Addr}{name qual:Str}{c:Arguments}{body:List Stmt}{scope:cZL}{O kV j M a ct oc:cQx}{G R:Option Addr} {C:Array (Option cQx)} {N ps:List Str} {sp:Sp} (lk:K.lookup f=some ⟨oc,R,.func (cXW name qual c body scope O kV j M G a ct),C⟩) (B:cZn K a qual=true) (S:yO N ps scope) (len:∀vs H Q E,sp vs H Q E->vs.length=ps.length) (h:∀ (A:cXi)(outer:List Env)(s:cQA)(H:Hp)(vs:List V)(Q:VK)(E:XK),uS k (A.deeper (cZy qual scope s.heap.objs.size f a))->sp vs H Q E-> ∃t,PSs (aZo CX P w K mg base N qual scope f a A outer s H E) body t/\t {nx:=λ_ H'=>Q .non H',rt:=Q} (start N vs) H): xL P w K mg base CX (k+1) f (cXW name qual c body scope O kV j M G a ct) ps sp:=by
 refine⟨len,λA outer s H args U vs Q E D m Y r l=>?_⟩;have hl:=len _ _ _ _ l;have L:K.In s.heap:=m.mod.kin.keeps λb o e=>(m.bs b o e).1;have p:s.heap.NoLimit:=m.mod.nolimit.keeps λb o e=>(m.bs b o e).1;have g:∀y∈ps.zip U,scope.names.lookup y.1=some .local\/(scope.names.lookup y.1=some .cell/\((cellsFrom (s.heap.objs.size+1) scope.names []).lookup y.1).isSome=true):=λ⟨n,v⟩ hy=>by
  rcases S.par n (List.of_mem_zip hy).1 with q|q
  ·exact .inl q
  ·exact .inr ⟨q,PySem.W.cellsFrom_some _ _ _ (.inl q)⟩
 refine codeAny_call_function D.depth (L _ _ lk) rfl S.co S.gen rfl (PySem.W.codeRec_of L B) (Y _ _ _ _ ?_);refine wpAny_newFunctionEnv_cells S.kind g λenv T F x=>?_;subst T;refine⟨p.keeps x.toInCall.keep,codeAny_func ?_⟩;obtain⟨t,X,hq⟩:=h A outer s H vs Q E (D.deeper _) l;have I:Inv (aZo CX P w K mg base N qual scope f a A outer s H E) [] (start N vs) H F:=aYR S D.hd m hl r x;refine cXD (X [] F (start N vs) H _ I hq) (λZ s' i=>?_) λe s' i=>i;have fin:∀ {d:St} {H':Hp} {v:V} {u:cQx},Inv (aZo CX P w K mg base N qual scope f a A outer s H E) [] d H' s'->wE v u->Q v H'->CE outer P w H s Q u s':=
  λ{d H' v u} J z q=>⟨v,H',J.os,J.bare,J.base,J.hok,z,q⟩
 cases Z with
 |ret u=>obtain⟨v,d,H',J,z,q⟩:=i;exact fin J z q
 |next=>obtain⟨d,H',J,q⟩:=i;exact fin (v:=V.non) (u:=Value.none) J rfl q
 |brk=>obtain⟨_,_,_,q⟩:=i;exact cZb q
 |cont=>obtain⟨_,_,_,q⟩:=i;exact cZb q
end L2
namespace L2
open PySem PySem.Spec PyProof.Rows
section
variable {X:Cx}{x:Str}{p pos:Pos}{e:Expr}{es:List Expr}{t:TA}{id T:String}{r:List V->Hp->VK->Prop}
def tCB(r:List V->Hp->VK->Prop)(t:TA):TE:=λσ H Q=>t σ H λa H1=>r a H1 Q
def yR(f:jX X (.builtin id) r)(g:Gl X x)(j:X.mg x=none)(c:cXj x=some (.builtin id))(k:PA X (e::es) t)(i:x≠"__name__":=by decide)(b:(x==("__debug__":Str))=false:=by decide)
  (d:cXe (e::es) X.env=(false,eval e X.env)::cXe es X.env:=by rfl) (a:(cZj pos (cXe es X.env)).any (·.1)=false:=by rfl):PE X (.Call (.Name x p) (e::es) [] pos) (tCB r t):=by
 intro pins s σ H Q I h
 refine cX4 (aX6 I g j c ?_ i b)
 exact PyProof.Rows.callWith_builtin1 (thn (k pos pins s σ H _ I h) λus s1 ⟨vs,H1,I1,r1,q1⟩=>f pins s1 σ H1 vs us Q I1 r1 q1) d a
def zG(f:jX X (.type T) r)(g:Gl X x)(j:X.mg x=none)(c:cXj x=some (.type T))(k:PA X (e::es) t)(i:x≠"__name__":=by decide)(b:(x==("__debug__":Str))=false:=by decide)
  (d:cXe (e::es) X.env=(false,eval e X.env)::cXe es X.env:=by rfl) (a:(cZj pos (cXe es X.env)).any (·.1)=false:=by rfl):PE X (.Call (.Name x p) (e::es) [] pos) (tCB r t):=by
 intro pins s σ H Q I h
 refine cX4 (aX6 I g j c ?_ i b)
 exact cJK (thn (k pos pins s σ H _ I h) λus s1 ⟨vs,H1,I1,r1,q1⟩=>f pins s1 σ H1 vs us Q I1 r1 q1) d a
end
end L2
namespace HT
open PySem PyProof.Rows
def bJb(A:cXi)(s:cQA)(a:Int)(t:Tok)(c:Int)(u:Tok)(prog:cQT)(w:cQ2)(E:cQx->cQA->Prop)(Q:cQx->cQA->Prop)(h:Q (.bool (decide (a<c))) s): cQF (cQH prog w) A (richCompare .Lt (.int a t) (.int c u)) Q E s:=
 (PyProof.Rows.lt_int h:cQF (cQH prog w) A (cZa .Lt (.int a t) (.int c u)) Q E s)
section
open PySem.SeqAt
open PySem.AutoSeq1 (wpAny_loadPart')
open PySem.MeetsSeq PySem.MeetsSeq2 PySem.MeetsSeq3
end
section
variable {prog:cQT}{w:cQ2}{A:cXi}{E:cQx->cQA->Prop}{s:cQA}
def bVE{t b:Addr}{vs a:List cQx}{Q:cQx->cQA->Prop}(v:cJu s.heap t vs.toArray)(x:cJu s.heap b a.toArray)(r:vs≠ []) (h1:a= []->Q (.ref t) s) (h2:a≠ []->Q (.ref s.heap.objs.size) {s with heap:=s.heap.push {cls:= .type "tuple",data:= .seq (vs++a).toArray} }) (j:vs.length+a.length<=cQW):cQF (cQH prog w) A (cZ5 .Add (.ref t) (.ref b)) Q E s:=by
 obtain⟨⟨cls,o,data,u⟩,i,m,n,p⟩:=id v;obtain⟨⟨q,h,k,f⟩,c,d,l,g⟩:=id x;simp only at m p d g;subst m p d g;have e:vs.toArray++a.toArray=(vs++a).toArray:=by simp
 by_cases hw:a= []
 ·exact concat_meets ⟨_,i,rfl⟩ ⟨_,c,rfl⟩ noFill_tuple_add seq_tuple_add PySem.F.slot_tuple_add PySem.F.entry_tuple_add (cV9 _ _)
   (tuple_addW1 t b vs.toArray a.toArray n l o h u f (by simpa using r) (by simp[hw])) ⟨i,c,h1 hw⟩
 ·refine concat_meets ⟨_,i,rfl⟩ ⟨_,c,rfl⟩ noFill_tuple_add seq_tuple_add PySem.F.slot_tuple_add PySem.F.entry_tuple_add (cV9 _ _)
   (tuple_addW2 t b vs.toArray a.toArray n l o h u f (by simpa using r) (by simpa using hw) (by rw[cQQ,cQQ];exact j)) ⟨i,c,?_⟩
  rw[e];exact h2 hw
def sIx(n d:Nat):Option Int->Nat
 |none=>d
 |some v=>if v<0 then(v+(n:Int)).toNat else min v.toNat n
def bJd(n d:Nat):sIx n d none=d:=rfl
def bK5(n d:Nat)(b:d<=n)(o:Option Int):sIx n d o<=n:=by
 cases o with
 |none=>exact b
 |some v=>
  show(if v<0 then(v+(n:Int)).toNat else min v.toNat n)<=n;by_cases a:v<0
  ·rw[if_pos a];omega
  ·rw[if_neg a];exact Nat.min_le_right _ _
def aYz(v:Int)(n d:Nat):(if v<0 then max (v+(n:Int)) 0 else min v (n:Int))=((sIx n d (some v):Nat):Int):=by
 show(if v<0 then max (v+(n:Int)) 0 else min v (n:Int))=(((if v<0 then(v+(n:Int)).toNat else min v.toNat n):Nat):Int);by_cases a:v<0
 ·simp only[if_pos a];omega
 ·simp only[if_neg a];omega
def aW7(lo hi:Option Int)(n:Nat):cJ5 lo hi 1 (n:Int)=(((sIx n 0 lo:Nat):Int),((sIx n n hi:Nat):Int)):=by
 have h1:¬ ((1:Int)<0):=by omega
 unfold cJ5;simp only[h1,if_false];refine Prod.ext ?_ ?_
 ·cases lo with
  |none=>rfl
  |some v=>exact aYz v n 0
 ·cases hi with
  |none=>rfl
  |some v=>exact aYz v n n
def aKV(i j:Nat):cJa (i:Int) (j:Int) 1=j - i:=by
 unfold cJa;have h1:(1:Int) > 0:=by omega
 simp only[h1,if_true,Int.ediv_one];split<;> omega
def aZe{v:cQx}{o:Option Int}{Q:Option Int->cQA->Prop}(p:IsPart v o)(h:Q o s):cQF (cQH prog w) A (Builtin.Slice.slicePartIndex v) Q E s:=by
 cases p with
 |none=>exact slicePart_none h
 |int i t=>exact slicePart_int h
def aQL{e:Addr}{c d:cQx}{lo hi:Option Int}{n:Nat}{Q:Int×Int×Nat->cQA->Prop}(f:s.heap.IsSliceOf e c d .none)(pl:IsPart c lo)(i:IsPart d hi) (h:Q (((sIx n 0 lo:Nat):Int),1,sIx n n hi - sIx n 0 lo) s):cQF (cQH prog w) A (cVV (.ref e) (pure (n:Int))) Q E s:=by
 obtain⟨j,b,g,a⟩:=id f;unfold cVV Builtin.Slice.sliceFields;refine cQy (cQy (cVk b a (x:=c) rfl (cQy (cVk b a (x:=d) rfl (cQy (cVk b a (x:= .none) rfl (cQC ?_)))))));refine cQy (slicePart_none ?_);show cQF _ _ (if((1:Int)==0)=true then _ else _) _ _ s;rw[if_neg (by decide)];refine cQy (aZe pl (cQy (aZe i (cQy (cQC ?_)))));show cQF _ _ (match cJ5 lo hi 1 (n:Int)with|(lo,hi)=>pure (lo,(1:Int),cJa lo hi 1)) _ _ s;rw[aW7 lo hi n];show cQF _ _ (pure (((sIx n 0 lo:Nat):Int),(1:Int),cJa ((sIx n 0 lo:Nat):Int) ((sIx n n hi:Nat):Int) 1)) _ _ s;rw[aKV];exact cQC h
def bZ6(xs:Array cQx)(i k:Nat):((cQJ k).filterMap λ(m:Nat)=>xs[((i:Int)+(m:Int)*1).toNat]?).toArray=((xs.toList.drop i).take k).toArray:=by
 have e:(λ(m:Nat)=>xs[((i:Int)+(m:Int)*1).toNat]?)=λm=>xs[i+m]? :=by
  funext m;have:((i:Int)+(m:Int)*1).toNat=i+m:=by omega
  rw[this]
 rw[e];have:=pick_run xs i k;rw[List.filterMap_map]at this;have a:((λx=>xs[x]?)∘λx=>i+x)=λm=>xs[i+m]? :=rfl;rw[a]at this;rw[this]
def Q9{t f:Addr}{items:Array cQx}{j k:cQx}{lo hi:Option Int}{Q:cQx->cQA->Prop}(b:cJu s.heap t items)(i:s.heap.IsSliceOf f j k .none)(pl:IsPart j lo)(l:IsPart k hi) (hw:¬ (sIx items.size 0 lo=0/\sIx items.size items.size hi=items.size)) (h:Q (.ref s.heap.objs.size) {s with heap:=s.heap.push {cls:= .type "tuple",data:= .seq ((items.toList.drop (sIx items.size 0 lo)).take (sIx items.size items.size hi - sIx items.size 0 lo)).toArray} }) (n:items.size<=cQW):cQF (cQH prog w) A (getItem (.ref t) (.ref f)) Q E s:=by
 have a:sizeOk (.seq ((items.toList.drop (sIx items.size 0 lo)).take (sIx items.size items.size hi - sIx items.size 0 lo)).toArray):=by show((items.toList.drop (sIx items.size 0 lo)).take (sIx items.size items.size hi - sIx items.size 0 lo)).toArray.size<=cQW;rw[cQQ,cXH,cVp,cXS];omega
 have r:sIx items.size items.size hi<=items.size:=bK5 _ _ (cQE _) hi;obtain⟨o,e,d,p⟩:=id i;have g:s.TypeIs (.ref f) "slice":=⟨o,e,d⟩;unfold getItem;try with_reducible refine cXP ?_
 first|refine cQy (cQC ?_)|skip
 refine cQy (wpAny_sequenceKey b.typeIs (by decide) ?_);refine cQy (cZR (name:=cJG "__getitem__") b.typeIs cJq (cX6 cJq b.typeIs entry_tuple_getitem ?_ (args_tuple_getitem _ _)));show cQF _ _ (Builtin.Tuple.tupleItemsOf (.ref t) >>=_) _ _ s;refine cQy (tupleItemsOf_ b ?_);refine cQy (wpAny_typeOf g ?_);rw[if_pos (by decide)];refine cQy (aQL i pl l ?_);have c:¬ ((((sIx items.size 0 lo:Nat):Int)==0 && (1:Int)==1 && (sIx items.size items.size hi - sIx items.size 0 lo)==items.size)=true):=by intro q;rw[Bool.and_eq_true,Bool.and_eq_true]at q;have u:((sIx items.size 0 lo:Nat):Int)=0:=eq_of_beq q.1.1;have v:sIx items.size items.size hi - sIx items.size 0 lo=items.size:=eq_of_beq q.2;exact hw ⟨by omega,by omega⟩
 show cQF _ _ (if(((sIx items.size 0 lo:Nat):Int)==0 && (1:Int)==1 && (sIx items.size items.size hi - sIx items.size 0 lo)==items.size)=true then _ else _) _ _ s;rw[if_neg c,bZ6];first
  |exact cQy (m:=cJg _) (cXT (cQC ⟨_,rfl,cQC h⟩) a)
  |exact cQy (m:=cJg _) (cXT (cQy (cQC (cQC ⟨_,rfl,cQC h⟩))) a)
  |exact cQy (cQy (m:=cJg _) (cXT (cQC (cQC ⟨_,rfl,cQC h⟩)) a))
  |exact cQy (cQy (m:=cJg _) (cXT (cQC ⟨_,rfl,cQC h⟩) a))
end
end HT
namespace L2
open PySem PySem.Spec PyProof.Rows
abbrev TO:=St->Hp->(Option Int->Hp->Prop)->Prop
def PO(X:Cx)(e:Option Expr)(t:TO):Prop:=
 ∀ (pins:List (Addr×Obj))(s:cQA)(σ:St)(H:Hp)(Q:Option Int->Hp->Prop),Inv X pins σ H s->t σ H Q->
  cQF (cQH X.prog X.w) X.A (evalPart e X.env) (λu s'=>∃o H',Inv X pins σ H' s'/\IsPart u o/\Q o H') X.xe s
def bW9:TO:=λ_ H Q=>Q none H
def bYY(t:TE):TO:=λσ H Q=>t σ H λx H1=>∃i,x= .int i/\Q (some i) H1
def aQd{a:List Int}:∀ {us:List cQx},zD (a.map V.int) us->cZT us a:=by
 induction a with
 |nil=>intro us r;rw[List.map_nil]at r;cases r;exact .nil
 |cons n a c=>
  intro us r;rw[cXb]at r;cases r with
  |cons b d=>obtain⟨t,e⟩:=b;subst e;exact .cons n t (c d)
section
variable {X:Cx}{e:Expr}{te:TE}{lo hi:Option Expr}{tl th:TO}{pos p2:Pos}
def aXo:PO X none bW9:=by
 intro pins s σ H Q I h;rw[evalPart_none];exact cQC ⟨none,H,I,.none,h⟩
def X7(h:PE X e te):PO X (some e) (bYY te):=by
 intro pins s σ H Q I hw;rw[evalPart_some];refine thn (h pins s σ H _ I hw) λu s1 ⟨x,H1,I1,r1,q1⟩=>?_;obtain⟨i,rfl,q⟩:=q1;obtain⟨t,rfl⟩:=r1;exact⟨some i,H1,I1,.int i t,q⟩
def SlR(X:Cx)(r:V->Option Int->Option Int->Hp->VK->Prop):Prop:=
 ∀ (pins:List (Addr×Obj))(s:cQA)(σ:St)(H:Hp)(x:V)(v a c:cQx)(lo hi:Option Int)(b:Addr)(Q:VK),Inv X pins σ H s->wE x v->s.heap.IsSliceOf b a c .none->IsPart a lo->IsPart c hi->r x lo hi H Q->
  ∃T id,typeLookup (.type T) "__getitem__"=pure (some (.builtin id))/\s.TypeIs v T/\cQF (cQH X.prog X.w) X.A (getItem v (.ref b)) (EP X pins σ Q) X.xe s
def tSl(r:V->Option Int->Option Int->Hp->VK->Prop)(te:TE)(tl th:TO):TE:=λσ H Q=>te σ H λx H1=>tl σ H1 λl H2=>th σ H2 λu a=>r x l u a Q
def qW{r:V->Option Int->Option Int->Hp->VK->Prop}(j:SlR X r)(d:PE X e te)(hl:PO X lo tl)(i:PO X hi th):PE X (.Subscript e (.Slice lo hi none p2) pos) (tSl r te tl th):=by
 intro pins s σ H Q I h;refine Subscript_ (thn (d pins s σ H _ I h) λv s1 ⟨x,H1,I1,r1,q1⟩=>?_);refine wpAny_Slice (thn (hl pins s1 σ H1 _ I1 q1) λvl s2 ⟨l,H2,I2,pl,q2⟩=>thn (i pins s2 σ H2 _ I2 q2) λvu s3 ⟨u,H3,I3,pu,q3⟩=>?_);rw[evalPart_none];refine cQC ?_;have a:Inv X pins σ H3 {s3 with heap:=s3.heap.push {cls:= .type "slice",data:= .fields #[vl,vu,.none] } }:=I3.kept (t':=s3.toks) λb k q=>cQD _ q;obtain⟨T,id,f,g,c⟩:=j pins {s3 with heap:=s3.heap.push {cls:= .type "slice",data:= .fields #[vl,vu,.none] } } σ H3 x v vl vu l u s3.heap.objs.size Q a r1 (Heap.IsSliceOf.new ..) pl pu q3;show cQF (cQH X.prog X.w) X.A (subscriptTail e (.Slice lo hi none p2) v (.ref s3.heap.objs.size)) (EP X pins σ Q) X.xe {s3 with heap:=s3.heap.push {cls:= .type "slice",data:= .fields #[vl,vu,.none] } };exact tail_any (ops:= [.ref s3.heap.objs.size,v]) g f c (by with_unfolding_all rfl)
def qA(xs:List V)(lo hi:Option Int):List V:=(xs.drop (HT.sIx xs.length 0 lo)).take (HT.sIx xs.length xs.length hi - HT.sIx xs.length 0 lo)
def aQ1(xs:List V)(lo hi:Option Int):(qA xs lo hi).length<=xs.length:=by
 unfold qA;rw[cXH,cVp];omega
def cQn(K:cQz):V->Option Int->Option Int->Hp->VK->Prop:=λx lo hi H Q=>∃a xs,x= .ref a/\SqT K H a xs/\
 ¬ (HT.sIx xs.length 0 lo=0/\HT.sIx xs.length xs.length hi=xs.length)/\∀p,H p=none->Q (.ref p) (upd H p (.tup (qA xs lo hi)))
def bYe:SlR X (cQn X.K):=by
 intro pins s σ H x v m p lo hi n Q I i g pl j h;obtain⟨a,xs,rfl,k,hw,q⟩:=h;cases i;obtain⟨d,r,f,e⟩:=I.tuple k;have c:d.toArray.size=xs.length:=by rw[cQQ];exact r.length.symm
 refine⟨"tuple",_,cJq.lookup,f.typeIs,?_⟩;refine HT.Q9 f g pl j (by rw[c];exact hw) ?_ (by rw[c];exact e);rw[c];refine⟨.ref s.heap.objs.size,_,I.laid (t':=s.toks) (o:= .tup (qA xs lo hi)) (λb l q=>cQD _ q) (cQE _) ?_,rfl,q _ (I.hok.fresh (cQE _))⟩;exact⟨cQ7 (aQ1 xs lo hi) e,_,(r.drop (HT.sIx xs.length 0 lo)).take (HT.sIx xs.length xs.length hi - HT.sIx xs.length 0 lo),IsTup.new _ _⟩
def bYP(K:cQz):R2:=λx y H Q=>∃a b xs ys,x= .ref a/\y= .ref b/\SqT K H a xs/\SqT K H b ys/\xs≠ []/\xs.length+ys.length<=cQW/\
 (ys= []->Q (.ref a) H)/\(ys≠ []->∀p,H p=none->Q (.ref p) (upd H p (.tup (xs++ys))))
def zD.nil_iff{xs:List V}{us:List cQx}(r:zD xs us):us= []↔xs= []:=by
 cases r with
 |nil=>simp
 |cons _ _=>simp
def bQz:OpR X (cZ5 .Add) (bYP X.K):=by
 intro pins s σ H x y v u Q I g k h;obtain⟨a,b,xs,ys,rfl,rfl,j,n,p,f,m,r⟩:=h;cases g;cases k;obtain⟨i,d,l,_⟩:=I.tuple j;obtain⟨e,c,p2,_⟩:=I.tuple n;refine HT.bVE l p2 (λz=>p (d.nil_iff.mp z)) (λz=>⟨.ref a,H,I,rfl,m (c.nil_iff.mp z)⟩) (λz=>?_) (by rw[<- d.length,<- c.length];exact f);refine⟨.ref s.heap.objs.size,_,I.laid (t':=s.toks) (o:= .tup (xs++ys)) (λb t q=>cQD _ q) (cQE _) ?_,rfl,r (λw=>z (c.nil_iff.mpr w)) _ (I.hok.fresh (cQE _))⟩;exact⟨by rw[cQ0];exact f,_,d.append c,IsTup.new _ _⟩
end
end L2
namespace L2
open PySem PySem.Spec PyProof.Rows
def ixN(n:Nat)(i:Int):Option Nat:=if 0<=i then(if i<n then some i.toNat else none)else if -(n:Int)<=i then some (i+n).toNat else none
def atI{α:Type}(xs:List α)(i:Int):Option α:=(ixN xs.length i).bind λj=>xs[j]?
def aYU{n:Nat}{i:Int}{j:Nat}(h:ixN n i=some j):seqIndex? i n=some j/\j<n/\ -(n:Int)<=i/\i<n:=by
 unfold ixN at h;by_cases h0:0<=i
 ·rw[if_pos h0]at h;by_cases h1:i<n
  ·rw[if_pos h1]at h;have e:i.toNat=j:=cQS h;exact⟨by rw[seqIndex_of h0 h1,e],by omega,by omega,h1⟩
  ·rw[if_neg h1]at h;cases h
 ·rw[if_neg h0]at h;by_cases h1: -(n:Int)<=i
  ·rw[if_pos h1]at h;have e:(i+n).toNat=j:=cQS h;exact⟨by rw[seqIndex_neg (by omega) h1,e],by omega,h1,by omega⟩
  ·rw[if_neg h1]at h;cases h
def aJ8{α:Type}{xs:List α}{i:Int}{v:α}(h:atI xs i=some v):∃j,seqIndex? i xs.length=some j/\xs[j]? =some v/\j<xs.length/\ -(xs.length:Int)<=i/\i<xs.length:=by
 unfold atI at h;cases e:ixN xs.length i with
 |none=>rw[e]at h;cases h
 |some j=>rw[e]at h;obtain⟨h1,h2,a,b⟩:=aYU e;exact⟨j,h1,h,h2,a,b⟩
def yT{α:Type}{xs:List α}{j:Nat}{v:α}(h:xs[j]? =some v):atI xs (j:Int)=some v:=by
 have a:j<xs.length:=(cQK.mp h).1;have e:ixN xs.length (j:Int)=some j:=by unfold ixN;rw[if_pos (by omega),if_pos (by omega)];simp
 unfold atI;rw[e];exact h
def bVB(b:Expr):Prop:=∀o i,subscripted b false o i=operate [o,i] (getItem o i)
def IxR(X:Cx)(r:R2):Prop:=
 ∀ (value a:Expr)(pins:List (Addr×Obj))(s:cQA)(σ:St)(H:Hp)(x y:V)(v u:cQx)(Q:VK),Inv X pins σ H s->wE x v->wE y u->r x y H Q->
  subscripted a false v u=operate [v,u] (getItem v u)->cQF (cQH X.prog X.w) X.A (subscriptTail value a v u) (EP X pins σ Q) X.xe s
def MtR(X:Cx)(id:String)(r:V->List V->Hp->VK->Prop):Prop:=
 ∀ (pins:List (Addr×Obj))(s:cQA)(σ:St)(H:Hp)(x:V)(xs:List V)(v:cQx)(a:List cQx)(Q:VK),Inv X pins σ H s->wE x v->zD xs a->r x xs H Q->
  cQF (cQH X.prog X.w) X.A (call (.builtin id) (v::a)) (EP X pins σ Q) X.xe s
section
variable {X:Cx}{a b:Expr}{ta tb:TE}{pos:Pos}
def IxR.or{r d:R2}(h:IxR X r)(h':IxR X d):IxR X (λx y H Q=>r x y H Q\/d x y H Q):=by
 intro value a pins s σ H x y v u Q I c e q b;rcases q with q|q
 ·exact h value a pins s σ H x y v u Q I c e q b
 ·exact h' value a pins s σ H x y v u Q I c e q b
def yL{r:R2}(k:IxR X r)(f:PE X a ta)(j:PE X b tb)(c:bVB b:=by exact λ_ _=>rfl):PE X (.Subscript a b pos) (tOp r ta tb):=by
 intro pins s σ H Q I h;exact Subscript_ (bYG f j I h λv u e x y H2 i d g q=>k a b pins e σ H2 x y v u Q i d g q (c _ _))
def bKg(K:cQz):R2:=λx y H Q=>∃p xs i v,x= .ref p/\y= .int i/\SqL K H p xs/\atI xs i=some v/\Q v H
def bYQ(K:cQz):R2:=λx y H Q=>∃p xs i v,x= .ref p/\y= .int i/\SqT K H p xs/\atI xs i=some v/\Q v H
def bY6:R2:=λx y H Q=>∃z i c,x= .str z/\y= .int i/\z.length<=cQW/\atI z.cps.toList i=some c/\Q (.str ⟨#[c]⟩) H
def yK:IxR X (bKg X.K):=by
 intro value d pins s σ H x y v u Q I g m h f;obtain⟨p,xs,i,z,rfl,rfl,o,l,q⟩:=h;cases g;obtain⟨t,rfl⟩:=m;obtain⟨b,r,pl,B⟩:=I.list o;obtain⟨j,h1,h2,A,n,k⟩:=aJ8 l;obtain⟨w,e,c⟩:=r.get h2;have hl:=r.length;have C:=aJy;have fin:EP X pins σ Q w s:=⟨z,H,I,c,q⟩;by_cases h0:0<=i
 ·have a:i.toNat=j:=by
   rw[seqIndex_of h0 k]at h1;exact cQS h1
  exact item_listR pl.isList h0 (by omega) (by rw[a];simpa using e) fin f
 ·have a:(i+(b.toArray.size:Int)).toNat=j:=by
   rw[seqIndex_neg (by omega) n]at h1;rw[cQQ,<- hl];exact cQS h1
  exact subscriptTail_builtinR (x:=w) pl.isList.typeIs slot_list_getitem.lookup
   (wpAny_getItem_list_neg (Q:=λr s'=>r=w/\EP X pins σ Q r s') pl.isList (by omega) (by rw[cQQ]<;> omega) (by omega) (by rw[a];simpa using e) ⟨rfl,fin⟩) f
def yX:IxR X (bYQ X.K):=by
 intro value b pins s σ H x y v u Q I e k h d;obtain⟨p,xs,i,z,rfl,rfl,l,g,q⟩:=h;cases e;obtain⟨t,rfl⟩:=k;obtain⟨f,r,pl,o⟩:=I.tuple l;obtain⟨j,h1,h2,n,B,m⟩:=aJ8 g;obtain⟨w,c,a⟩:=r.get h2;have hl:=r.length;have A:=aJy;have fin:EP X pins σ Q w s:=⟨z,H,I,a,q⟩;exact subscriptTail_builtinR (x:=w) pl.typeIs slot_tuple_getitem.lookup
  (getItem_tuple (j:=j) (Q:=λr s'=>r=w/\EP X pins σ Q r s') pl (by omega) (by omega) (by rw[cQQ,<- hl];exact h1) (by simpa using c) ⟨rfl,fin⟩) d
def aQ5:IxR X bY6:=by
 intro value a pins s σ H x y v u Q I d k h b;obtain⟨z,i,c,rfl,rfl,r,g,q⟩:=h;obtain⟨t,rfl⟩:=d;obtain⟨n,rfl⟩:=k;obtain⟨j,h1,h2,o,l,e⟩:=aJ8 g;have hl:z.cps.toList.length=z.length:=by simp[Str.length]
 rw[hl]at h1 l e;have p:=aJy;exact tail_any (typeIs_str s z t) slot_str_getitem.lookup (getItem_str (c:=c) (by
  have m:decide (i< -(2 ^ 63:Int))=false:=decide_eq_false (by omega);have f:decide (i≥2 ^ 63)=false:=decide_eq_false (by omega);rw[m,f,Bool.or_false]) (by rw[h1];simpa using h2) ⟨.str ⟨#[c]⟩,H,I.tok _,⟨_,rfl⟩,q⟩) b
def rIx(K:cQz):R2:=λx y H Q=>bKg K x y H Q\/bYQ K x y H Q\/bY6 x y H Q
def aWk:IxR X (rIx X.K):=yK.or (yX.or aQ5)
def aKy(its:List cQx)(n j:Nat)(u:cQx):cXm (·.setIfInBounds j u) {cls:= .type "list",data:= .seq its.toArray n}= {cls:= .type "list",data:= .seq (its.set j u).toArray n}:=by
 simp[cXm]
def Inv.lst{pins:List (Addr×Obj)}{σ:St}{H:Hp}{s:cQA}{p:Addr}{xs:List V}(I:Inv X pins σ H s)(h:H p=some (.lst xs)): ∃ (its:List cQx)(n:Nat),zD xs its/\s.heap.get? p=some {cls:= .type "list",data:= .seq its.toArray n}/\xs.length<=cQW:=by
 obtain⟨z,its,n,r,e⟩:=I.hok p _ h;exact⟨its,n,r,e,z⟩
def Inv.lstUpd{pins:List (Addr×Obj)}{σ:St}{H:Hp}{s:cQA}{p:Addr}{xs ys:List V}{its its':List cQx}{n a:Nat}{f:Obj->Obj}(I:Inv X pins σ H s)(h:H p=some (.lst xs)) (d:s.heap.get? p=some {cls:= .type "list",data:= .seq its.toArray n}) (c:f {cls:= .type "list",data:= .seq its.toArray n}= {cls:= .type "list",data:= .seq its'.toArray a}) (r:zD ys its') (i:ys.length<=cQW) (t:Nat): Inv X pins σ (upd H p (.lst ys)) {s with heap:=s.heap.update p f,toks:=t}:=by
 have e:(s.heap.update p f).get? p=some {cls:= .type "list",data:= .seq its'.toArray a}:=by rw[cXE f d (by rw[c]<;> rfl),c]
 refine I.write (x:=p) (e:=p) (by rw[h];trivial) (.inl rfl) (λb u g q=>(cQ9 _ _ (cXg g)).trans q) ⟨_,e⟩ ?_;exact⟨i,its',a,r,e⟩
def bYR:V->V->V->Hp->(Hp->Prop)->Prop:=λo i v H Q=>∃p xs k j,o= .ref p/\i= .int k/\H p=some (.lst xs)/\ixN xs.length k=some j/\Q (upd H p (.lst (xs.set j v)))
def wR:bY3 X bYR:=by
 intro pins s σ H o i v B z u Q I m x w h;obtain⟨p,xs,k,j,rfl,rfl,f,l,q⟩:=h;cases m;obtain⟨t,rfl⟩:=x;obtain⟨a,n,r,c,y⟩:=I.lst f;obtain⟨h1,h2,e,g⟩:=aYU l;have hl:=r.length;have A:=aJy;have d:Inv X pins σ (upd H p (.lst (xs.set j v))) {s with heap:=s.heap.update p (cXm (·.setIfInBounds j u)) }:=
  I.lstUpd f c (aKy a n j u) (r.set w j) (by rw[List.length_set];exact y) s.toks
 by_cases h0:0<=k
 ·have b:k.toNat=j:=by
   rw[seqIndex_of h0 g]at h1;exact cQS h1
  exact PySem.W.ki_setAt c h0 (by omega) (by rw[cQQ,<- hl];exact g) (by rw[b];exact⟨_,d,q⟩)
 ·have b:(k+(a.toArray.size:Int)).toNat=j:=by
   rw[seqIndex_neg (by omega) e]at h1;rw[cQQ,<- hl];exact cQS h1
  exact PySem.W.ki_setBack c (by omega) (by rw[cQQ,<- hl];exact e) (by omega) (by rw[b];exact⟨_,d,q⟩)
def aJQ(lo hi:Option Int)(n:Nat):(cJ2 lo hi none n).1=((HT.sIx n 0 lo:Nat):Int)/\(cJ2 lo hi none n).2.1=((HT.sIx n n hi:Nat):Int)/\(cJ2 lo hi none n).2.2=1:=by
 refine⟨?_,?_,rfl⟩
 ·cases lo with
  |none=>simp[cJ2,HT.sIx]
  |some i=>
   simp only[cJ2,HT.sIx,Option.getD_none,show(1:Int) > 0 by decide,if_true];by_cases h:i<0
   ·simp only[h,if_true]<;> omega
   ·simp only[h,if_false]<;> omega
 ·cases hi with
  |none=>simp[cJ2,HT.sIx]
  |some i=>
   simp only[cJ2,HT.sIx,Option.getD_none,show(1:Int) > 0 by decide,if_true];by_cases h:i<0
   ·simp only[h,if_true]<;> omega
   ·simp only[h,if_false]<;> omega
def aZW(its:List cQx)(lo hi:Option Int):slicePick its.toArray lo hi none=((its.drop (HT.sIx its.length 0 lo)).take (HT.sIx its.length its.length hi - HT.sIx its.length 0 lo)).toArray:=by
 obtain⟨h1,h2,a⟩:=aJQ lo hi its.toArray.size;unfold slicePick;rw[h1,h2,a];simp only[sliceRange_one,pick_run,cQQ]<;> rfl
def cQm(K:cQz):V->Option Int->Option Int->Hp->VK->Prop:=λx lo hi H Q=>∃a xs,x= .ref a/\SqL K H a xs/\∀p,H p=none->Q (.ref p) (upd H p (.lst (qA xs lo hi)))
def aXI:SlR X (cQm X.K):=by
 intro pins s σ H x v m p lo hi n Q I f e pl i h;obtain⟨a,xs,rfl,j,q⟩:=h;cases f;obtain⟨g,r,d,k⟩:=I.list j;have c:=r.length;refine⟨"list",_,slot_list_getitem.lookup,d.isList.typeIs,?_⟩;refine wpAny_getItem_list_slice d.isList e pl i .none (by simp) ?_ (by rw[cQQ]<;> omega);rw[aZW,<- c];refine⟨.ref s.heap.objs.size,_,I.laid (t':=s.toks) (o:= .lst (qA xs lo hi)) (λb l q=>cQD _ q) (cQE _) ?_,rfl,q _ (I.hok.fresh (cQE _))⟩;exact⟨cQ7 (aQ1 xs lo hi) k,_,0,(r.drop (HT.sIx xs.length 0 lo)).take (HT.sIx xs.length xs.length hi - HT.sIx xs.length 0 lo),cQY _ rfl⟩
def aQK:V->Bool
 |.non=>true
 |.bl _=>true
 |.int _=>true
 |.str _=>true
 |_=>false
def eqV:V->V->Bool
 |.non,.non=>true
 |.bl a,.bl b=>a==b
 |.bl a,.int b=>(if a then 1 else 0)==b
 |.int a,.bl b=>a==(if b then 1 else 0)
 |.int a,.int b=>a==b
 |.str a,.str b=>a==b
 |_,_=>false
def bJ3{A:cXi}{s:cQA}{y x:V}{u v:cQx}(e:wE y u)(c:wE x v)(g:aQK y=true)(f:aQK x=true):cWc A s u v (eqV y x):=by
 cases y with
 |non=>
  cases e;cases x with
  |non=>cases c;exact SeqAt.EqAt.same _
  |bl b=>cases c;exact SeqAt.EqAt.none_bool b
  |int b=>obtain⟨t,rfl⟩:=c;exact SeqAt.EqAt.none_int b t
  |str b=>obtain⟨t,rfl⟩:=c;exact SeqAt.EqAt.none_str b t
  |_=>exact absurd (show false=true from f) Bool.false_ne_true
 |bl a=>
  cases e;cases x with
  |non=>cases c;exact SeqAt.EqAt.bool_none a
  |bl b=>cases c;exact SeqAt.EqAt.bool_bool a b
  |int b=>obtain⟨t,rfl⟩:=c;exact SeqAt.EqAt.bool_int a b t
  |str b=>obtain⟨t,rfl⟩:=c;exact SeqAt.EqAt.bool_str a b t
  |_=>exact absurd (show false=true from f) Bool.false_ne_true
 |int a=>
  obtain⟨d,rfl⟩:=e;cases x with
  |non=>cases c;exact SeqAt.EqAt.int_none a d
  |bl b=>cases c;exact SeqAt.EqAt.int_bool a d b
  |int b=>obtain⟨t,rfl⟩:=c;exact SeqAt.EqAt.int_int a d b t
  |str b=>obtain⟨t,rfl⟩:=c;exact SeqAt.EqAt.int_str a d b t
  |_=>exact absurd (show false=true from f) Bool.false_ne_true
 |str a=>
  obtain⟨d,rfl⟩:=e;cases x with
  |non=>cases c;exact SeqAt.EqAt.str_none a d
  |bl b=>cases c;exact SeqAt.EqAt.str_bool a d b
  |int b=>obtain⟨t,rfl⟩:=c;exact SeqAt.EqAt.str_int a d b t
  |str b=>obtain⟨t,rfl⟩:=c;exact SeqAt.EqAt.str_str a d b t
  |_=>exact absurd (show false=true from f) Bool.false_ne_true
 |_=>exact absurd (show false=true from g) Bool.false_ne_true
def eqU(x:V)(u:cQx):Bool:=match u with
 |.none=>eqV .non x
 |.bool b=>eqV (.bl b) x
 |.int i _=>eqV (.int i) x
 |.str z _=>eqV (.str z) x
 |_=>false
def bJ4{x y:V}{u:cQx}(r:wE y u)(f:aQK y=true):eqU x u=eqV y x:=by
 cases y with
 |non=>cases r;rfl
 |bl b=>cases r;rfl
 |int i=>obtain⟨t,rfl⟩:=r;rfl
 |str z=>obtain⟨t,rfl⟩:=r;rfl
 |_=>exact absurd (show false=true from f) Bool.false_ne_true
def aQY{x:V}:∀ {xs:List V} {us:List cQx},zD xs us->xs.all aQK=true->us.any (eqU x)=xs.any λy=>eqV y x
 |_,_,.nil,_=>rfl
 |y::xs,u::us,.cons r t,f=>by rw[cJV,Bool.and_eq_true]at f;rw[cZP,cZP,bJ4 r f.1,aQY t f.2]
def W8{A:cXi}{s:cQA}{x:V}{v:cQx}(c:wE x v)(b:aQK x=true):∀ {xs:List V} {us:List cQx},zD xs us->xs.all aQK=true->∀u∈us,cWc A s u v (eqU x u)
 |_,_,.nil,_=>λu a=>by cases a
 |y::xs,u::us,.cons r t,f=>λd a=>by
  rw[cJV,Bool.and_eq_true]at f;rcases cQG.mp a with rfl|a
  ·rw[bJ4 r f.1];exact bJ3 r c f.1 b
  ·exact W8 c b t f.2 d a
def inV(x:V)(xs:List V):Bool:=xs.any λy=>eqV y x
def rIn(K:cQz)(a:Bool):R2:=λx y H Q=>∃p xs,y= .ref p/\(SqL K H p xs\/SqT K H p xs)/\aQK x=true/\xs.all aQK=true/\Q (.bl (if a then !inV x xs else inV x xs)) H
def uE:OpR X (cZa .In) (rIn X.K false):=by
 intro pins s σ H x y v u Q I c f h;obtain⟨p,xs,rfl,b,d,fs,q⟩:=h;cases f;rcases b with b|b
 ·obtain⟨a,r,pl,e⟩:=I.list b;refine SeqAt.in_listAt (eqU x) pl.isList (λw hw=>W8 c d r fs w (by simpa using hw)) ⟨.bl _,H,I,rfl,?_⟩;rw[show a.toArray.any (eqU x)=a.any (eqU x) by simp,aQY r fs];exact q
 ·obtain⟨a,r,pl,e⟩:=I.tuple b;refine SeqAt.in_tupleAt (eqU x) pl (λw hw=>W8 c d r fs w (by simpa using hw)) ⟨.bl _,H,I,rfl,?_⟩;rw[show a.toArray.any (eqU x)=a.any (eqU x) by simp,aQY r fs];exact q
def aQF:OpR X (cZa .NotIn) (rIn X.K true):=by
 intro pins s σ H x y v u Q I c f h;obtain⟨p,xs,rfl,b,d,fs,q⟩:=h;cases f;rcases b with b|b
 ·obtain⟨a,r,pl,e⟩:=I.list b;refine SeqAt.notIn_listAt (eqU x) pl.isList (λw hw=>W8 c d r fs w (by simpa using hw)) ⟨.bl _,H,I,rfl,?_⟩;rw[show a.toArray.any (eqU x)=a.any (eqU x) by simp,aQY r fs];exact q
 ·obtain⟨a,r,pl,e⟩:=I.tuple b;refine SeqAt.notIn_tupleAt (eqU x) pl (λw hw=>W8 c d r fs w (by simpa using hw)) ⟨.bl _,H,I,rfl,?_⟩;rw[show a.toArray.any (eqU x)=a.any (eqU x) by simp,aQY r fs];exact q
def yN:jX X (.builtin "len") (λxs H Q=>∃p ys,xs= [.ref p]/\(SqL X.K H p ys\/SqT X.K H p ys)/\Q (.int ys.length) H):=by
 intro pins s σ H xs g Q I r h;obtain⟨p,ys,rfl,b,q⟩:=h;obtain⟨u,rfl,e⟩:=aQs r;cases e;have i:=aJy;rcases b with b|b
 ·obtain⟨c,d,pl,f⟩:=I.list b;have a:=d.length;exact Calls.call_len_list pl.isList (by simp only[cQQ]<;> omega) ⟨.int ys.length,H,I.tok _,⟨s.toks+1,by rw[cQQ,a]⟩,q⟩
 ·obtain⟨c,d,pl,f⟩:=I.tuple b;have a:=d.length;exact len_tuple pl (by simp only[cQQ]<;> omega) ⟨.int ys.length,H,I.tok _,⟨s.toks+1,by rw[cQQ,a]⟩,q⟩
def uP:jX X (.type "list") (λxs H Q=>∃p ys,xs= [.ref p]/\(SqL X.K H p ys\/SqT X.K H p ys)/\∀l,H l=none->Q (.ref l) (upd H l (.lst ys))):=by
 intro pins s σ H xs x Q I r h;obtain⟨p,ys,rfl,j,q⟩:=h;obtain⟨u,rfl,v⟩:=aQs r;cases v;have fin:∀ (a:List cQx),zD ys a->ys.length<=cQW->∀ (h':Heap)(d:Nat),(∀b o',s.heap.get? b=some o'->h'.get? b=some o')->
   h'.get? s.heap.objs.size=some {cls:= .type "list",dict:=none,data:= .seq a.toArray d,slots:= #[] }->EP X pins σ Q (.ref s.heap.objs.size) {s with heap:=h'}:=λa c f h' d g e=>
  ⟨.ref s.heap.objs.size,_,I.laid (t':=s.toks) g (cQE _) (show zQ X.prog X.w _ h' _ (.lst ys)from⟨f,a,d,c,e⟩),rfl,q _ (I.hok.fresh (cQE _))⟩
 rcases j with j|j
 ·obtain⟨a,c,pl,f⟩:=I.list j;have i:=c.length;obtain⟨o,k,m,n,t⟩:=pl.isList;exact call_list_seq p (.inl rfl) k m t (λh' d g e=>fin a c f h' d g e) (by simp only[cQQ]<;> omega)
 ·obtain⟨a,c,pl,f⟩:=I.tuple j;have i:=c.length;obtain⟨o,k,m,n,t⟩:=pl;exact call_list_seq p (.inr rfl) k m t (λh' d g e=>fin a c f h' d g e) (by simp only[cQQ]<;> omega)
def Z9:jX X (.type "tuple") (λxs H Q=>∃p ys,xs= [.ref p]/\((SqL X.K H p ys/\∀l,H l=none->Q (.ref l) (upd H l (.tup ys)))\/(SqT X.K H p ys/\Q (.ref p) H))):=by
 intro pins s σ H xs n Q I r h;obtain⟨p,ys,rfl,h⟩:=h;obtain⟨u,rfl,j⟩:=aQs r;cases j;rcases h with⟨d,q⟩|⟨d,q⟩
 ·obtain⟨a,c,pl,i⟩:=I.list d;have g:=c.length;refine call_tuple_list pl.isList (λh' k=>?_) (by simp only[cQQ]<;> omega);have f:Inv X pins σ H {s with heap:=h'}:=I.kept (t':=s.toks) k;have m:Inv X pins σ (upd H h'.objs.size (.tup ys)) {s with heap:=h'.push {cls:= .type "tuple",data:= .seq a.toArray} }:=
   f.laid (t':=s.toks) (λb o e=>cQD _ e) (cQE _) (show zQ X.prog X.w _ _ _ (.tup ys)from⟨i,a,c,IsTup.new _ _⟩)
  exact⟨.ref h'.objs.size,_,m,rfl,q _ (f.hok.fresh (cQE _))⟩
 ·obtain⟨a,c,pl,i⟩:=I.tuple d;exact call_tuple_same pl ⟨.ref p,H,I,rfl,q⟩
def tyV(K:cQz)(T:String)(x:V)(H:Hp):Prop:=match x with
 |.str _=>T="str"
 |.int _=>T="int"
 |.ref p=>(T="list"/\∃xs,SqL K H p xs)\/(T="tuple"/\∃o,K.lookup p=some o/\o.cls= .type "tuple"/\o.dict=none)\/
   (T="dict"/\((∃a,H p=some (.dK a))\/∃a,H p=some (.dT a)))\/(T="set"/\∃S n,H p=some (.set S n))
 |_=>False
def bVr{pins:List (Addr×Obj)}{σ:St}{H:Hp}{s:cQA}{T:String}{x:V}{v:cQx}(I:Inv X pins σ H s)(r:wE x v)(ty:tyV X.K T x H): s.TypeIs v T/\∀a,v= .ref a->∃h,s.heap.get? a=some h/\h.dict=none:=by
 cases x with
 |str z=>obtain⟨t,rfl⟩:=r;cases (show T="str" from ty);exact⟨typeIs_str s z t,λ_ e=>nomatch e⟩
 |int i=>obtain⟨t,rfl⟩:=r;cases (show T="int" from ty);exact⟨typeIs_int s i t,λ_ e=>nomatch e⟩
 |ref p=>
  cases r;rcases ty with⟨rfl,xs,l⟩|⟨rfl,o,b,j,d⟩|⟨rfl,b⟩|⟨rfl,S,n,b⟩
  ·obtain⟨k,_,pl,_⟩:=I.list l;refine⟨pl.isList.typeIs,λa e=>?_⟩;cases e;obtain⟨o,n,e,c,d,_⟩:=pl;exact⟨o,e,d⟩
  ·refine⟨⟨o,I.kIn p o b,j⟩,λa e=>?_⟩;cases e;exact⟨o,I.kIn _ o b,d⟩
  ·have z:∃o,s.heap.get? p=some o/\o.ExactDict:=by
    rcases b with⟨f,b⟩|⟨f,b⟩
    ·obtain⟨_,_,_,_,o,_,_,e,ex,_⟩:=I.hok p _ b;exact⟨o,e,ex⟩
    ·obtain⟨_,_,_,_,o,_,_,e,ex,_⟩:=I.hok p _ b;exact⟨o,e,ex⟩
   obtain⟨o,e,ex⟩:=z;refine⟨⟨o,e,ex.1⟩,λa g=>?_⟩;cases g;exact⟨o,e,ex.2.1⟩
  ·obtain⟨o,_,_,_,e,ex,_⟩:=I.hok p _ b;refine⟨⟨o,e,ex.1⟩,λa g=>?_⟩;cases g;exact⟨o,e,ex.2.1⟩
 |_=>exact cZb ty
def cQr(K:cQz)(T:String)(r:V->List V->Hp->VK->Prop)(to:TE):TE:=λσ H Q=>to σ H λx H1=>tyV K T x H1/\r x [] H1 Q
def tBM(K:cQz)(T:String)(r:V->List V->Hp->VK->Prop)(to:TE)(t:TA):TE:=λσ H Q=>to σ H λx H1=>tyV K T x H1/\t σ H1 λxs H2=>r x xs H2 Q
variable {o e:Expr}{es:List Expr}{to:TE}{t:TA}{name:Str}{apos cpos:Pos}{T id:String}{r:V->List V->Hp->VK->Prop}
def bQF(g:PlainAttrs T)(c:Slot T name id)(d:typeOf (.builtin id)=pure (.type "method_descriptor"))(f:MtR X id r)(e:PE X o to) (b:cJr o name X.env (eval o X.env)=eval o X.env:=by rfl) (a:(apos.endLine==cpos.line)=true:=by rfl):PE X (.Call (.Attribute o name apos) [] [] cpos) (cQr X.K T r to):=by
 intro pins s σ H Q I h;refine wpAny_Call_method0_late b a (thn (e pins s σ H _ I h) λv s1 ⟨x,H1,I1,r1,ty,q1⟩=>?_);obtain⟨h1,h2⟩:=bVr I1 r1 ty;exact⟨T,id,g,c,d,h1,h2,Calls.callWith_builtin rfl (PySem.evalArgs_none (f pins s1 σ H1 x [] v [] Q I1 r1 .nil q1))⟩
def jC(n:PlainAttrs T)(f:Slot T name id)(g:typeOf (.builtin id)=pure (.type "method_descriptor"))(m:MtR X id r)(k:PE X o to)(l:PA X (e::es) t)
  (c:cJr o name X.env (eval o X.env)=eval o X.env:=by rfl)
  (d:((cZj cpos (cXe (e::es) X.env)).all (λx=> !x.1) && (cJT cpos (cZW [] X.env)).all (λx=>x.1.isSome) && decide ((e::es).length+([]:List Keyword).length+(if([]:List Keyword).isEmpty then 0 else 1)<30))=true:=by rfl)
  (b:(apos.endLine==cpos.line)=true:=by rfl) (j:cXe (e::es) X.env=(false,eval e X.env)::cXe es X.env:=by rfl) (a:(cZj cpos (cXe es X.env)).any (·.1)=false:=by rfl):
  PE X (.Call (.Attribute o name apos) (e::es) [] cpos) (tBM X.K T r to t):=by
 intro pins s σ H Q I h
 refine wpAny_Call_method_late c d b rfl (thn (k pins s σ H _ I h) λv s1 ⟨x,H1,I1,r1,ty,q1⟩=>?_)
 obtain⟨h1,h2⟩:=bVr I1 r1 ty
 refine⟨T,id,n,f,g,h1,h2,?_⟩
 have i:=l cpos pins s1 σ H1 _ I1 q1
 rw[j]at i ⊢
 refine Calls.callWith_builtin (by show(false || (cZj cpos (cXe es X.env)).any (·.1))=false;rw[a]<;> rfl) (Calls.evalArgs_plain ?_)
 exact thn i λus s2 ⟨vs,H2,I2,r2,q2⟩=>m pins s2 σ H2 x vs v us Q I2 r1 r2 q2
end
end L2
namespace L2
open PySem PySem.Spec PyProof.Rows
def MtM(X:Cx)(id:String)(r:V->List V->Hp->VK->Prop):Prop:=
 ∀ (pins:List (Addr×Obj))(s:cQA)(σ:St)(H:Hp)(x:V)(xs:List V)(v:cQx)(a:List cQx)(Q:VK),Inv X pins σ H s->wE x v->zD xs a->r x xs H Q->
  cQF (cQH X.prog X.w) X.A (call (.builtin id) (v::a)) (EP X pins σ Q) X.xe s
def zD.one:∀ {x:V} {us:List cQx},zD [x] us->∃u,us= [u]/\wE x u
 |_,_,.cons r .nil=>⟨_,rfl,r⟩
def zD.two:∀ {x y:V} {us:List cQx},zD [x,y] us->∃u v,us= [u,v]/\wE x u/\wE y v
 |_,_,_,.cons r (.cons q .nil)=>⟨_,_,rfl,r,q⟩
def zD.zero:∀ {us:List cQx},zD [] us->us= []
 |_,.nil=>rfl
def zD.dropLast{xs:List V}{us:List cQx}(h:zD xs us):zD xs.dropLast us.dropLast:=by
 induction h with
 |nil=>exact .nil
 |cons r t a=>
  cases t with
  |nil=>exact .nil
  |cons q b=>exact .cons r a
def zD.reverse{xs:List V}{us:List cQx}(h:zD xs us):zD xs.reverse us.reverse:=by
 induction h with
 |nil=>exact .nil
 |cons r t a=>rw[List.reverse_cons,List.reverse_cons];exact zD.append a (.cons r .nil)
def aKi{α:Type}(l:List α):l.eraseIdx (l.length - 1)=l.dropLast:=by
 induction l with
 |nil=>rfl
 |cons a r c=>
  cases r with
  |nil=>rfl
  |cons b r=>
   have e:(a::b::r).length - 1=((b::r).length - 1)+1:=by have h1:(a::b::r).length=r.length+2:=rfl;have h2:(b::r).length=r.length+1:=rfl;omega
   rw[e,List.eraseIdx_cons_succ,c];all_goals rfl
section
variable {X:Cx}{pins:List (Addr×Obj)}{σ:St}{H:Hp}{s:cQA}{l b:Addr}{xs ys zs:List V}
def Inv.lset{its its':List cQx}{n:Nat}{f:Array cQx->Array cQx}{t':Nat}(I:Inv X pins σ H s)(a:H l=some (.lst xs)) (e:s.heap.get? l=some {cls:= .type "list",data:= .seq its.toArray n}) (g:f its.toArray=its'.toArray) (c:zD ys its') (h:ys.length<=cQW): Inv X pins σ (upd H l (.lst ys)) {s with heap:=s.heap.update l (cXm f),toks:=t'}:=by
 have q:=PySem.IsL.update e f;rw[g]at q;refine I.write (x:=l) (e:=l) (by rw[a];exact trivial) (.inl rfl) (λi u d b=>(cQ9 s.heap (cXm f) (cXg d)).trans b) ⟨_,q⟩ ?_;exact⟨h,its',_,c,q⟩
def Inv.lnew{its:List cQx}{t':Nat}(I:Inv X pins σ H s)(a:zD ys its)(hz:ys.length<=cQW): Inv X pins σ (upd H s.heap.objs.size (.lst ys)) {s with heap:=s.heap.push {cls:= .type "list",data:= .seq its.toArray},toks:=t'}:=
 I.laid (λ_ _ q=>cQD _ q) (cQE _) ⟨hz,its,0,a,cQY _ rfl⟩
def Inv.fresh(I:Inv X pins σ H s):H s.heap.objs.size=none:=I.hok.fresh (cQE _)
def Inv.lstM(I:Inv X pins σ H s)(a:H l=some (.lst xs)):xs.length<=cQW/\∃ (its:List cQx)(n:Nat),zD xs its/\xs.length=its.length/\s.heap.get? l=some {cls:= .type "list",data:= .seq its.toArray n}:=by
 obtain⟨z,its,n,r,e⟩:=I.hok l _ a;exact⟨z,its,n,r,r.length,e⟩
def bZC{n:Nat}(h:n<=cQW):cJ6 n=false:=by
 unfold cJ6;exact decide_eq_false (by omega)
end
section
variable {X:Cx}
def bQM:V->List V->Hp->VK->Prop:=λx a H Q=>∃l xs y,x= .ref l/\a= [y]/\H l=some (.lst xs)/\xs.length<cQW/\Q .non (upd H l (.lst (xs++ [y])))
def xR:MtM X "list.append" bQM:=by
 intro pins s σ H x i v g Q I d f h;obtain⟨l,xs,y,rfl,rfl,b,j,q⟩:=h;cases d;obtain⟨u,rfl,c⟩:=f.one;obtain⟨z,a,n,r,hl,e⟩:=I.lstM b;refine call_meets F.slot_list_append ⟨_,e,rfl⟩ F.entry_list_append (F.args_list_append_2 _ _) (PySem.list_append l a.toArray n u (by rw[cQQ];omega)) ⟨e,?_⟩;refine⟨.non,_,I.lset (its':=a++ [u]) b e (by simp) (r.append (.cons c .nil)) ?_,rfl,q⟩;rw[cQ0,cXL];omega
def bWv:V->List V->Hp->VK->Prop:=λx a H Q=>∃l b xs zs,x= .ref l/\a= [.ref b]/\H l=some (.lst xs)/\H b=some (.lst zs)/\xs.length+zs.length<=cQW/\Q .non (upd H l (.lst (xs++zs)))
def bQc:MtM X "list.extend" bWv:=by
 intro pins s σ H x A v y Q I k t h;obtain⟨l,b,xs,zs,rfl,rfl,g,w,B,q⟩:=h;cases k;obtain⟨u,rfl,j⟩:=t.one;cases j;obtain⟨z,c,n,r,hl,e⟩:=I.lstM g;obtain⟨z2,a,i,o,p,m⟩:=I.lstM w;have f:c.toArray.size+a.toArray.size<=cQW:=by rw[cQQ,cQQ];omega
 have d:¬ (!c.toArray.isEmpty && cJ6 (c.toArray.size+a.toArray.size))=true:=by rw[bZC f,Bool.and_false];exact Bool.false_ne_true
 refine call_meets F.slot_list_extend ⟨_,e,rfl⟩ F.entry_list_extend (F.args_list_extend_2 _ _)
  (AutoSeq1.list_extend_list_list_0 l c.toArray n b a.toArray i d (by rw[cQQ];omega) (by omega)) ⟨e,m,?_⟩
 refine⟨.non,_,I.lset (its':=c++a) g e (by simp) (r.append o) ?_,rfl,q⟩;rw[cQ0];omega
def cQl:V->List V->Hp->VK->Prop:=λx a H Q=>∃l xs y,x= .ref l/\a= []/\H l=some (.lst xs)/\xs[xs.length - 1]? =some y/\Q y (upd H l (.lst xs.dropLast))
def bQd:MtM X "list.pop" cQl:=by
 intro pins s σ H x o v m Q I g j h;obtain⟨l,xs,y,rfl,rfl,d,i,q⟩:=h;cases g;have b:=j.zero;subst b;obtain⟨z,a,n,r,hl,e⟩:=I.lstM d;obtain⟨u,k,f⟩:=r.get i;have c:a.toArray[a.toArray.size - 1]? =some u:=by show a.toArray[a.length - 1]? =some u;rw[<- cZd,<- hl];exact k
 refine call_meets F.slot_list_pop ⟨_,e,rfl⟩ F.entry_list_pop (F.args_list_pop_1 _) (MeetsSeq.list_pop_last l a.toArray n u c (by rw[cQQ];omega)) ⟨e,?_⟩;refine⟨y,_,I.lset (its':=a.dropLast) d e ?_ r.dropLast ?_,f,q⟩
 ·show a.toArray.eraseIdxIfInBounds (a.toArray.size - 1)=a.dropLast.toArray;rw[cQQ,List.eraseIdxIfInBounds_toArray,aKi]
 ·rw[List.length_dropLast];omega
def cQk:R2:=λx y H Q=>∃l b xs zs,x= .ref l/\y= .ref b/\H l=some (.lst xs)/\H b=some (.lst zs)/\xs.length+zs.length<=cQW/\∀p,H p=none->Q (.ref p) (upd H p (.lst (xs++zs)))
def aX8:OpR X (cZ5 .Add) cQk:=by
 intro pins s σ H x y v u Q I d k h;obtain⟨l,b,xs,zs,rfl,rfl,f,o,t,q⟩:=h;cases d;cases k;obtain⟨z,c,n,r,hl,e⟩:=I.lstM f;obtain⟨z2,a,p,i,m,g⟩:=I.lstM o;refine PySem.P.add_list e g ?_ (by rw[cQQ,cQQ];omega);have j:c.toArray++a.toArray=(c++a).toArray:=by simp
 rw[j];exact⟨.ref _,_,I.lnew (t':=s.toks) (r.append i) (by rw[cQ0];omega),rfl,q _ I.fresh⟩
end
section
variable {prog:cQT}{w:cQ2}{A:cXi}{E:cQx->cQA->Prop}{s:cQA}
end
section
variable {X:Cx}
end
end L2
namespace Att
open PySem PySem.W PySem.Calls PyProof.Rows
def aQ4{P:Params}{h:Heap}:∀ (c:List Int)(vs:List cQx),WellAll P h vs (c.map WData.int)->cZT vs c:=by
 intro c;induction c with
 |nil=>intro vs w;rw[List.map_nil]at w;cases w;exact .nil
 |cons n c d=>
  intro vs w;rw[cXb]at w;cases w with
  |cons a b=>cases a;exact .cons _ _ (d _ b)
def bXp{l:OpenLaw}{n:Nat}(w:l.most=some n){P:Params}{h:Heap}{args:List WData}{vals:List cQx} (c:l.row.toRowW.claim.pre args=true) (k:WellAll P h vals args): ∃a o b,vals= [Value.ref a]/\args= [WData.list (b.map WData.int)]/\h.get? a=some {cls:= .type "list",data:= .seq o.toArray}/\cZT o b/\b.length<=n:=by
 have j:WShape.hasAll [] args [.list .int]=true:=(pre_splitW c).1;have m:l.pre.holds [] {args:=args}=true:=(pre_splitW c).2;obtain⟨d,r,rfl,h1,h2⟩:=hasAllW_cons j;obtain rfl:=hasAllW_nil h2;obtain⟨xs,rfl,s⟩:=hasW_list h1;obtain⟨b,rfl⟩:=items_int s;have f:b.length<=n:=by
  unfold OpenLaw.pre at m;have i:(WTm.not (.lt (.lit (.int (n:Int))) (.len (.arg 0)))).holds [] {args:= [.list (b.map .int)] }=true:=by have i:=(holds_andW m).1;rw[w]at i;exact i
  have g:=condW_of i (w_not (w_lt w_lit (w_len_list (w_arg rfl))));rw[cQB]at g;refine Nat.le_of_not_lt λq=>?_;have v:(n:Int)<((b.length:Nat):Int):=by omega
  first
   |(rw[decide_eq_true v]at g;exact absurd g (by decide))
   |(simp at g;omega)
 cases k with
 |cons t u=>
  cases u;cases t with
  |list p e=>exact⟨_,_,b,rfl,rfl,p,aQ4 b _ e,f⟩
def bQJ(l:OpenLaw)(args:List WData):l.row.toRowW.claim.post args (.bool true) args=true:=
 postW_of (r:=l.row.toRowW) (X:=(true==true))
  (show WShape.has [] (.bool true) .bool=true by first|rfl|decide|simp[WShape.has,WShape.arms,WShape.armsAll])
  (show(WTm.eq .res (.lit (.bool true))).value [] {args:=args,res:=some (.bool true),after:=args}=some (.bool (true==true))from w_eq_bool (w_res rfl) w_lit) rfl
def aVa{l:OpenLaw}{n:Nat}{q:cQT}{loose:List Str}{z:(Str->Option cQx)->Heap->Prop}{A:cQ2->Heap->Prop}{d:DefRec} (M:l.most=some n) (x:d.params.defaults= []) (call:∀ (w:cQ2)(s₀ b:cQA)(mg v:Str->Option cQx)(i:Addr)(o:Obj)(t m c:cQx)(a:Addr)(vs:List cQx)(k:List Int), Ground q loose [] z w s₀ mg v b.heap->A w b.heap-> b.heap.get? i=some o->o.data= .func (docDef d.name d.params d.body d.scope t m c)->b.heap.CodeRec m d.name->mg d.name=some (.ref i)-> b.heap.get? a=some {cls:= .type "list",data:= .seq vs.toArray}->cZT vs k->k.length<=n->b.gens= #[]-> cZO (cQH l.prog w) callerA (.call (.ref i) ⟨[.ref a],[]⟩) (λr s'=>r= .ok (.ret (.bool true))/\OldK b.heap s'.heap/\s'.os=b.os/\AllBare s'.gens) b): WalkO q loose z A l.row.toRowW d [] (λf vs=>PySem.call f vs):=by
 intro w s₀ b mg v G Y i o t m c I kV C H u y p E args vals O g B L s D;obtain rfl:I= .none:=Dflts.none y x;obtain rfl:kV= .none:=Dflts.noKw y;obtain⟨a,vs,k,rfl,rfl,h,e,j⟩:=bXp M g s;refine enter_call (cZv (call w s₀ b mg v i o t m c a vs k G Y C (fd_plain H) u p h e j E) λr s' N=>?_);obtain⟨rfl,h2,F,J⟩:=N;exact⟨.inl ⟨.bool true,.bool true,[],rfl,λ_=>rfl,.bool true,bQJ l _,λ_=>⟨List.Pairwise.nil,λ_ K=>(nomatch K)⟩⟩,h2,F,J⟩
section
variable {prog:cQT}{w:cQ2}{A:cXi}{E:cQx->cQA->Prop}{s:cQA}{K:Frag}
end
end Att
namespace L2
open PySem PySem.Spec PyProof.Rows
def jH:∀ {vs:List cQx} {a:List Int},cZT vs a->zD (a.map V.int) vs
 |_,_,.nil=> .nil
 |_,_,.cons n t h=> .cons ⟨t,rfl⟩ (jH h)
end L2
namespace L2
open PySem PySem.Spec PyProof.Rows
end L2
namespace L2
open PySem PySem.Spec PyProof.Rows
def wX(s:Stmt):Arguments:=match s with
 |.FunctionDef _ a _ _ _ _ _ _ _ _=>a
 |_=>{posonlyargs:= [],args:= [],vararg:=none,kwonlyargs:= [],kw_defaults:= [],kwarg:=none,defaults:= [] }
def zW(s:Stmt):List Stmt:=match s with
 |.FunctionDef _ _ b _ _ _ _ _ _ _=>b
 |_=> []
def yH(s:Stmt):cZL:=match s with
 |.FunctionDef _ _ _ _ _ _ a _ _ _=>a
 |_=>{kind:= .function,names:= [],isGenerator:=false,isCoroutine:=false}
abbrev CX0:CXT:=λ_ _ _ _ _ _=>False
abbrev E0:XK:=λ_ _ _=>False
def uT{X:Cx}:uB CX0 X E0:=λ_ _ _ _ _ _ _ h=>h.elim
structure Fun(K:cQz)(x qual:Str)(st:Stmt)(f:Addr)(fd:cZz):Prop where
 ex:∃ (oc:cQx)(od:Option Addr)(kV doc pm:cQx)(an:Option Addr)(cdv ct:cQx)(osl:Array (Option cQx)),
  fd=cXW x qual (wX st) (zW st) (yH st) .none kV doc pm an cdv ct/\K.lookup f=some ⟨oc,od,.func fd,osl⟩/\cZn K cdv qual=true
 kp:cXv K (.ref f)=true
section
variable {P:cQT}{w:cQ2}{K:cQz}{mg:Str->Option cQx}{base:Heap}
def Fun.ok{x qual:Str}{st:Stmt}{f:Addr}{fd:cZz}{N ps:List Str}{k:Nat}{sp:Sp}(F:Fun K x qual st f fd)(S:yO N ps (yH st)) (b:∀ (a:cQx)(A:cXi)(outer:List Env)(s:cQA)(H:Hp)(vs:List V)(Q:VK)(E:XK),uS k (A.deeper (cZy qual (yH st) s.heap.objs.size f a))->sp vs H Q E-> ∃t,PSs (aZo CX0 P w K mg base N qual (yH st) f a A outer s H E).nox (zW st) t/\t {nx:=λ_ H'=>Q .non H',rt:=Q} (start N vs) H) (len:∀vs H Q E,sp vs H Q E->vs.length=ps.length:=by intro _ _ _ _ h;repeat (first|(obtain⟨rfl,_⟩:=h;exact rfl)|(obtain⟨_,h⟩:=h))):xL P w K mg base CX0 (k+1) f fd ps sp:=by
 obtain⟨n,j,kV,e,m,l,a,ct,g,rfl,lk,d⟩:=F.ex;refine bVO lk d S len λA outer s H vs Q E i c=>?_;obtain⟨t,h,q⟩:=b a A outer s H vs Q E i c;exact⟨t,h.nox,q⟩
def Fun.binds{x qual:Str}{st:Stmt}{f:Addr}{fd:cZz}{ps:List Str}(F:Fun K x qual st f fd) (h:∀ (kV a d:cQx)(c:Option Addr)(b ct:cQx)(us:List cQx),us.length=ps.length->bindArgs (cXW x qual (wX st) (zW st) (yH st) .none kV a d c b ct) ⟨us,[]⟩=pure (ps.zip us)):uX K fd ps []:=by
 obtain⟨j,i,kV,a,d,c,b,ct,g,rfl,lk,e⟩:=F.ex;exact .all (h kV a d c b ct)
def aX4{x qual:Str}{st:Stmt}{f:Addr}{i:cQx}{h e:Option Addr}{d:Array (Option cQx)}{kV b g a ct:cQx}(l:K.lookup f=some ⟨i,h,.func (cXW x qual (wX st) (zW st) (yH st) .none kV b g e a ct),d⟩)
  (c:cZn K a qual=true) (k:cXv K (.ref f)=true):Fun K x qual st f (cXW x qual (wX st) (zW st) (yH st) .none kV b g e a ct):=⟨⟨i,h,kV,b,g,e,a,ct,d,rfl,l,c⟩,k⟩
end
def bKC{A:cXi}{k:Nat}(a:uS k A):A.units+1<cLine:=Nat.lt_of_le_of_lt (Nat.add_le_add_left (by decide:1<=64) _) a.units
section
variable {X:Cx}
def pv(i:Nat){x:Str}{pos:Pos}(c:X.N[i]? =some x:=by rfl)(b:Vis X.env.scope x:=by first|exact Or.inl rfl|exact Or.inr (Or.inl rfl)|exact Or.inr (Or.inr rfl))(d:(x==("__debug__":Str))=false:=by decide)
  (a:(x==("__classdict__":Str))=false:=by decide):PE X (.Name x pos) (bKa i):=bVf c b d a
end
def X2{c A B:Prop} [Decidable c] (h1:c->A)(h2:¬c->B):if c then A else B:=by
 by_cases h:c
 ·rw[if_pos h];exact h1 h
 ·rw[if_neg h];exact h2 h
def xJ(H H':Hp):Prop:=∀b o,H b=some o->H' b=some o
def xJ.refl(H:Hp):xJ H H:=λ_ _ h=>h
def xJ.trans{H H1 H2:Hp}(a:xJ H H1)(b:xJ H1 H2):xJ H H2:=λc o h=>b c o (a c o h)
def xJ.seq{K:cQz}{H H':Hp}{a:Addr}{xs:List V}(e:xJ H H')(h:SqL K H a xs):SqL K H' a xs:=by
 rcases h with(h|⟨o,h⟩)|h
 ·exact .inl (.inl (e _ _ h))
 ·exact .inl (.inr ⟨o,e _ _ h⟩)
 ·exact .inr h
end L2
namespace L2
open PySem
def scM{N P:List Str}{sc:Scope}(h:decide (sc.kind=.function/\sc.isCoroutine=false/\sc.isGenerator=false/\N.Nodup/\N.take P.length=P/\(∀x∈P,sc.names.lookup x=some .local\/sc.names.lookup x=some .cell)/\∀y∈sc.names,y.2≠.free)=true:=by decide +kernel):yO N P sc:=
 have z:=of_decide_eq_true h;⟨z.1,z.2.1,z.2.2.1,z.2.2.2.1,z.2.2.2.2.1,z.2.2.2.2.2.1,z.2.2.2.2.2.2⟩
end L2
namespace L2
open PySem PySem.Spec PyProof.Rows
def W0(env:Env)(l:List (Str×cJz))(cs:List (Str×Nat)):Sem (List (Str×Nat)):=do
 let mut cs:=cs
 for (name,kind)in l do
  if kind== .free then cs:=(name,<- cellOf env name)::cs
 return cs
def aKb(env:Env)(cs:List (Str×Nat)):W0 env [] cs=pure cs:=by simp[W0]
def aVe{env:Env}{n:Str}{c:Nat}{r:List (Str×cJz)}{cs:List (Str×Nat)}(h:env.cells.lookup n=some c):W0 env ((n,.free)::r) cs=W0 env r ((n,c)::cs):=by
 have e:cellOf env n=pure c:=by unfold cellOf;rw[h]
 simp[W0,e]
def aJf{env:Env}{n:Str}{k:cJz}{r:List (Str×cJz)}{cs:List (Str×Nat)}(h:k≠ .free):W0 env ((n,k)::r) cs=W0 env r cs:=by
 simp[W0,h]
def aVf{env:Env}:∀ (l:List (Str×cJz))(cs:List (Str×Nat)),(∀y∈l,y.2= .free->∃c,env.cells.lookup y.1=some c)->(∀y c,cs.lookup y=some c->env.cells.lookup y=some c)->
  ∃cl,W0 env l cs=pure cl/\(∀y c,cl.lookup y=some c->env.cells.lookup y=some c)/\(∀y,(∃c,cs.lookup y=some c)->∃c,cl.lookup y=some c)/\(∀y,(y,NameKind.free)∈l->∃c,cl.lookup y=some c)
 |[],cs,_,h=>⟨cs,aKb env cs,h,λ_ z=>z,λ_ z=>by cases z⟩
 |(n,k)::r,cs,hl,h=>by
  by_cases f:k= .free
  ·subst f;obtain⟨c,o⟩:=hl (n,.free) cQM rfl;obtain⟨cl,g,i,d,m⟩:=aVf r ((n,c)::cs) (λy a=>hl y (cQI _ a)) (λy b e=>by
    rw[cZt]at e;split at e
    ·rename_i z;cases e;rw[beq_iff_eq.mp z];exact o
    ·exact h y b e)
   have j:∀y,(∃c,cs.lookup y=some c)->∃b,((n,c)::cs).lookup y=some b:=λy ⟨b,e⟩=>by
    rw[cZt];split
    ·exact⟨_,rfl⟩
    ·exact⟨b,e⟩
   refine⟨cl,by rw[aVe o];exact g,i,λy z=>d y (j y z),λy a=>?_⟩;rcases cQG.mp a with e|a
   ·cases e;exact d _ ⟨c,by rw[cZt,beq_self_eq_true]⟩
   ·exact m y a
  ·obtain⟨cl,g,i,d,m⟩:=aVf r cs (λy a=>hl y (cQI _ a)) h;refine⟨cl,by rw[aJf f];exact g,i,d,λy a=>?_⟩;rcases cQG.mp a with e|a
   ·cases e;exact absurd rfl f
   ·exact m y a
abbrev blk(X:Cx)(N:List Str)(sc:cZL)(cl:List (Str×Nat))(C:Nat)(s:cQA)(H:Hp)(ex:List Nat):Cx:=
 {X with N:=N,s₀:=s,H₀:=H,env:=compEnvC sc cl C X.env,outer:=X.stack,ex:=ex,fn:=λ_=>false,pn:= [],xe:=λ_ _=>False}
def sub(σ:St)(fr:List Nat)(o:Option V):St:=o::fr.map λi=>(σ[i]?).join
abbrev lsN(l:List (Str×cJz)):PySem.Scope:={kind:= .function,names:=l,isGenerator:=false,isCoroutine:=false,more:= [] }
def ixK{X:Cx}{K:cQz}(h:X.K=K:=by rfl):IxR X (bKg K):=by subst h;exact yK
def ixT{X:Cx}{K:cQz}(h:X.K=K:=by rfl):IxR X (bYQ K):=by subst h;exact yX
structure xO(N:List Str)(osc:cZL)(x:Str)(names:List Str)(fr:List Nat)(sc:cZL):Prop where
 kind:sc.kind= .function
 nocell:∀y∈sc.names,y.2≠ .cell
 loc:∀y∈sc.names,y.2= .local->sc.names.lookup y.1=some .local
 var:sc.names.lookup x=some .local
 free:∀y∈sc.names,y.2= .free->osc.names.lookup y.1=some .cell\/osc.names.lookup y.1=some .free
 flk:∀y∈sc.names,y.2= .free->sc.names.lookup y.1=some .free
 nd:(x::names).Nodup
 len:fr.length=names.length
 taken:∀p∈names.zip fr,N[p.2]? =some p.1/\(p.1,NameKind.free)∈sc.names
def xO.from_{N:List Str}{b sc:cZL}{x:Str}{names:List Str}{fr:List Nat}(S:xO N b x names fr sc)(j:Nat)(y:Str)(h:names[j]? =some y):∃i,fr[j]? =some i/\N[i]? =some y/\(y,NameKind.free)∈sc.names:=by
 have e:j<names.length:=(cQK.mp h).1;have a:j<fr.length:=by rw[S.len];exact e
 have z:(names.zip fr)[j]? =some (y,fr[j]):=by rw[List.getElem?_zip_eq_some];exact⟨h,cQw a⟩
 obtain⟨c,d⟩:=S.taken _ (cQP z);exact⟨fr[j],cQw a,c,d⟩
def bKn(X:Cx)(ifs:List Expr)(t:TT):Prop:=
 ∀ (pins:List (Nat×Obj))(s:cQA)(σ:St)(H:Hp)(Q:Bool->Hp->Prop),Inv X pins σ H s->t σ H Q->
  cQF (cQH X.prog X.w) X.A (forIn ifs true λc r=>if r=true then do let ok <- isTrue c X.env (eval c X.env);pure (cVw ok)else pure (cVw r)) (TP X pins σ Q) X.xe s
def bYZ:TT:=λ_ H Q=>Q true H
def wQ{X:Cx}:bKn X [] bYZ:=λpins s σ H Q I h=>by
 simp only[List.forIn_nil];exact cQC ⟨H,I,h⟩
def vA{X:Cx}{c:Expr}{a:TT}(d:PT X c a):bKn X [c] a:=λpins s σ H Q I h=>by
 simp only[cVy,List.forIn_nil,if_true,bind_assoc,pure_bind];refine cQy (thn (d pins s σ H Q I h) λb e z=>?_);exact cQC z
def bVx(J:It)(fr:List Nat)(tif:TT)(te:TE)(σ:St)(D:Nat)(Q:VK)(g:Hp):Prop:=
 ∃W:Nat->Nat->List V->Hp->Prop,(∃m,W 0 m [] g)/\∀i m a H,W i m a H->H D=some (.lst a)/\
  ((J.stop i H/\Q (.ref D) H)\/(J.go i H/\∀v d,J.yld i H v d->tif (sub σ fr (some v)) d λb f=>
   if b=true then te (sub σ fr (some v)) f λy e=>a.length<cQW/\e D=some (.lst a)/\∃c,c<m/\W (i+1) c (a++ [y]) (upd e D (.lst (a++ [y])))
   else ∃c,c<m/\W (i+1) c a f))
def tLc(wi:TI)(fr:List Nat)(tif:TT)(te:TE):TE:=λσ H Q=>wi σ H λJ a=>∀D,a D=none->bVx J fr tif te σ D Q (upd a D (.lst []))
def aZc{env:Env}:∀ {names:List (Str×cJz)} {y:Str},names.lookup y=some .free->
  (names.map λ(n,k)=>if(k==NameKind.free && env.scope.kind== .function && env.kindOf n==some .cell)then(n,NameKind.cell)else(n,k)).lookup y=some .cell\/
  (names.map λ(n,k)=>if(k==NameKind.free && env.scope.kind== .function && env.kindOf n==some .cell)then(n,NameKind.cell)else(n,k)).lookup y=some .free
 |[],_,h=>by simp at h
 |(n,k)::r,y,h=>by
  have b:= @aZc env r y;rw[cXb];dsimp only;cases a:y==n with
  |true=>
   rw[cZt,a]at h;cases h;split
   ·left;rw[cZt,a]
   ·right;rw[cZt,a]
  |false=>
   rw[cZt,a]at h;split
   ·rw[cZt,a];exact b h
   ·rw[cZt,a];exact b h
def aJI{env:Env}{sc:cZL}{y:Str}(h:sc.names.lookup y=some .free):(relabel sc env).names.lookup y=some .cell\/(relabel sc env).names.lookup y=some .free:=aZc h
section
variable {X:Cx}{pins:List (Nat×Obj)}{σ:St}{H:Hp}{s:cQA}
def bZv{prog:cQT}{w:cQ2}{A:cXi}{R:Result->cQA->Prop}{s:cQA}{elt a iter:Expr}{ifs:List Expr}{scope:cZL}{pos:Pos}{it o:cQx}{env:Env}(I:Nat->cQA->Prop)
  (turn:∀n s,I n s->cQF (cQH prog w) A (pyNext it) (λr b=>match r with
   |none=>R (.ok .next) b
   |some v=>cQF (cQH prog w) A (cVG a it v) (λ_ e=>cQF (cQH prog w) A (assign a env v) (λ_ j=>
     cQF (cQH prog w) A (forIn ifs true λc r=>if r=true then do let ok <- isTrue c env (eval c env);pure (cVw ok)else pure (cVw r)) (λok d=>
      if ok=true then cQF (cQH prog w) A (eval elt env) (λx f=>
       cQF (cQH prog w) A (call (.builtin "list.append") [o,x]) (λ_ g=>∃m,m<n/\I m g) (λ_ _=>False) f) (λ_ _=>False) d
      else ∃m,m<n/\I m d) (λ_ _=>False) j) (λ_ _=>False) e) (λ_ _=>False) b) (λ_ _=>False) s)
  (n:Nat) (h:I n s):cZO (cQH prog w) A (.compLoop (.ListComp elt [⟨a,iter,ifs,0⟩] scope pos) 0 it o env) R s:=by
 refine codeAny_loop rfl I (λn s u=>?_) n h
 show cQF _ A ((compTurn (.ListComp elt [⟨a,iter,ifs,0⟩] scope pos) 0 it o env).onRaise (λx=>do cJ9 x env;theTreesLotGoes x)) _ _ s
 refine wpAny_noted ?_
 rw[compTurn_list]
 refine cQy (cVl (cQy (cXD (turn n s u) (λr b i=>?_) λ_ _ z=>z.elim)))
 cases r with
 |none=>exact cQC i
 |some v=>
  refine cQy (cXD i (λ_ e l=>?_) λ_ _ z=>z.elim);refine cQy (cXD l (λ_ j t=>cQy (cXD t (λok d k=>?_) λ_ _ z=>z.elim)) λ_ _ z=>z.elim);cases ok with
  |false=>exact cQC ⟨rfl,k⟩
  |true=>refine cQy (cQy (cXD k (λx f q=>cQy (cXD q (λ_ g p=>?_) λ_ _ z=>z.elim)) λ_ _ z=>z.elim));exact cQC (cQC ⟨rfl,p⟩)
def bJ7{elt iter:Expr}{x:Str}{px:Pos}{ifs:List Expr}{sc:cZL}{pos:Pos}{names:List Str}{fr:List Nat}{tif:TT}{te:TE}{cl:List (Str×Nat)}{E:cQx->cQA->Prop}(S:xO X.N X.env.scope x names fr sc)(hc:X.calm=true)
  (d:∀y c,cl.lookup y=some c->X.env.cells.lookup y=some c) (a0:∀y,(y,NameKind.free)∈sc.names->∃c,cl.lookup y=some c)
  (c6:∀cl C s H ex,bKn (blk X (x::names) sc cl C s H ex) ifs tif) (he:∀cl C s H ex,PE (blk X (x::names) sc cl C s H ex) elt te)
  {J:It} {it:Nat} {f:List Nat} {tn:Nat->Heap->Prop} {Q:VK} (I:Inv X pins σ H s) (T:bYs X.prog X.w X.K (.Name x px) J f it tn) (st:tn 0 s.heap) (hf:∀b∈f,bJV X pins H b)
  (q:∀D,H D=none->bVx J fr tif te σ D Q (upd H D (.lst []))) {RR:cQx->Nat->Result->cQA->Prop}
  (c4:∀D C B g,Inv X pins σ g B->g C=none->C≠X.env.locals->X.s₀.heap.objs.size<=C->(∀y c,X.env.cells.lookup y=some c->c≠C)->(∀p∈X.pn++pins,p.1≠C)->(∃m,B.heap.Ns C m)->Q (.ref D) g->RR (.ref D) C (.ok .next) B):
  cQF (cQH X.prog X.w) X.A (newList []) (λb4 s₃=>cQF (cQH X.prog X.w) X.A (newFunctionEnv sc X.env.globals cl [] X.env.qual none .none (some X.env)) (λZ s₄=>
   cZO (cQH X.prog X.w) X.A (.compStart (.ListComp elt [⟨.Name x px,iter,ifs,0⟩] sc pos) 0 (.ref it) b4 {Z with scope:=relabel sc X.env}) (RR b4 Z.locals) s₄) E s₃) E s:=by
 refine cXT (wpAny_newFunctionEnv S.nocell (by intro y hy;simp at hy) (λt a4 a2=>?_) S.kind)
 dsimp only at a4 a2 ⊢
 have l:Inv X pins σ (upd H s.heap.objs.size (.lst [])) {s with heap:=s.heap.push {cls:= .type "list",dict:=none,data:= .seq ([]:List cQx).toArray} }:=I.lnew (t':=s.toks) (ys:= []) (its:= []) .nil (cXz _)
 have a8:=I.fresh
 obtain⟨W,⟨m0,w0⟩,turn⟩:=q s.heap.objs.size a8
 have Y:∀b∈f,∃o,s.heap.get? b=some o/\∀v,o.data≠ .cell v:=T.obj 0 _ st
 have hG:(s.heap.push {cls:= .type "list",dict:=none,data:= .seq ([]:List cQx).toArray}).objs.size=s.heap.objs.size+1:=cX1 ..
 have kG:∀b o,s.heap.get? b=some o->(s.heap.push {cls:= .type "list",dict:=none,data:= .seq ([]:List cQx).toArray}).get? b=some o:=λb o e=>cQD _ e
 generalize c9:s.heap.push {cls:= .type "list",dict:=none,data:= .seq ([]:List cQx).toArray}=G at a4 a2 l hG kG ⊢
 generalize c0:s.heap.objs.size=D at a8 turn w0 hG l ⊢
 have keep:∀b o,G.get? b=some o->t.get? b=some o:=λb o e=>a2.extBut b o (cQV (cQN e)) (cQD _ e)
 have b2:∀b∈f,b≠G.objs.size:=λb a=>by obtain⟨o,e,_⟩:=Y b a;exact cQV (cQN (kG b o e))
 have a1:∀y c,X.env.cells.lookup y=some c->c≠G.objs.size:=λy c e=>by obtain⟨v,z⟩:=l.cell y c e;exact cQV z.lt
 have b8:(blk X (x::names) sc cl G.objs.size {s with heap:=G} (upd H D (.lst [])) f).Ok:=by
  refine⟨I.ok.mod,?_,I.ok.glob,I.ok.blt,cQE _,?_,?_,?_,I.ok.hd,I.ok.frames,.inl rfl,?_,l.bs,cQ7 I.ok.bsz l.sz,?_,?_,l.stack,l.stkFree⟩
  ·show(relabel sc X.env).kind= .function;exact S.kind
  ·exact λy z c h1 h2=>I.ok.inj y z c (d y c h1) (d z c h2)
  ·intro y hy;have c2:(relabel sc X.env).names.lookup y=some .cell\/(relabel sc X.env).names.lookup y=some .free:=hy;have U:(y,NameKind.cell)∈(relabel sc X.env).names\/(y,NameKind.free)∈(relabel sc X.env).names:=c2.imp cX9 cX9;have c7:(y,NameKind.free)∈sc.names:=by
    rcases U with U|U
    ·obtain⟨⟨n,k⟩,hn,e⟩:=cXr.mp (show(y,NameKind.cell)∈sc.names.map _ from U);dsimp only at e;split at e
     ·rename_i M;cases e;have:k= .free:=by
       simp only[Bool.and_eq_true,beq_iff_eq]at M;exact M.1.1
      rw[this]at hn;exact hn
     ·cases e;exact absurd rfl (S.nocell _ hn)
    ·obtain⟨⟨n,k⟩,hn,e⟩:=cXr.mp (show(y,NameKind.free)∈sc.names.map _ from U);dsimp only at e;split at e
     ·cases e
     ·cases e;exact hn
   exact a0 y c7
  ·exact λy c h _=>by cases h
  ·intro b a;exact⟨b2 b a,λy c e=>(hf b a).2.2.2.2.1 y c (d y c e)⟩
  ·intro b o e a;obtain⟨f0,f1,f2,f3,f4,f5⟩:=hf b a;rcases f3 with z|z
   ·exact I.ok.noex b o e z
   ·exact absurd (cQ1 (cQN e) (cQ7 I.ok.bsz z)) (cXG _)
  ·intro b a z;obtain⟨f0,f1,f2,f3,f4,f5⟩:=hf b a;rcases cQG.mp (I.stkSub b z)with z|z
   ·exact f1 z
   ·exact f2 z
 have IY:Inv (blk X (x::names) sc cl G.objs.size {s with heap:=G} (upd H D (.lst [])) f) [] (sub σ fr none) (upd H D (.lst [])) {s with heap:=t,toks:=s.toks+([]:List (Str×cQx)).length}:=by
  refine⟨b8,rfl,I.bare,Un.kept keep,⟨_,a4,?_⟩,?_,l.hok.fresh (cQE _),λy c e=>l.freeC y c (d y c e),λp hp=>absurd (show p∈([]:List (Nat×Obj))from hp) (by simp),l.hok.kept keep,?_⟩
  ·intro i y v h1 h2 h3;cases i with
   |zero=>cases h2
   |succ j=>
    have b7:names[j]? =some y:=h1;obtain⟨i',e1,e2,e3⟩:=S.from_ j y b7;have c1:σ[i']? =some (some v):=by
     have z:(fr.map λi=>(σ[i]?).join)[j]? =some (some v):=h2;rw[cQR,e1]at z;have P:(σ[i']?).join=some v:=cQS z;cases q:σ[i']? with
     |none=>rw[q]at P;cases P
     |some o=>rw[q]at P;rw[show o=some v from P]
    obtain⟨m,hn,hl⟩:=l.loc;have b0:Vis X.env.scope y:= .inr (S.free _ e3 rfl);obtain⟨u,ru,lk⟩:=hl i' y v e2 c1 b0;refine⟨u,ru,.inr ⟨?_,?_⟩⟩
    ·exact aJI (S.flk _ e3 rfl)
    ·rcases lk with⟨k,_⟩|⟨k,c,e,z⟩
     ·rcases S.free _ e3 rfl with z|z
      ·have P:X.env.kindOf y=some .cell:=z;rw[k]at P;cases P
      ·have P:X.env.kindOf y=some .free:=z;rw[k]at P;cases P
     ·obtain⟨c',e'⟩:=a0 y e3;have:=d y c' e';rw[e]at this;cases this;exact⟨c,e',z.keeps keep⟩
  ·intro y c e;obtain⟨v,z⟩:=l.cell y c (d y c e);exact⟨v,z.keeps keep⟩
  ·show(sub σ fr none).length=(x::names).length;simp[sub,S.len]
 have a7:∀ {o:Option V} {g:Hp} {B:cQA} {pl:List (Nat×Obj)},Inv (blk X (x::names) sc cl G.objs.size {s with heap:=G} (upd H D (.lst [])) f) pl (sub σ fr o) g B->Inv X pins σ g B:=λ{o g B pl} I'=>
  l.call' (ch:=f) I'.os I'.base I'.hok I'.bare λb a=>by obtain⟨f0,f1,f2,f3,f4,f5⟩:=hf b a;exact⟨f3,f1,f4,f5⟩
 have O:∀ {g:Hp},(∀b∈f,g b=none)->∀b∈f,bJV (blk X (x::names) sc cl G.objs.size {s with heap:=G} (upd H D (.lst [])) f) [] g b:=λ{g} hn b a=>by
  obtain⟨f0,f1,f2,f3,f4,f5⟩:=hf b a;refine⟨hn b a,b2 b a,λz=>?_,.inl a,λy c e=>f4 y c (d y c e),λp hp=>absurd (show p∈([]:List (Nat×Obj))from hp) (by simp)⟩;rcases cQG.mp (I.stkSub b z)with z|z
  ·exact f1 z
  ·exact f2 z
 have b6:∀b∈f,upd H D (.lst []) b=none:=λb a=>by
  obtain⟨o,e,_⟩:=Y b a;have c5:b≠D:=by rw[<- c0];exact cQV (cQN e)
  rw[yJ c5];exact(hf b a).1
 have b1:tn 0 t:=T.keep 0 _ _ st λb a o e=>keep b o (kG b o e)
 have a6:cZO (cQH X.prog X.w) X.A (.compLoop (.ListComp elt [⟨.Name x px,iter,ifs,0⟩] sc pos) 0 (.ref it) (.ref D) (compEnvC sc cl G.objs.size X.env)) (RR (.ref D) G.objs.size) {s with heap:=t,toks:=s.toks+([]:List (Str×cQx)).length}:=by
  refine bZv (λn B=>∃i F o g,Inv (blk X (x::names) sc cl G.objs.size {s with heap:=G} (upd H D (.lst [])) f) [] (sub σ fr o) g B/\tn i B.heap/\(∀b∈f,g b=none)/\W i n F g) ?_ m0
   ⟨0,[],none,_,IY,b1,b6,w0⟩
  rintro n B ⟨i,F,o,g,I',b3,a5,w'⟩;obtain⟨hD,c8⟩:=turn i n F g w';rcases c8 with⟨a9,qn⟩|⟨go,step⟩
  ·refine thn (T.done (blk X (x::names) sc cl G.objs.size {s with heap:=G} (upd H D (.lst [])) f) rfl rfl rfl hc i [] B _ g (λ_ _=>False) I' (O a5) b3 a9) λr s1 ⟨hr,I1⟩=>?_;subst hr;obtain⟨mC,b9,_⟩:=I1.loc;exact c4 D G.objs.size s1 g (a7 I1) I1.free (cZZ l.lt) l.sz a1 (λp hp=>cQV (cQN (l.pin p hp).1)) ⟨mC,b9⟩ qn
  ·refine thn (T.item (blk X (x::names) sc cl G.objs.size {s with heap:=G} (upd H D (.lst [])) f) rfl rfl rfl hc i [] B _ g (λ_ _=>False) I' (O a5) b3 go) λr s1 ⟨u,hr,h1⟩=>?_;subst hr;refine thn h1 λ_ s2 ⟨v,H2,I2,rv,yl,st2,fr2⟩=>?_;have c3:=I2.pinned (O fr2) (T.obj _ _ st2);have pg:PG (blk X (x::names) sc cl G.objs.size {s with heap:=G} (upd H D (.lst [])) f) (.Name x px) (yW 0):=xI S.nd rfl (.inl (lookup_relabel_local S.var)) (.inr (lookup_relabel_local S.var));have L:∀ {o:Option V} {H3:Hp} {s3:cQA},Inv (blk X (x::names) sc cl G.objs.size {s with heap:=G} (upd H D (.lst [])) f) ([]++aJH f s2.heap) (sub σ fr o) H3 s3->tn (i+1) s3.heap/\∀b∈f,H3 b=none:=λ{o H3 s3} J3=>by
    refine⟨T.keep _ _ _ st2 λb a ob e=>(J3.pin (b,ob) (cQU _ (cQU _ (qV a e)))).1,λb a=>?_⟩;obtain⟨ob,e,_⟩:=T.obj _ _ st2 b a;exact(J3.pin (b,ob) (cQU _ (cQU _ (qV a e)))).2.1
   refine thn (pg _ s2 _ H2 v u (λσ' b5=>σ'=sub σ fr (some v)/\b5=H2) c3 rv ⟨rfl,rfl⟩) λ_ s3 ⟨σ3,H3,I3',e3,e3'⟩=>?_;subst e3;subst e3';refine thn (c6 cl G.objs.size {s with heap:=G} (upd H D (.lst [])) f _ s3 _ _ _ I3' (step v _ yl)) λb s4 ⟨H4,I4,q4⟩=>?_;cases b with
   |false=>have a3:∃R,R<n/\W (i+1) R F H4:=q4;obtain⟨R,U,w4⟩:=a3;obtain⟨z1,z2⟩:=L I4;show ∃m,m<n/\_;exact⟨R,U,i+1,F,some v,H4,I4.unpinned,z1,z2,w4⟩
   |true=>have a3:te (sub σ fr (some v)) H4 λy H5=>F.length<cQW/\H5 D=some (.lst F)/\∃R,R<n/\W (i+1) R (F++ [y]) (upd H5 D (.lst (F++ [y]))):=q4;show cQF _ _ _ _ _ _;refine thn (he cl G.objs.size {s with heap:=G} (upd H D (.lst [])) f _ s4 _ _ _ I4 a3) λue s5 ⟨y,H5,I5,r5,hl,hD5,R,U,w5⟩=>?_;refine thn (xR _ s5 _ H5 (.ref D) [y] (.ref D) [ue] (λ_ H6=>H6=upd H5 D (.lst (F++ [y]))) I5 rfl (.cons r5 .nil) ⟨D,F,y,rfl,rfl,hD5,hl,rfl⟩) λ_ s6 ⟨_,H6,I6,_,e6⟩=>?_;subst e6;obtain⟨z1,z2⟩:=L I6;exact⟨R,U,i+1,F++ [y],some v,_,I6.unpinned,z1,z2,w5⟩
 exact codeAny_compStart_list a6 (T.self _ 0 _ _ _ b1 a6)
def aVn{sc:cZL}{x:Str}{names:List Str}{fr:List Nat}(S:xO X.N X.env.scope x names fr sc)(I:Inv X pins σ H s): ∃cl,closureFor sc X.env=pure cl/\(∀y c,cl.lookup y=some c->X.env.cells.lookup y=some c)/\(∀y,(y,NameKind.free)∈sc.names->∃c,cl.lookup y=some c):=by
 obtain⟨cl,f,d,_,g⟩:=aVf (env:=X.env) sc.names [] (λy a b=>I.ok.has y.1 (S.free y a b)) (λy c e=>by simp at e);exact⟨cl,f,d,g⟩
end
section
variable {X:Cx}{elt iter:Expr}{x:Str}{px:Pos}{ifs:List Expr}{sc:cZL}{pos:Pos}{names:List Str}{fr:List Nat}{wi:TI}{tif:TT}{te:TE}
def aQj(S:xO X.N X.env.scope x names fr sc)(l:X.calm=true)(y:PI X (.Name x px) iter wi)(d:∀cl C s H ex,bKn (blk X (x::names) sc cl C s H ex) ifs tif) (t:∀cl C s H ex,PE (blk X (x::names) sc cl C s H ex) elt te) (k:∀v,cV2 iter X.env v=pure v:=by intro _;rfl):PE X (.ListComp elt [⟨.Name x px,iter,ifs,0⟩] sc pos) (tLc wi fr tif te):=by
 intro pins s σ H Q I h;obtain⟨cl,z,B,L⟩:=aVn S I;rw[eval_ListComp];refine cWa (use:=none) rfl k z S.kind S.loc (thn (y pins s σ H _ I h) λv V c=>thn c λj U a=>?_);obtain⟨R,Z,tn,J,Y,rfl,E,T,P,F,q⟩:=a;refine bJ7 (RR:=λf C=>compPost (cQH X.prog X.w) X.A X.xe none (EP X pins σ Q) f C) S l B L d t E T P F q ?_;intro D C p u i c a r K n g O;obtain⟨m,g⟩:=g;exact⟨m,g,λW G=>⟨.ref D,u,i.turned (t':=p.toks) (λb o M e=>(G.2 b M).trans e) c (cXg (cXg a)) (.inr r) K n,rfl,O⟩⟩
def aXZ{i:Nat}{y:Str}{f c:Pos}(S:xO X.N X.env.scope x names fr sc)(M:X.calm=true)(G:X.N.Nodup)(hy:X.N[i]? =some y)(hl:X.env.scope.names.lookup y=some .local)(V:PI X (.Name x px) iter wi)
  (n:∀cl C s H ex,bKn (blk X (x::names) sc cl C s H ex) ifs tif) (R:∀cl C s H ex,PE (blk X (x::names) sc cl C s H ex) elt te)
  (u:swapsWith (.ListComp elt [⟨.Name x px,iter,ifs,0⟩] sc pos) (some (.Name y f)) c.line X.env=pure true:=by rfl) (K:∀v,cV2 iter X.env v=pure v:=by intro _;rfl):
  PS X (.Assign [.Name y f] (.ListComp elt [⟨.Name x px,iter,ifs,0⟩] sc pos) c) (bYx (tLc wi fr tif te) (yW i)):=by
 intro pins s σ H D I h
 obtain⟨cl,W,Y,c4⟩:=aVn S I
 rw[exec_Assign_Name_used _ _ _ _ u]
 refine cQy (cVl (cQy ?_))
 show cQF _ X.A (do let _ <- comprehension (.ListComp elt [⟨.Name x px,iter,ifs,0⟩] sc pos) sc X.env _ (newList []) false (eval iter X.env) (some (assign (.Name y f) X.env))) _ _ s
 refine cQy (cXD (cWa (use:=some (assign (.Name y f) X.env)) (Q:=λ_ d=>SP X pins D .next d) rfl K W S.kind S.loc (thn (V pins s σ H _ I h) λv s1 l=>thn l λF s2 g=>?_)) (λ_ d z=>cQC (cQC z)) λ_ _ e=>e)
 obtain⟨it,fp,tn,J,H1,rfl,Z,T,st,hf,q⟩:=g
 refine bJ7 (RR:=λr C=>compPost (cQH X.prog X.w) X.A X.xe (some (assign (.Name y f) X.env)) (λ_ d=>SP X pins D .next d) r C) S M Y c4 n R Z T st hf q ?_
 intro L C d U E l g P B O t z
 obtain⟨m,t⟩:=t
 show cQF _ X.A (assign (.Name y f) X.env (.ref L)) _ _ d
 refine wpAny_assign_Name (aXM E G hy (.inl hl) (v:= .ref L) rfl (λs'' I'' ⟨a,sb,p⟩=>?_) (.inr hl))
 have j:C≠a:=by
  rcases p with rfl|p
  ·exact g
  ·exact cXg (B y a p)
 exact⟨m,t.sameBut sb j,λh' k=>⟨_,U,I''.turned (t':=s''.toks) (λb o hb e=>(k.2 b hb).trans e) l g (.inr P) B O,z⟩⟩
end
def aXd{K:cQz}{a:Nat}{xs:List V}{fr:List Nat}{tif:TT}{te:TE}{σ:St}{D:Nat}{Q:VK}{H:Hp}(p:V->Bool)(f:V->V)(hl:SqL K H a xs)(s:H D=none)(hz:xs.length<=cQW) (t:∀v∈xs,∀ (c:Hp)(R:Bool->Hp->Prop),(∀b,b≠D->c b=H b)->R (p v) c->tif (sub σ fr (some v)) c R) (x:∀v∈xs,p v=true->∀ (c:Hp)(R:VK),(∀b,b≠D->c b=H b)->R (f v) c->te (sub σ fr (some v)) c R) (A:Q (.ref D) (upd H D (.lst ((xs.filter p).map f)))):bVx (Itl K a) fr tif te σ D Q (upd H D (.lst [])):=by
 have d:∀g,SqL K (upd H D (.lst g)) a xs:=λg=>by
  rcases hl with(h|⟨o,h⟩)|h
  ·exact .inl (.inl (by rw[yJ (yI h s)];exact h))
  ·exact .inl (.inr ⟨o,by rw[yJ (yI h s)];exact h⟩)
  ·exact .inr h
 refine⟨λi m g c=>m=xs.length - i/\i<=xs.length/\g=((xs.take i).filter p).map f/\c=upd H D (.lst g),⟨xs.length,by simp,cXz _,by simp,rfl⟩,?_⟩;rintro i m g c ⟨rfl,C,rfl,rfl⟩;refine⟨yB,?_⟩;by_cases e:i<xs.length
 ·refine .inr ⟨⟨xs,xs[i],d _,cQw e⟩,λv E w=>?_⟩;obtain⟨rfl,y⟩:=w;have r:xs[i]? =some v:=y xs (d _);have k:v∈xs:=cQP r;have n:xs.take (i+1)=xs.take i++ [v]:=by rw[cXx,r];rfl
  have j:∀b,b≠D->upd H D (.lst (((xs.take i).filter p).map f)) b=H b:=λb z=>yJ z;have l:(((xs.take i).filter p).map f).length<cQW:=by rw[cQB];have u:=cXu p (xs.take i);rw[cXH]at u;omega
  refine t v k _ _ j ?_;cases q:p v with
  |false=>show ∃B,_;refine⟨xs.length - (i+1),by omega,rfl,e,?_,rfl⟩;rw[n,cXK,cXY (by rw[q];decide)];simp
  |true=>show te _ _ _;refine x v k q _ _ j ⟨l,yB,xs.length - (i+1),by omega,rfl,e,?_,by rw[qM]⟩;rw[n,cXK,cXZ q];simp
 ·obtain rfl:i=xs.length:=by omega
  refine .inl ⟨⟨xs,d _,cQE _⟩,?_⟩;rw[cXs];exact A
end L2
namespace L2
open PySem
def lcM{N:List Str}{osc:Scope}{x:Str}{names:List Str}{fr:List Nat}{sc:Scope}(h:decide (sc.kind=.function/\(∀y∈sc.names,y.2≠.cell)/\(∀y∈sc.names,y.2=.local->sc.names.lookup y.1=some .local)/\sc.names.lookup x=some .local/\(∀y∈sc.names,y.2=.free->osc.names.lookup y.1=some .cell\/osc.names.lookup y.1=some .free)/\(∀y∈sc.names,y.2=.free->sc.names.lookup y.1=some .free)/\(x::names).Nodup/\fr.length=names.length/\∀p∈names.zip fr,N[p.2]?=some p.1/\(p.1,NameKind.free)∈sc.names)=true:=by decide +kernel):xO N osc x names fr sc:=
 have z:=of_decide_eq_true h;⟨z.1,z.2.1,z.2.2.1,z.2.2.2.1,z.2.2.2.2.1,z.2.2.2.2.2.1,z.2.2.2.2.2.2.1,z.2.2.2.2.2.2.2.1,z.2.2.2.2.2.2.2.2⟩
end L2
namespace Stb
open PySem
def bXW(xs:Array Nat):Prop:=∀i j:Nat,i<j->j<xs.size->xs.getD i 0<xs.getD j 0
def bVP{xs:Array Nat}{i:Nat}(h:i<xs.size)(d e:Nat):xs.getD i d=xs.getD i e:=by
 simp[cZ9,h]
def aVl{xs:Array Nat}{j:Nat}(f:bXW xs):∀ (a c b:Nat),b<=xs.size->c<=b->b - c<=a->
  (∀k,k<c->xs.getD k 0<j)->(∀k,b<=k->k<xs.size->j<=xs.getD k 0)->
  (∀k,k<cJB xs j a c b->xs.getD k 0<j)/\(∀k,cJB xs j a c b<=k->k<xs.size->j<=xs.getD k 0)/\cJB xs j a c b<=xs.size
 |0,c,b,h1,h2,h3,h4,h5=>by
  have e:c=b:=by omega
  subst e;unfold cJB;exact⟨h4,h5,h1⟩
 |a+1,c,b,h1,h2,h3,h4,h5=>by
  unfold cJB;by_cases hl:c<b
  ·rw[if_pos hl];dsimp only;have i:(c+b) / 2<xs.size:=by omega
   have e:=bVP i j 0;by_cases h:xs.getD ((c+b) / 2) j<j
   ·rw[if_pos h];refine aVl f a _ _ h1 (by omega) (by omega) (λk l=>?_) h5;by_cases d:k=(c+b) / 2
    ·subst d;omega
    ·have:=f k ((c+b) / 2) (by omega) i;omega
   ·rw[if_neg h];refine aVl f a _ _ (by omega) (by omega) (by omega) h4 (λk l d=>?_);by_cases g:k=(c+b) / 2
    ·subst g;omega
    ·have:=f ((c+b) / 2) k (by omega) d;omega
  ·rw[if_neg hl];have e:c=b:=by omega
   subst e;exact⟨h4,h5,h1⟩
def qP{xs:Array Nat}(b:bXW xs)(j:Nat): (∀k,k<cXB xs j->xs.getD k 0<j)/\(∀k,cXB xs j<=k->k<xs.size->j<=xs.getD k 0)/\cXB xs j<=xs.size:=by
 unfold cXB;exact aVl b xs.size 0 xs.size (cQE _) (cXz _) (by omega) (λk a=>absurd a (cZg _)) (λk c d=>by omega)
def aW8{xs:Array Nat}(c:bXW xs){i:Nat}(f:i<xs.size):cXB xs (xs.getD i 0+1)=i+1:=by
 obtain⟨d,e,g⟩:=qP c (xs.getD i 0+1);have a:i<cXB xs (xs.getD i 0+1):=by apply Nat.lt_of_not_le;intro h;have:=e i h f;omega
 have b:¬i+1<cXB xs (xs.getD i 0+1):=λh=>by have q:=d (i+1) h;have:=c i (i+1) (by omega) (by omega);omega
 omega
def aW9{xs:Array Nat}(b:bXW xs):cXB xs 0=0:=by
 obtain⟨a,c,d⟩:=qP b 0;apply Nat.le_antisymm _ (cXz _);apply Nat.le_of_not_lt;intro h;have:=a 0 h;omega
def aZt{α:Type}(xs:Array α)(p:Nat)(x:α)(h:p<=xs.size):(cJC xs p x).size=xs.size+1:=by
 unfold cJC;simp;omega
def aQw{xs:Array Nat}{p x k:Nat}(h:p<=xs.size):(cJC xs p x).getD k 0=if k<p then xs.getD k 0 else if k=p then x else xs.getD (k - 1) 0:=by
 unfold cJC;have f:(xs.extract 0 p).size=p:=by simp;omega
 have d:((xs.extract 0 p).push x).size=p+1:=by rw[Array.size_push,f]
 simp only[Array.getD_eq_getD_getElem?];by_cases b:k<p
 ·rw[if_pos b,cVT (by omega),Array.getElem?_push,if_neg (by omega),cVN (by omega)];have a:k<xs.size:=by omega
  simp[a]
 ·rw[if_neg b];by_cases c:k=p
  ·subst c;rw[if_pos rfl,cVT (by omega),Array.getElem?_push,if_pos (by omega)];rfl
  ·rw[if_neg c,Array.getElem?_append_right (by omega),d];by_cases g:k - (p+1)<xs.size - p
   ·rw[cVN (by omega)];have a:k - 1<xs.size:=by omega
    have e:p+(k - (p+1))=k - 1:=by omega
    simp[a,e]
   ·rw[cJy (by simp;omega),cJy (by omega)]
def aVH{xs:Array Nat}(e:bXW xs){j:Nat}(l:∀k,k<xs.size->xs.getD k 0≠j):bXW (cJC xs (cXB xs j) j):=by
 obtain⟨b1,g,b⟩:=qP e j;intro i k c h;rw[aZt _ _ _ b]at h;rw[aQw b,aQw b];by_cases d:i<cXB xs j
 ·rw[if_pos d];have v:=b1 i d;by_cases f:k<cXB xs j
  ·rw[if_pos f];exact e i k c (by omega)
  ·rw[if_neg f];by_cases a:k=cXB xs j
   ·rw[if_pos a];exact v
   ·rw[if_neg a];have:=g (k - 1) (by omega) (by omega);omega
 ·rw[if_neg d,if_neg (show ¬k<cXB xs j by omega),if_neg (show ¬k=cXB xs j by omega)];by_cases a:i=cXB xs j
  ·rw[if_pos a];have:=g (k - 1) (by omega) (by omega);have:=l (k - 1) (by omega);omega
  ·rw[if_neg a];exact e (i - 1) (k - 1) (by omega) (by omega)
def aKW(n:Nat):bXW (Array.range n):=by
 intro i j b a;rw[Array.size_range]at a;simp[cZ9,a,Nat.lt_trans b a,b]
def bQP{l:List Nat}(h:l.Pairwise (·<·)):bXW l.toArray:=by
 intro i j b d;have a:j<l.length:=by simpa using d
 have c:i<l.length:=Nat.lt_trans b a;have:=cJc.mp h i j c a b;simp[cZ9,a,c,this]
structure Tab(b:Bool)(t:cZq):Prop where
 rise:bXW t.place
 dum:t.dummies= #[]
 led:b=true\/t.led=true
def aYO(j:Nat):SetTable.has #[] j=false:=by
 unfold SetTable.has;simp
def bJD{b:Bool}{t:cZq}(T:Tab b t){j:Nat}(h:t.slot j= .empty):∀k,k<t.place.size->t.place.getD k 0≠j:=by
 intro k a e;obtain⟨b1,f,g⟩:=qP T.rise j;have c:cXB t.place j=k:=by
  have i:¬k<cXB t.place j:=λh=>by have:=b1 k h;omega
  have l:¬cXB t.place j<k:=λh=>by have:=f _ (cQE _) (by omega);have:=T.rise _ k h a;omega
  omega
 unfold SetTable.slot at h;dsimp only at h;rw[c]at h;have d:t.place[k]? =some j:=by
  rw[cX7 a];have:t.place.getD k 0=t.place[k]:=by simp[cZ9,a]
  rw[<- this,e]
 rw[d]at h;simp at h
def bJC{b:Bool}{t:cZq}(T:Tab b t)(j:Nat):t.slot j≠ .dummy:=by
 unfold SetTable.slot;dsimp only;rw[T.dum,aYO];split<;> simp
def aZb{b:Bool}{t:cZq}(T:Tab b t)(f:Nat->Int)(h:Int):∀ (a:Nat)(p:SetTable.Probe),p.dummy=none->∀j d,cV0 t f h a p=some (.empty j d)->t.slot j= .empty/\d=none
 |0,p,_,j,d,e=>by unfold cV0 at e;cases e
 |a+1,p,hp,j,d,e=>by
  have c:(t.advance p).dummy=none:=by
   unfold SetTable.advance;split
   ·exact hp
   ·exact hp
  unfold cV0 at e;cases q:t.slot p.j with
  |empty=>rw[q]at e;simp only[cVY,SetTable.Met.empty.injEq]at e;obtain⟨rfl,rfl⟩:=e;exact⟨q,hp⟩
  |dummy=>exact absurd q (bJC T _)
  |live i=>
   rw[q]at e;dsimp only at e;split at e
   ·cases e
   ·exact aZb T f h a _ c j d e
def jT{b:Bool}{t:cZq}(T:Tab b t)(n:Nat):Tab b (t.standIn n):=⟨aKW n,rfl,T.led⟩
def aKp{b:Bool}{t:cZq}(T:Tab b t)(l:Array (Int×cQx))(h:Int)(x:cQx):Tab b (layNew t l h x).2.1:=by
 unfold layNew;cases q:t.freeSlot h with
 |none=>exact jT T _
 |some k=>
  obtain⟨a,m⟩:=k;dsimp only;have i:t.slot a= .empty:=by
   unfold SetTable.freeSlot at q;split at q
   ·rename_i j d e;simp only[cVY,Prod.mk.injEq]at q;obtain⟨f,g⟩:=aZb T _ h _ _ rfl j d e;rw[<- q.1,g];exact f
   ·cases q
  have c:Tab b (t.put a).1:=by unfold SetTable.put;dsimp only;refine⟨aVH T.rise (bJD T i),?_,T.led⟩;rw[T.dum,aYO];rfl
  unfold SetTable.orStandIn;split
  ·exact c
  ·exact jT c _
def aJJ{b:Bool}{t:cZq}(T:Tab b t)(h:Array (Int×cQx))(c:Nat):Tab b (relayAll t h c).2.1:=by
 unfold relayAll;cases q:t.relaid (h.map (·.1)) c with
 |none=>exact jT T _
 |some r=>
  obtain⟨m,g⟩:=r;dsimp only;have o:Tab b m:=by
   unfold SetTable.relaid SetTable.laid at q;simp only[Option.bind_eq_bind,Option.bind_eq_some_iff]at q;obtain⟨d,_,e⟩:=q;simp only[Option.pure_def,cVY,Prod.mk.injEq]at e;obtain⟨rfl,_⟩:=e;refine⟨bQP ?_,rfl,T.led⟩;rw[List.map_filterMap];have sub:∀ (f:Nat->Option Nat),(∀j k,f j=some k->k=j)->∀l:List Nat,List.Sublist (l.filterMap f) l:=by
    intro f n l;induction l with
    |nil=>exact List.Sublist.slnil
    |cons a r i=>
     rw[cJn];cases e:f a with
     |none=>exact i.cons a
     |some k=>rw[n a k e];exact i.cons_cons a
   refine List.Pairwise.sublist (sub _ ?_ _) List.pairwise_lt_range;intro j k e;cases q:d.getD j none with
   |none=>rw[q]at e;cases e
   |some z=>rw[q]at e;simpa using e.symm
  split
  ·exact o
  ·exact jT T _
def bXP{b a:Bool}(h:b=true\/a=true):Tab b (.fresh 0 0 a):=⟨λi j d c=>absurd c (cZg _),rfl,h⟩
end Stb
namespace Stb
open PySem
def Ent(b:List Int)(a:List (Int×cQx)):Prop:=cXn (λ(k:Int)(e:Int×cQx)=>e.1=hashInt k/\∃t,e.2=Value.int k t) b a
def Ent.mem_l:∀ {c:List Int} {b:List (Int×cQx)},Ent c b->∀k∈c,∃e∈b,∃t,e.2=Value.int k t
 |_,_,.nil,k,a=>by cases a
 |_,_,.cons r t,k,a=>by
  rcases cQG.mp a with rfl|a
  ·exact⟨_,cQM ..,r.2⟩
  ·obtain⟨e,d,z⟩:=Ent.mem_l t k a;exact⟨e,cQI _ d,z⟩
def Ent.mem_r:∀ {c:List Int} {b:List (Int×cQx)},Ent c b->∀e∈b,∃k∈c,e.1=hashInt k/\∃t,e.2=Value.int k t
 |_,_,.nil,e,a=>by cases a
 |_,_,.cons r t,e,a=>by
  rcases cQG.mp a with rfl|a
  ·exact⟨_,cQM ..,r⟩
  ·obtain⟨k,d,z⟩:=Ent.mem_r t e a;exact⟨k,cQI _ d,z⟩
def Ent.elems{prog:cQT}{w:cQ2}{f:List Int}{b:List (Int×cQx)}(h:Ent f b):ElemsOf (intKind prog w) b:=λe c=>by
 obtain⟨k,_,d,t,a⟩:=h.mem_r e c;refine⟨⟨k,?_,d⟩,?_⟩
 ·rw[a];exact intKind_is prog w k t
 ·rw[a];rfl
def Ent.length{b:List Int}{a:List (Int×cQx)}(h:Ent b a):b.length=a.length:=cZE h
def Ent.append:∀ {b ls:List Int} {a fs:List (Int×cQx)},Ent b a->Ent ls fs->Ent (b++ls) (a++fs)
 |_,_,_,_,.nil,s=>s
 |_,_,_,_,.cons r t,s=> .cons r (Ent.append t s)
def Ent.perm{g fs:List (Int×cQx)}(p:cVS g fs):∀ {a:List Int},Ent a g->∃b,Ent b fs/\b.Perm a:=by
 induction p with
 |nil=>exact λ{a} h=>⟨a,h,.rfl⟩
 |cons x p n=>
  intro a h;cases h with
  |cons r t=>obtain⟨b,e,c⟩:=n t;exact⟨_::b,.cons r e,c.cons _⟩
 |swap x y l=>
  intro a h;cases h with
  |cons r t=>
   cases t with
   |cons k i=>exact⟨_::_::_,.cons k (.cons r i),.swap ..⟩
 |trans p q f d=>intro a h;obtain⟨b,e,c⟩:=f h;obtain⟨o,j,m⟩:=d e;exact⟨o,j,m.trans c⟩
abbrev aVd(w:cQ2):Bool:=w.params.followText "set-order"
def aXR(w:cQ2)(h:Heap)(a:Nat)(d:List Int):Prop:=
 ∃o b e t c,h.get? a=some o/\o.ExactSet/\o.data= .set b e t/\Ent c b.toList/\c.Perm d/\d.Nodup/\b.size<cVa/\t.fits b.size=true/\Tab (aVd w) t
def aXR.at{w:cQ2}{h h':Heap}{a:Nat}{b:List Int}(x:aXR w h a b)(k:∀o,h.get? a=some o->h'.get? a=some o):aXR w h' a b:=
 let ⟨o,es,ep,t,ls,ho,r⟩:=x;⟨o,es,ep,t,ls,k o ho,r⟩
def aXR.there{w:cQ2}{h:Heap}{a:Nat}{b:List Int}(x:aXR w h a b):∃o,h.get? a=some o:=
 let ⟨o,es,ep,t,ls,ho,r⟩:=x;⟨o,ho⟩
def aXR.type{w:cQ2}{s:cQA}{a:Nat}{b:List Int}(x:aXR w s.heap a b):s.TypeIs (.ref a) "set":=
 let ⟨o,es,ep,t,ls,ho,he,r⟩:=x;⟨o,ho,he.1⟩
def bQL{h:Heap}{a:Nat}{o:Obj}{e:Array (Int×cQx)}{d:Nat}{t:cZq}(f:h.get? a=some o)(c:o.data= .set e d t)(b:Array (Int×cQx))(t':cZq): (h.update a (Obj.putSet b t')).get? a=some {o with data:= .set b (d+1) t'}:=by
 have q:=cXE (Obj.putSet b t') f (by rw[putSet_of b t' c];rfl);rw[putSet_of b t' c]at q;exact q
section
variable {prog:cQT}{w:cQ2}{A:cXi}{E:cQx->cQA->Prop}{s:cQA}
def aYN{b:Bool}{Q:Unit->cQA->Prop}(h:Q () s):cQF (cQH prog w) A (match b with|true=>rule "set.scan.the-table-gave-way"|false=>pure ()) Q E s:=by
 cases b
 ·exact cQC h
 ·exact wpAny_rule h
def bKr{a:Nat}{p:List Int}{k:Int}{tk:Tok}{Q:Bool->cQA->Prop}(hS:aXR w s.heap a p)(a5:p.length+1<cVa) (h:∀l b,cZC a s.heap l->aXR w l a (if k∈p then p else p++ [k])->Q b {s with heap:=l}): cQF (cQH prog w) A (setAddHashed a (.int k tk) (hashInt k)) Q E s:=by
 obtain⟨o,G,ep,t,ls,O,M,R,n,U,Z,hb,hf,hT⟩:=hS;have W:=n.elems (prog:=prog) (w:=w);have a9:G.size=p.length:=by rw[<- cXS,<- n.length,U.length_eq]
 unfold setAddHashed setAddHashedIn;refine cXP (cQy (cZ8 O R hf ?_));dsimp only;rw[byScan_of (knd:=intKind prog w) rfl hb W];simp only[↓reduceIte];unfold setAddByScan;refine cQy ?_;refine cQy (wpAny_rule ?_);refine cQy (wpAny_setScan_of (knd:=intKind prog w) (k:=k) (intKind_is prog w k tk) O R hf W ?_);cases hr:List.findIdx? (λe=>(intKind prog w).is k e.2) G.toList with
 |some j=>
  dsimp only;obtain⟨hj,a0,_⟩:=List.findIdx?_eq_some_iff_getElem.mp hr;have B:k∈p:=by
   obtain⟨k',a3,_,t',e'⟩:=n.mem_r _ (cZk hj);rw[e']at a0;have:k=k':=by have z:(k'==k)=true:=a0;exact(beq_iff_eq.mp z).symm
   rw[this];exact U.mem_iff.mp a3
  refine cQC (cQC ?_);have q:=h s.heap false (Heap.SameBut.refl a s.heap) (by rw[if_pos B];exact⟨o,G,ep,t,ls,O,M,R,n,U,Z,hb,hf,hT⟩);exact q
 |none=>
  dsimp only;have B:k∉p:=λz=>by obtain⟨e,he,t',e'⟩:=n.mem_l k (U.mem_iff.mpr z);have q:=List.findIdx?_eq_none_iff.mp hr e he;rw[e',intKind_is]at q;cases q
  rw[if_neg B]at h;have Y:(p++ [k]).Nodup:=by rw[cZ6];exact⟨Z,cX0 ..,λx hx y hy=>by rw[cQL.mp hy];rintro rfl;exact B hx⟩
  have d:=layNew_perm t G (hashInt k) (.int k tk);have f:=layNew_fits t G (hashInt k) (.int k tk);have i:=aKp hT G (hashInt k) (.int k tk);generalize hL:layNew t G (hashInt k) (.int k tk)=L at d f i ⊢;obtain⟨c,S,m,b0⟩:=L;dsimp only at d f i ⊢;rw[Array.toList_push]at d;obtain⟨X,F,a6⟩:=(n.append (ls:= [k]) (fs:= [(hashInt k,.int k tk)]) (.cons ⟨rfl,tk,rfl⟩ .nil)).perm d.symm;have D:X.Perm (p++ [k]):=a6.trans (U.append_right [k]);have u:c.size<cVa:=by rw[<- cXS,d.length_eq,cQ0,cXS];simpa using (by omega:G.size+1<cVa)
  have C:∀g:cZq,g.fits c.size=true->Tab (aVd w) g->
    cQF (cQH prog w) A (do
     storeSet a c g
     if(!m && g.tooFull)=true then do
       (match(relayAll g c (cJf c.size)).2.2 with|true=>rule "set.scan.the-table-gave-way"|false=>pure ())
       storeSet a (relayAll g c (cJf c.size)).1 (relayAll g c (cJf c.size)).2.1
       pure (some true)
      else pure (some true)) (λr P=>∃l,r=some true/\P= {s with heap:=l}/\cZC a s.heap l/\aXR w l a (p++ [k])) E s:=by
   intro g a7 a1
   refine cQy (wpAny_storeSet_of O R ?_ (cV1 u))
   have H:=cX8 s.heap a (Obj.putSet c g)
   have K:=bQL O R c g
   split
   ·have v:=relayAll_perm g c (cJf c.size);have I:=relayAll_fits g c (cJf c.size);have N:=aJJ a1 c (cJf c.size);generalize b1:relayAll g c (cJf c.size)=Rl at v I N ⊢;obtain⟨J,t3,a4⟩:=Rl;dsimp only at v I N ⊢;obtain⟨a2,V,a8⟩:=F.perm v.symm;have T:J.size=c.size:=by rw[<- cXS,v.length_eq,cXS]
    refine cQy (aYN ?_);refine cQy (wpAny_storeSet_of K rfl ?_ (cV1 (by rw[T];exact u)));refine cQC ⟨_,rfl,rfl,H.trans (cX8 _ a _),_,J,_,t3,a2,bQL K rfl J t3,M,rfl,V,a8.trans D,Y,by rw[T];exact u,I,N⟩
   ·exact cQC ⟨_,rfl,rfl,H,_,c,_,g,X,K,M,rfl,F,D,Y,u,a7,a1⟩
  have done:∀ (r:Option Bool)(P:cQA),(∃l,r=some true/\P= {s with heap:=l}/\cZC a s.heap l/\aXR w l a (p++ [k]))->
    cQF (cQH prog w) A (match r with|some added=>pure added|none=>setAddHashedIn a (.int k tk) (hashInt k) 99999) Q E P:=by
   rintro r P ⟨l,rfl,rfl,h1,h2⟩
   exact cQC (h l true h1 h2)
  refine cQy (aYN ?_);split
  ·refine cQy ?_;rw[hashByValue_scannable 8 (show(Value.int k tk).scannable=true from rfl)];refine cQC ?_;have e:(if plainKind (Value.int k tk)=true then S else {S with plain:=false})=S:=rfl;rw[e];exact cXD (C S f i) done λ_ _ z=>z
  ·refine cQy (cQC ?_);simp only[↓reduceIte];exact cXD (C S f i) done λ_ _ z=>z
end
end Stb
namespace Stb
open PySem
def wC:Slot "set_iterator" "__next__" "set_iterator.__next__":=
 .of (owner:="set_iterator") (n:="__next__") (by rw[typeLookup_type,cVu];kernel_rfl) dk dk dk
  (by first|exact .inl dk|exact .inr dk) (by rw[isSubtype_type];kernel_rfl)
def qQ:entryFor table "set_iterator.__next__"=some cZm.«set_iterator.__next__»:=entryFor_of_tree (by kernel_rfl)
def aWv:Manifest.owners.lookup (String.ofList ['r', 'o', 't', 'a', 'r', 'e', 't', 'i', '_', 't', 'e', 's'].reverse)=some Manifest.sig_set_iterator:=by kernel_rfl
def Z7(a:cQx):argsOk "set_iterator.__next__" ⟨[a],[]⟩:=by
 unfold argsOk;rw[signature?_of (id:="set_iterator.__next__") (n:= ['_', '_', 't', 'x', 'e', 'n', '_', '_']) (o:= ['r', 'o', 't', 'a', 'r', 'e', 't', 'i', '_', 't', 'e', 's']) (by kernel_rfl) aWv];kernel_rfl
def aKh:entryFor table "set.__iter__"=some cZm.«frozenset.__iter__»:=
 entryFor_alias (id':="frozenset.__iter__") (by kernel_rfl) rfl dk (by kernel_rfl)
def aQG:Slot "set_iterator" "__iter__" "set_iterator.__iter__":=
 .of (owner:="set_iterator") (n:="__iter__") (by rw[typeLookup_type,cVu];kernel_rfl) dk dk dk
  (by first|exact .inl dk|exact .inr dk) (by rw[isSubtype_type];kernel_rfl)
def jZ(first:cQx)(i:Nat)(a:Nat)(n b:Nat):Obj:={cls:= .type "set_iterator",data:= .fields #[first,.int i 0,.ref a,.int n 0,.int b 0] }
section
variable {prog:cQT}{w:cQ2}{A:cXi}{E:cQx->cQA->Prop}{s:cQA}
def bXL{I:Nat}{Q:Option cQx->cQA->Prop}{h₁:Heap}(h:A.handled=none)(g:cVh I s.heap h₁)(i:∀d,cVh I s.heap d->Q none {s with heap:=d}):
  cQF (cQH prog w) A.in1 (do raiseNew (<- newExc (.type "StopIteration") []):Sem PySem.Fin) (λf c=>∃r,f= .done (.ret r)/\cQF (cQH prog w) A (pure (some r)) Q E c)
   (λe c=>cQF (cQH prog w) A (do if <- cVF e (.type "StopIteration")then pure none else throw e) Q E c) {s with heap:=h₁}:=by
 refine cQy ?_
 simp only[newExc,newTuple]
 refine cQy (cXT ?_ (by size_fits))
 refine cQy (m:=firstArgMember _ _) (wpAny_of_eq (a:=Value.none) (by first|rfl|(simp only[firstArgMember];rfl)) ?_)
 refine cXT ?_ (by size_fits)
 simp only[raiseNew]
 refine cQy (wpAny_handled ?_)
 rw[show A.in1.handled=none from h]
 refine cQy (cQC (wpAny_throw ?_))
 refine cQy (wpAny_isInstance (T:="StopIteration") (b:=true) ⟨_,cQY _ rfl,rfl⟩ isSubtype_stop ?_)
 exact cQC (i _ ((g.push _).push _))
def bQf{I a:Nat}{o:Obj}{e:Array (Int×cQx)}{d:Nat}{t:cZq}{b i nx:Nat}{x:cQx}{Q:Option cQx->cQA->Prop} (l:s.heap.get? a=some o) (m:o.data= .set e d t) (p:t.fits e.size=true) (f:s.heap.get? I=some (jZ (.int b 0) i a e.size d)) (u:∀ (k:Option (cQx×Nat)->cQA->Prop)(n:cQx->cQA->Prop)(r:cXi),k (some (x,nx)) s->cQF (cQH prog w) r (setNext a b i d) k n s) (q:∀g,g.get? I=some (jZ (.int nx 0) (i+1) a e.size d)->cZC I s.heap g->Q (some x) {s with heap:=g}):cQF (cQH prog w) A (pyNext (.ref I)) Q E s:=by
 have j:s.TypeIs (.ref I) "set_iterator":=⟨_,f,rfl⟩;unfold pyNext;refine cQy (cJZ (cZR (name:=cJG "__next__") j wC (cX6 wC j qQ ?_ (Z7 _))));unfold cZm.«set_iterator.__next__»;refine cQy (cQC ?_);refine cQy (cVP f rfl ?_);show cQF _ _ (setEntries a >>=_) _ _ s;refine cQy (cJp l m p ?_);rw[if_neg (by simp)];show cQF _ _ (setNext a ((b:Int)).toNat ((i:Int)).toNat ((d:Int)).toNat >>=_) _ _ s;rw[cQ6,cQ6,cQ6];refine cQy (u _ _ _ ?_);show cQF _ _ (setField (.ref I) 0 (cXR nx) >>=_) _ _ s;refine cQy (cZG f rfl (by simp) ?_);have c:=cXE (cXO (·.setIfInBounds 0 (cXR (nx:Int)))) f (cXX (cX3 rfl _));refine cQy (cZG c rfl (by simp) (cQC ⟨x,rfl,cQC (q _ ?_ ((cX8 ..).trans (cX8 ..)))⟩));have h:=cXE (cXO (·.setIfInBounds 1 (cXR ((i:Int)+1)))) c (cXX (cX3 rfl _));exact h
end
end Stb
namespace Stb
open PySem
section
variable {prog:cQT}{w:cQ2}{A:cXi}{E:cQx->cQA->Prop}{s:cQA}
def bZa{I a:Nat}{o:Obj}{d:Array (Int×cQx)}{c:Nat}{t:cZq}{b i:Nat}{Q:Option cQx->cQA->Prop}(q:A.handled=none) (j:s.heap.get? a=some o) (k:o.data= .set d c t) (m:t.fits d.size=true) (e:s.heap.get? I=some (jZ (.int b 0) i a d.size c)) (r:∀ (h:Option (cQx×Nat)->cQA->Prop)(l:cQx->cQA->Prop)(p:cXi),h none s->cQF (cQH prog w) p (setNext a b i c) h l s) (n:∀f,cVh I s.heap f->Q none {s with heap:=f}):cQF (cQH prog w) A (pyNext (.ref I)) Q E s:=by
 have g:s.TypeIs (.ref I) "set_iterator":=⟨_,e,rfl⟩;unfold pyNext;refine cQy (cJZ (cZR (name:=cJG "__next__") g wC (cX6 wC g qQ ?_ (Z7 _))));unfold cZm.«set_iterator.__next__»;refine cQy (cQC ?_);refine cQy (cVP e rfl ?_);show cQF _ _ (setEntries a >>=_) _ _ s;refine cQy (cJp j k m ?_);rw[if_neg (by simp)];show cQF _ _ (setNext a ((b:Int)).toNat ((i:Int)).toNat ((c:Int)).toNat >>=_) _ _ s;rw[cQ6,cQ6,cQ6];refine cQy (r _ _ _ ?_);show cQF _ _ (setField (.ref I) 2 .none >>=_) _ _ s;refine cQy (cZG e rfl (by simp) ?_);exact bXL q (cX8 ..).extBut n
def bZj{h:Heap}{I:Nat}{f:cQx}{i:Nat}{a:Nat}{n b:Nat}(c:h.get? I=some (jZ f i a n b)): (h.update I (cXO (·.setIfInBounds 1 (cXR ((i:Int)+1))))).get? I=some (jZ f (i+1) a n b):=by
 have q:=cXE (cXO (·.setIfInBounds 1 (cXR ((i:Int)+1)))) c (cXX (cX3 (o:=jZ f i a n b) rfl _));rw[q];rfl
def bZi{h:Heap}{I:Nat}{f:cQx}{i:Nat}{a:Nat}{n b:Nat}(c:h.get? I=some (jZ f i a n b)): (h.update I (cXO (·.setIfInBounds 0 (cXR (0:Int))))).get? I=some (jZ (.int 0 0) i a n b):=by
 have q:=cXE (cXO (·.setIfInBounds 0 (cXR (0:Int)))) c (cXX (cX3 (o:=jZ f i a n b) rfl _));rw[q];rfl
def aKz{I a p:Nat}{o:Obj}{b:Array (Int×cQx)}{k:Nat}{t:cZq}{i j:Nat}{pl:Array cQx}{op:Obj}{c:Nat}{e:Int×cQx}{Q:Option cQx->cQA->Prop} (l:s.heap.get? a=some o) (m:o.data= .set b k t) (n:t.fits b.size=true) (d:s.heap.get? I=some (jZ (.ref p) i a b.size k)) (v:s.heap.get? p=some op) (g:op.data= .seq pl c) (r:pl[i]? =some (.int j 0)) (u:b[j]? =some e) (x:∀f,f.get? I=some (jZ (.ref p) (i+1) a b.size k)->cZC I s.heap f->Q (some e.2) {s with heap:=f}):cQF (cQH prog w) A (pyNext (.ref I)) Q E s:=by
 have q:s.TypeIs (.ref I) "set_iterator":=⟨_,d,rfl⟩;unfold pyNext;refine cQy (cJZ (cZR (name:=cJG "__next__") q wC (cX6 wC q qQ ?_ (Z7 _))));unfold cZm.«set_iterator.__next__»;refine cQy (cQC ?_);refine cQy (cVP d rfl ?_);show cQF _ _ (setEntries a >>=_) _ _ s;refine cQy (cJp l m n ?_);rw[if_neg (by simp)];show cQF _ _ (seqItems? (.ref p) >>=_) _ _ s;refine cQy (wpAny_seqItems v g ?_);dsimp only;simp only[cQ6,r];refine cQy ?_;unfold setNextDrawn;refine cQy (cZ8 l m n ?_);dsimp only;rw[if_neg (by simp)];obtain⟨y,ex⟩:=e;rw[u];refine cQC ?_;have h:=bZj d;refine cQy (cZG d rfl (by simp) ?_);refine cQC ⟨ex,rfl,?_⟩;refine cQC ?_;exact x _ h (cX8 s.heap I _)
def aYJ{I a p:Nat}{o:Obj}{d:Array (Int×cQx)}{j:Nat}{t:cZq}{i:Nat}{pl:Array cQx}{op:Obj}{c:Nat}{Q:Option cQx->cQA->Prop}(v:A.handled=none) (k:s.heap.get? a=some o) (m:o.data= .set d j t) (n:t.fits d.size=true) (b:s.heap.get? I=some (jZ (.ref p) i a d.size j)) (q:s.heap.get? p=some op) (e:op.data= .seq pl c) (l:pl[i]? =none) (u:∀g,cVh I s.heap g->Q none {s with heap:=g}):cQF (cQH prog w) A (pyNext (.ref I)) Q E s:=by
 have h:s.TypeIs (.ref I) "set_iterator":=⟨_,b,rfl⟩;unfold pyNext;refine cQy (cJZ (cZR (name:=cJG "__next__") h wC (cX6 wC h qQ ?_ (Z7 _))));unfold cZm.«set_iterator.__next__»;refine cQy (cQC ?_);refine cQy (cVP b rfl ?_);show cQF _ _ (setEntries a >>=_) _ _ s;refine cQy (cJp k m n ?_);rw[if_neg (by simp)];show cQF _ _ (seqItems? (.ref p) >>=_) _ _ s;refine cQy (wpAny_seqItems q e ?_);dsimp only;simp only[cQ6,l];refine cQy (cZG b rfl (by simp) ?_);have f:=bZi b;refine cQy (cZG f rfl (by simp) ?_);have r:=(cX8 s.heap I (cXO (·.setIfInBounds 0 (cXR (0:Int))))).trans (cX8 _ I (cXO (·.setIfInBounds 2 Value.none)));exact bXL (s:=s) v r.extBut u
def Q8{α:Type}:∀ {l:List α} {i:Nat} (h:i<l.length),cVS (l[i]::l.eraseIdx i) l
 |x::r,0,_=> .rfl
 |x::r,i+1,h=>by have a:=Q8 (l:=r) (i:=i) (by simpa using h);exact(List.Perm.swap ..).trans (a.cons x)
def aJG{α:Type}(f:Nat->Nat):∀ (a k:Nat)(left:List α)(out:Array α),left.length=a->cVS (cJN.go f a k left out).toList (out.toList++left)
 |0,k,left,out,h=>by have e:left= []:=List.length_eq_zero_iff.mp h;subst e;unfold cJN.go;rw[cXC]
 |a+1,k,left,out,h=>by unfold cJN.go;have b:f k % left.length<left.length:=Nat.mod_lt _ (by omega);rw[cQw b];dsimp only;refine(aJG f a (k+1) _ _ (by rw[List.length_eraseIdx,if_pos b];omega)).trans ?_;rw[Array.toList_push,cXJ,List.singleton_append];exact(Q8 b).append_left _
def bJT{a:Nat}{o:Obj}{b:Array (Int×cQx)}{c:Nat}{t:cZq}{Q:Array (Int×cQx)->cQA->Prop}(d:s.heap.get? a=some o)(f:o.data= .set b c t)(g:t.fits b.size=true) (e:aVd w=true) (h:Q (cJN (w.params.setOrder a c) b) s):cQF (cQH prog w) A (setWalk a) Q E s:=by
 unfold setWalk setsByText;refine cQy (cZ8 d f g ?_);dsimp only;refine cQy (cQy (cJm (cQC ?_)));show cQF (cQH prog w) A (if aVd w=true then _ else _) Q E s;rw[if_pos e];exact cQy (cJm (cQC h))
def bQg{a:Nat}{o:Obj}{c:Array (Int×cQx)}{d:Nat}{t:cZq}{b i:Nat}{Q:Option (cQx×Nat)->cQA->Prop}(f:s.heap.get? a=some o)(j:o.data= .set c d t) (k:t.fits c.size=true) (g:aVd w=true) (h:Q (((cJN (w.params.setOrder a d) c)[i]?).map λe=>(e.2,b)) s):cQF (cQH prog w) A (setNext a b i d) Q E s:=by
 unfold setNext setsByText;refine cQy (cZ8 f j k ?_);dsimp only;refine cQy (cQy (cJm (cQC ?_)));show cQF (cQH prog w) A (if aVd w=true then _ else _) Q E s;rw[if_pos g];rw[if_neg (by simp)];exact cQy (bJT f j k g (cQC h))
def bZA{a:Nat}{o:Obj}{c:Array (Int×cQx)}{e:Nat}{t:cZq}{b i:Nat}{Q:Option (cQx×Nat)->cQA->Prop}(f:s.heap.get? a=some o)(k:o.data= .set c e t)
  (l:t.fits c.size=true) (g:aVd w=false) (d:(!t.plain && decide (c.size > 1))=false) (hl:t.led=true)
  (h:Q (match c[cXB t.place b]?,t.place[cXB t.place b]? with|some (_,x),some j=>some (x,j+1)|_,_=>none) s):cQF (cQH prog w) A (setNext a b i e) Q E s:=by
 unfold setNext setsByText
 refine cQy (cZ8 f k l ?_)
 dsimp only
 refine cQy (cQy (cJm (cQC ?_)))
 show cQF (cQH prog w) A (if aVd w=true then _ else _) Q E s
 rw[g,if_neg (by decide)]
 show cQF (cQH prog w) A (if(!t.plain && decide (c.size > 1))=true then _ else _) Q E s
 rw[d,if_neg (by decide)]
 refine cQy ?_
 show cQF (cQH prog w) A (if(!t.led && !c.isEmpty)=true then _ else _) _ E s
 rw[hl]
 simp only[Bool.not_true,Bool.false_and,Bool.false_eq_true,↓reduceIte]
 exact cQC (cQC h)
end
end Stb
namespace Stb
open PySem
def aZ6(a:List Int)(vs:List cQx):Prop:=cXn (λ(k:Int)(v:cQx)=>∃t,v=Value.int k t) a vs
def Ent.vals:∀ {b:List Int} {a:List (Int×cQx)},Ent b a->aZ6 b (a.map (·.2))
 |_,_,.nil=> .nil
 |_,_,.cons r t=> .cons r.2 (Ent.vals t)
def bZu{α:Type}{xs ys:List α}(hl:xs.length=ys.length)(h:∀ (j:Nat)(x:α),xs[j]? =some x->ys[j]? =some x):xs=ys:=by
 apply cZN;intro i;cases e:xs[i]? with
 |some x=>exact(h i x e).symm
 |none=>have:=cV3.mp e;exact(cV3.mpr (by omega)).symm
def aQu{α β:Type}{f:α->Option β}:∀ {l:List α} (h:∀x∈l,(f x).isSome=true) (i:Nat),(l.filterMap f)[i]? =l[i]?.bind f
 |[],_,i=>by simp
 |x::r,h,i=>by
  obtain⟨y,e⟩:=Option.isSome_iff_exists.mp (h x (cQM ..));rw[List.filterMap_cons_some e];cases i with
  |zero=>simp[e]
  |succ i=>simpa using aQu (λz a=>h z (cQI _ a)) i
def aZq:entryFor table "set_iterator.__iter__"=some cZm.«dict_keyiterator.__iter__»:=
 entryFor_alias (id':="dict_keyiterator.__iter__") (by kernel_rfl) rfl dk (by kernel_rfl)
def aZ8(a:cQx):argsOk "set_iterator.__iter__" ⟨[a],[]⟩:=by
 unfold argsOk;rw[signature?_of (id:="set_iterator.__iter__") (n:= ['_', '_', 'r', 'e', 't', 'i', '_', '_']) (o:= ['r', 'o', 't', 'a', 'r', 'e', 't', 'i', '_', 't', 'e', 's']) (by kernel_rfl) aWv];kernel_rfl
section
variable {prog:cQT}{w:cQ2}{A:cXi}{E:cQx->cQA->Prop}{s:cQA}
def aYI{α:Type}:∀ (n:Nat)(xs:List α)(s:cQA)(Q:List α->cQA->Prop),xs.length=n->(∀b d,cVS b xs->Q b {s with drawn:=d})->cQF (cQH prog w) A (drawOrder n xs) Q E s
 |0,xs,s,Q,hl,h=>by have e:xs= []:=List.length_eq_zero_iff.mp hl;subst e;unfold drawOrder;exact cQC (h [] s.drawn .rfl)
 |n+1,[],s,Q,hl,h=>by cases hl
 |n+1,x::r,s,Q,hl,h=>by
  unfold drawOrder;have a:w.draws .order (s.drawn.get .order) % (x::r).length<(x::r).length:=Nat.mod_lt _ (Nat.succ_pos _);refine cQy (m:=choose .order (x::r).length) ?_;have f:∀ (c:Nat->cQA->Prop),c (w.draws .order (s.drawn.get .order) % (x::r).length) {s with drawn:=s.drawn.bump .order}->cQF (cQH prog w) A (choose .order (x::r).length) c E s:=by intro c j Γ p hΓ;show Sem.wp _ _ (.choose .order (x::r).length .pure) _ _ _ _;rw[Sem.wp_choose];exact⟨Nat.succ_ne_zero _,j⟩
  refine f _ ?_;generalize k:w.draws .order (s.drawn.get .order) % (x::r).length=i at a ⊢;rw[cQw a];dsimp only;refine cQy (aYI n _ _ _ (by rw[List.length_eraseIdx,if_pos a];simpa using hl) λb d g=>?_);exact cQC (h _ _ ((g.cons _).trans (Q8 a)))
def bXq{I a:Nat}{f:cQx}{i n c:Nat}{Q:cQx->cQA->Prop}(d:s.heap.get? I=some (jZ f i a n c))(h:Q (.ref I) s):cQF (cQH prog w) A (pyIter (.ref I)) Q E s:=by
 have b:s.TypeIs (.ref I) "set_iterator":=⟨_,d,rfl⟩;refine wpAny_pyIter_slot b aQG (cX6 aQG b aZq ?_ (aZ8 _));show cQF _ _ (ret (.ref I)) _ _ s;exact cQC ⟨_,rfl,"set_iterator",_,b,wC.lookup,h⟩
def aYn{I a:Nat}{o:Obj}{es:Array (Int×cQx)}{ep:Nat}{t:cZq}{vs:List cQx}{g:Nat->Nat}(hd:o.data= .set es ep t)(hf:t.fits es.size=true)(hv:vs.length=es.size)(hne:a≠I)
  (hx:∀ (s:cQA)(i:Nat)(A':cXi)(E':cQx->cQA->Prop)(Q':Option (cQx×Nat)->cQA->Prop),s.heap.get? a=some o->i<=es.size->Q' ((vs[i]?).map λx=>(x,g (i+1))) s->cQF (cQH prog w) A' (setNext a (g i) i ep) Q' E' s)
  (hh:A.handled=none):Walks prog w A I [I,a] [I] es.size (λi v=>vs[i]? =some v) (λi h=>i<=es.size/\h.get? a=some o/\h.get? I=some (jZ (.int (g i) 0) i a es.size ep)) where
 sub:=λb hb=>by simp at hb;simp[hb]
 frame:=λi h h' st k=>⟨st.1,k a (by simp) o st.2.1,k I (by simp) _ st.2.2⟩
 item:=λi s Q E hi st hQ=>by
  obtain⟨h1,h2,h3⟩:=st
  have hlt:i<vs.length:=by omega
  refine bQf (nx:=g (i+1)) (x:=vs[i]) h2 hd hf h3 (λQ' E' A' hq=>hx s i A' E' Q' h2 h1 (by rw[cQw hlt];exact hq)) λh' hI' sb=>?_
  exact hQ _ h' s.toks (cQw hlt) ⟨by omega,sb.extBut a o hne h2,hI'⟩ λb ob hb e=>sb.extBut b ob (λz=>hb (by simp[z])) e
 done:=λs Q E st hQ=>by
  obtain⟨h1,h2,h3⟩:=st
  refine bZa hh h2 hd hf h3 (λQ' E' A' hq=>hx s es.size A' E' Q' h2 h1 (by rw[cXa (by omega)];exact hq)) λh' sb=>?_
  exact hQ h' s.toks λb ob hb e=>sb b ob (λz=>hb (by simp[z])) e
 self:=λi s Q E st hQ=>bXq st.2.2 hQ
def aWb{I a p:Nat}{o op:Obj}{es:Array (Int×cQx)}{ep c:Nat}{t:cZq}{vs:List cQx}{ys:List Nat}(hd:o.data= .set es ep t)(hf:t.fits es.size=true)(hv:ys.length=es.size)
  (hpd:op.data= .seq (ys.map λ(j:Nat)=>Value.int j 0).toArray c) (hne:a≠I) (hnp:p≠I) (hx:∀ (i j:Nat),ys[i]? =some j->∃e,es[j]? =some e/\vs[i]? =some e.2)
  (hh:A.handled=none):Walks prog w A I [I,a,p] [I] es.size (λi v=>vs[i]? =some v) (λi h=>i<=es.size/\h.get? a=some o/\h.get? p=some op/\h.get? I=some (jZ (.ref p) i a es.size ep)) where
 sub:=λb hb=>by simp at hb;simp[hb]
 frame:=λi h h' st k=>⟨st.1,k a (by simp) o st.2.1,k p (by simp) op st.2.2.1,k I (by simp) _ st.2.2.2⟩
 item:=λi s Q E hi st hQ=>by
  obtain⟨h1,h2,h3,h4⟩:=st
  have hlt:i<ys.length:=by omega
  obtain⟨e,he,hve⟩:=hx i ys[i] (cQw hlt)
  refine aKz (j:=ys[i]) (e:=e) h2 hd hf h4 h3 hpd (by simp[hlt]) he λh' hI' sb=>?_
  exact hQ _ h' s.toks hve ⟨by omega,sb.extBut a o hne h2,sb.extBut p op hnp h3,hI'⟩ λb ob hb e=>sb.extBut b ob (λz=>hb (by simp[z])) e
 done:=λs Q E st hQ=>by
  obtain⟨h1,h2,h3,h4⟩:=st
  refine aYJ hh h2 hd hf h4 h3 hpd (by simp[hv]) λh' sb=>?_
  exact hQ h' s.toks λb ob hb e=>sb b ob (λz=>hb (by simp[z])) e
 self:=λi s Q E st hQ=>bXq st.2.2.2 hQ
def bVU{a:Nat}{T:List Int}{Q:cQx->cQA->Prop}(hS:aXR w s.heap a T) (h:∀ (I:Nat)(h':Heap)(d:Drawn)(fp:List Nat)(St:Nat->Heap->Prop)(vs:List cQx)(ls:List Int),s.heap.objs.size<=I->(∀b∈fp,b=a\/s.heap.objs.size<=b)->(∀b∈fp,b<h'.objs.size)->aZ6 ls vs->ls.Perm T-> (∀ (A:cXi),A.handled=none->Walks prog w A I fp [I] T.length (λi v=>vs[i]? =some v) St)->St 0 h'->(∀b o,s.heap.get? b=some o->h'.get? b=some o)-> Q (.ref I) {s with heap:=h',drawn:=d}):cQF (cQH prog w) A (pyIter (.ref a)) Q E s:=by
 have hT:=hS.type;obtain⟨o,f,G,t,ls,M,a7,H,C,W,a8,l,D,N⟩:=hS;have J:f.size=T.length:=by rw[<- cXS,<- C.length,W.length_eq]
 have B:a<s.heap.objs.size:=cQN M;refine wpAny_pyIter_slot hT F.slot_set_iter (cX6 F.slot_set_iter hT aKh ?_ (F.args_set_iter_1 _));unfold cZm.«frozenset.__iter__» Builtin.Frozenset.slot0 slotArgs;simp only[List.isEmpty_nil,Bool.not_true,Bool.false_eq_true,↓reduceIte,bind_assoc,cZI,bne_self_eq_false];unfold Builtin.Frozenset.addrOf Builtin.Frozenset.sizeOf;refine cQy (cQC ?_);try dsimp only
 refine cQy (cQC ?_);refine cQy (cQy (cJp M H D (cQC ?_)));refine cQy ?_;unfold setDrawn setsByText;refine cQy (cZ8 M H D ?_);dsimp only;refine cQy (cQy (cJm (cQC ?_)));refine cQC ?_;refine cVJ (λc=>?_) (λc=>?_)
 ·refine cQy (aYI f.size (cQJ f.size) s _ cXp λu d R=>?_);have V:u.length=f.size:=by rw[R.length_eq,cXp]
  have S:∀j∈u,j<f.size:=λj Y=>cQ5.mp (R.mem_iff.mp Y);refine cQy (wpAny_newTuple ?_ (by rw[cQB,V];exact cV1 l));have a2:=cQD {cls:= .type "tuple",data:= .seq (u.map λ(i:Nat)=>cXR (i:Int)).toArray} M;refine cQy (wpAny_setEpoch_of a2 H D ?_);refine cQy (cXT (cQC ⟨_,rfl,"set_iterator",_,⟨_,cQY _ rfl,rfl⟩,wC.lookup,?_⟩));have P:cVS (u.filterMap λj=>f[j]?) f.toList:=(R.filterMap _).trans (by rw[filterMap_getElem?_range]);obtain⟨k,m,n⟩:=C.perm P.symm;have a0:∀ (i j:Nat),u[i]? =some j->∃e,f[j]? =some e/\((u.filterMap λj=>f[j]?).map (·.2))[i]? =some e.2:=λi j e=>by have Y:j<f.size:=S j (cQP e);refine⟨f[j],cX7 Y,?_⟩;rw[cQR,aQu (λx hx=>by rw[cX7 (S x hx)];rfl),e,Option.bind_some,cX7 Y];rfl
  have fin:∀ (y:Heap)(X:Obj),X.data= .seq (u.map λ(i:Nat)=>Value.int i 0).toArray 0->y.objs.size=s.heap.objs.size+1->y.get? s.heap.objs.size=some X->(∀b o,s.heap.get? b=some o->y.get? b=some o)->
    Q (.ref y.objs.size) {s with heap:=y.push (jZ (.ref s.heap.objs.size) 0 a f.size G),drawn:=d}:=by
   intro y X a1 r a6 hk
   refine h y.objs.size _ d [y.objs.size,a,s.heap.objs.size] (λi h=>i<=f.size/\h.get? a=some o/\h.get? s.heap.objs.size=some X/\h.get? y.objs.size=some (jZ (.ref s.heap.objs.size) i a f.size G)) _ k ?_ ?_ ?_ m.vals (n.trans W)
    (λA hh=>by rw[<- J];exact aWb (o:=o) (ys:=u) (c:=0) H D V a1 (cQV (by rw[r];exact cXF B)) (cQV (by rw[r];exact cX5 _)) a0 hh) ⟨cXz _,cQD _ (hk _ _ M),cQD _ a6,cQY _ rfl⟩ λb ob e=>cQD _ (hk _ _ e)
   ·omega
   ·intro b l;simp only[cQG,cJh,or_false]at l;rcases l with rfl|rfl|rfl
    ·right;omega
    ·left;rfl
    ·right;exact cQE _
   ·intro b l;rw[cX1];simp only[cQG,cJh,or_false]at l;rcases l with rfl|rfl|rfl
    ·exact cX5 _
    ·rw[r];exact cXF (cXF B)
    ·rw[r];exact cXF (cX5 _)
  exact fin _ _ rfl (cX1 ..) (cQY _ rfl) λb ob e=>cQD _ e
 ·refine cQy (cQC ?_);refine cQy (wpAny_setEpoch_of M H D ?_);refine cQy (cXT (cQC ⟨_,rfl,"set_iterator",_,⟨_,cQY _ rfl,rfl⟩,wC.lookup,?_⟩));have fin:∀ (vs:List cQx)(g:Nat->Nat)(k:List Int),g 0=0->vs.length=f.size->aZ6 k vs->k.Perm T->
    (∀ (s:cQA)(i:Nat)(A':cXi)(E':cQx->cQA->Prop)(Z:Option (cQx×Nat)->cQA->Prop),s.heap.get? a=some o->i<=f.size->Z ((vs[i]?).map λx=>(x,g (i+1))) s->cQF (cQH prog w) A' (setNext a (g i) i G) Z E' s)->
    Q (.ref s.heap.objs.size) {s with heap:=s.heap.push {cls:= .type "set_iterator",dict:=none,data:= .fields [cXR 0,cXR 0,Value.ref a,cXR (f.size:Int),cXR (G:Int)].toArray} }:=by
   intro vs g k g0 a5 hv n hx
   refine h s.heap.objs.size _ s.drawn [s.heap.objs.size,a] (λi h=>i<=f.size/\h.get? a=some o/\h.get? s.heap.objs.size=some (jZ (.int (g i) 0) i a f.size G)) vs k (cQE _) ?_ ?_ hv n
    (λA hh=>by rw[<- J];exact aYn (o:=o) (g:=g) H D a5 (cQV B) hx hh) ⟨cXz _,cQD _ M,?_⟩ λb ob e=>cQD _ e
   ·intro b l;simp only[cQG,cJh,or_false]at l;rcases l with rfl|rfl
    ·right;exact cQE _
    ·left;rfl
   ·intro b l;rw[cX1];simp only[cQG,cJh,or_false]at l;rcases l with rfl|rfl
    ·exact cX5 _
    ·exact cXF B
   ·rw[g0];exact cQY _ rfl
  cases q:aVd w with
  |true=>
   have pp:cVS (cJN (w.params.setOrder a G) f).toList f.toList:=by have:=aJG (w.params.setOrder a G) f.size 0 f.toList #[] (by simp);simpa[cJN]using this
   obtain⟨k,m,n⟩:=C.perm pp.symm;refine fin ((cJN (w.params.setOrder a G) f).toList.map (·.2)) (λ_=>0) k rfl (by rw[cQB,pp.length_eq];simp) m.vals (n.trans W) λs i A' E' Z O hi p=>?_;refine bQg O H D q ?_;rw[cQR,cZd]at p;cases e:(cJN (w.params.setOrder a G) f)[i]? with
   |none=>rw[e]at p;exact p
   |some z=>rw[e]at p;exact p
  |false=>
   have a3:(!t.plain && decide (f.size > 1))=false:=by have c':¬ ((!aVd w && (!t.plain && decide (f.size > 1)))=true):=c;rw[q]at c';simpa using c'
   have U:t.led=true:=N.led.resolve_left (by rw[q];decide);have a9:t.place.size=f.size:=by have:=D;simp only[SetTable.fits,Bool.and_eq_true,beq_iff_eq]at this;exact this.1
   refine fin (f.toList.map (·.2)) (λi=>if i=0 then 0 else t.place.getD (i - 1) 0+1) ls (by simp) (by simp) C.vals W λs i A' E' Z O hi p=>?_;refine bZA O H D q a3 U ?_;have a4:cXB t.place (if i=0 then 0 else t.place.getD (i - 1) 0+1)=i:=by
    by_cases h0:i=0
    ·rw[if_pos h0,aW9 N.rise,h0]
    ·rw[if_neg h0,aW8 N.rise (by omega)];omega
   rw[a4];by_cases K:i<f.size
   ·have L:i<t.place.size:=by omega
    rw[cX7 K,cX7 L];rw[cQR,cZd,cX7 K]at p;have e1:t.place.getD i 0=t.place[i]:=by simp[cZ9,L]
    simpa[e1]using p
   ·rw[cJy (by omega)];rw[cQR,cZd,cJy (by omega)]at p;exact p
end
end Stb
namespace Stb
open PySem PyProof.Rows
section
variable {prog:cQT}{w:cQ2}{A:cXi}{E:cQx->cQA->Prop}{s:cQA}
def bVS{r:Nat}{Q:Bool->cQA->Prop}(c:s.TypeIs (.ref r) "set")(h:Q false s):cQF (cQH prog w) A (cVQ (.ref r)) Q E s:=by
 unfold cVQ;refine cQy (wpAny_specialOf c PySem.F.slot_set_len.lookup ?_);generalize a:("set.__len__":String)=q;wp_delta;rw[show splitId q=some ("set","__len__")from by subst a;decide+kernel];subst a;refine cQy (wpAny_isInstance (T:="set") (b:=true) c sub_set_self ?_);refine cVJ (λz=>absurd z (by decide)) (λ_=>?_);refine cVJ (λ_=>?_) (λz=>absurd dk z);exact cQy (wpAny_typeOf c (cQC h))
def aKc{a:Nat}{n:List Int}{R:List cQx->cQA->Prop}(hh:A.handled=none)(hS:aXR w s.heap a n)(hn:n.length<=cQW) (h:∀ (h':Heap)(tk:Nat)(d:Drawn)(vs:List cQx)(ls:List Int),s.heap.objs.size<h'.objs.size->(∀b o,s.heap.get? b=some o->h'.get? b=some o)->aZ6 ls vs->ls.Perm n->R vs {s with heap:=h',toks:=tk,drawn:=d}): cQF (cQH prog w) A (collect (.ref a)) R E s:=by
 have hT:=hS.type;obtain⟨oa,a2⟩:=hS.there;have K:a<s.heap.objs.size:=cQN a2;unfold collect;refine cQy (wpAny_runValue (cZM entry_proto_collect' ?_));rw[cZx PySem.F.plain_proto_collect _];show cQF _ A.in1 (newList [] >>=λl=>again (.builtin "list.__iadd__" ⟨[l,.ref a],[]⟩)) _ _ s;refine cQy (cXT ?_);refine cQC ⟨cJY PySem.F.plain_list_iadd _,cZM entry_list_iadd' ?_⟩;rw[cZx PySem.F.plain_list_iadd _];have hL:(s.heap.push {cls:= .type "list",data:= .seq ([]:List cQx).toArray}).get? s.heap.objs.size=some {cls:= .type "list",data:= .seq #[] }:=cQY _ rfl;have y:aXR w (s.heap.push {cls:= .type "list",data:= .seq ([]:List cQx).toArray}) a n:=hS.at λo e=>cQD _ e;have k:(s.heap.push {cls:= .type "list",data:= .seq ([]:List cQx).toArray}).objs.size=s.heap.objs.size+1:=cX1 ..;generalize Z:s.heap.push {cls:= .type "list",data:= .seq ([]:List cQx).toArray}=H1 at hL y k ⊢;have X:∀b o,s.heap.get? b=some o->H1.get? b=some o:=λb o e=>by rw[<- Z];exact cQD _ e
 show cQF _ A.in1 (cJH (.ref s.heap.objs.size) (.ref a) (.ref s.heap.objs.size)) _ _ {s with heap:=H1};have M:Shared.TypeIs {s with heap:=H1} (.ref a) "set":=y.type (s:={s with heap:=H1});unfold cJH;refine cQy (wpAny_typeOf (T:="set") M ?_);have q1:cV6 (.ref s.heap.objs.size) (.ref a)=false:=by simp[cV6,cZZ K]
 have q2:(Value.type "set"==Value.type "list")=false:=by decide
 have q3:(Value.type "set"==Value.type "tuple")=false:=by decide
 simp only[q1,q2,q3,Bool.or_false,Bool.false_eq_true,if_false];refine cQy (bVU (s:={s with heap:=H1}) y ?_);intro I h2 d fp St vs ls hI a8 b0 hv hp W N t;have Q:s.heap.objs.size∉fp:=λz=>by
  rcases a8 _ z with e|e
  ·exact cZZ K e
  ·have e':H1.objs.size<=s.heap.objs.size:=e;rw[k]at e';exact absurd e' (Nat.not_succ_le_self _)
 have u:=t _ _ hL;have L:∀ (H:Heap)(c:Nat),St 0 H->(∀b o,b≠s.heap.objs.size->h2.get? b=some o->H.get? b=some o)->H.get? s.heap.objs.size=some {cls:= .type "list",data:= .seq #[] c}->
   cZO (cQH prog w) A (.builtin "list.extend.loop" ⟨[.ref s.heap.objs.size,.ref I,.ref s.heap.objs.size],[]⟩)
    (λq g=>∃ (h':Heap)(tk:Nat)(f:Array cQx)(B:Nat),q= .ok (.ret (.ref s.heap.objs.size))/\g= {s with heap:=h',toks:=tk,drawn:=d}/\
     (∀b o,s.heap.get? b=some o->h'.get? b=some o)/\h'.get? s.heap.objs.size=some {cls:= .type "list",dict:=none,data:= .seq f B,slots:= #[] }/\ItemsOf (λi v=>vs[i]? =some v) f n.length) {s with heap:=H,drawn:=d}:=by
  intro H c D a7 m
  refine codeAny_extend_loopS (W A.in1 hh).toS hn s.heap.objs.size Q (.ref s.heap.objs.size) n.length 0 _ #[] c rfl (cXz _) D m (ItemsOf.nil _) λg O B S a1 C=>?_
  obtain⟨a4,g',d',V,U⟩:=g
  have eg:g'=s.gens:=S.gens
  have ed:d'=d:=S.drawn
  have eo:U=s.os:=S.os
  subst eg ed eo
  refine⟨a4,V,O,B,rfl,rfl,λb o e=>?_,a1,C⟩
  have r:b<s.heap.objs.size:=cQN e
  refine S.heap b o (λz=>?_) (a7 b o (cQV r) (t b o (X b o e)))
  rcases cQG.mp z with z|z
  ·exact cQV r z
  ·have z':b=I:=cQL.mp z;have G:H1.objs.size<=I:=hI;rw[k,<- z']at G;exact absurd (cQ1 r (Nat.le_of_succ_le G)) (cXG _)
 have p:∀ (q:Result)(g:cQA),(∃ (h':Heap)(tk:Nat)(f:Array cQx)(B:Nat),q= .ok (.ret (.ref s.heap.objs.size))/\g= {s with heap:=h',toks:=tk,drawn:=d}/\ (∀b o,s.heap.get? b=some o->h'.get? b=some o)/\h'.get? s.heap.objs.size=some {cls:= .type "list",dict:=none,data:= .seq f B,slots:= #[] }/\ItemsOf (λi v=>vs[i]? =some v) f n.length)->
   ∃tk h',q= .ok (.ret (.ref s.heap.objs.size))/\g= {s with heap:=h',toks:=tk,drawn:=d}/\cQF (cQH prog w) A (do
    let o <- load s.heap.objs.size
    match o.data with
    |.seq xs _=>pure xs.toList
    |_=>unsupported "internal:collect") R E {s with heap:=h',toks:=tk,drawn:=d}:=by
  rintro q g ⟨h',tk,f,B,rfl,rfl,hk,hg,P⟩
  refine⟨tk,h',rfl,rfl,cQy (wpAny_load hg (cQC ?_))⟩
  have a6:vs.length=n.length:=by rw[<- cZE hv,hp.length_eq]
  have e:f.toList=vs:=bZu (by rw[cXS,P.1,a6]) λj x hx=>P.2 j x (by rw[<- cZd];exact hx)
  show R f.toList _
  rw[e]
  exact h h' tk d vs ls (cQN hg) hk hv hp
 have a9:Shared.TypeIs {s with heap:=h2,drawn:=d} (.ref a) "set":=by obtain⟨o',a0,a3⟩:=M;exact⟨o',t _ _ a0,a3⟩
 refine cQy (cXP (bVS a9 ?_));refine cVJ (λ_=>?_) (λ_=>?_)
 ·refine cQy (wpAny_rule ?_);refine cQy ?_;show cQF _ _ (updateSeq s.heap.objs.size (·.push .none) >>=λ_=>updateSeq s.heap.objs.size (·.pop)) _ _ _;refine cQy (wpAny_updateSeq u rfl ?_);have m:=cXE (cXm (·.push Value.none)) u rfl;refine wpAny_updateSeq (hz:=by seq_fits) m rfl ?_;have a5:=cXE (cXm (·.pop)) m rfl;refine cQC ⟨cJY cV5 _,cZv (L _ _ ?_ (λb o r e=>?_) a5) λq g z=>?_⟩
  ·refine(W A.in1 hh).frame 0 _ _ N λb r o e=>?_;have J:b≠s.heap.objs.size:=λz=>Q (z ▸ r);exact(cQ9 _ _ (cXg J)).trans ((cQ9 _ _ (cXg J)).trans e)
  ·exact(cQ9 _ _ (cXg r)).trans ((cQ9 _ _ (cXg r)).trans e)
  ·obtain⟨tk,h',rfl,rfl,Y⟩:=p q g z;exact Y
 ·refine cQC ⟨cJY cV5 _,cZv (L _ _ N (λb o _ e=>e) u) λq g z=>?_⟩;obtain⟨tk,h',rfl,rfl,Y⟩:=p q g z;exact Y
def aQx:∀ {a:List Int} {vs:List cQx},aZ6 a vs->cZT vs a
 |_,_,.nil=> .nil
 |_,_,.cons ⟨t,e⟩ r=>by subst e;exact .cons _ t (aQx r)
def aYi{a:Nat}{f:List Int}{Q:cQx->cQA->Prop}(F:A.handled=none)(D:aXR w s.heap a f)(z:f.length<64) (h:∀ (l:Nat)(h':Heap)(tk:Nat)(d:Drawn)(out:List cQx)(g:List Int)(n:Nat),s.heap.objs.size<=l->(∀b o,s.heap.get? b=some o->h'.get? b=some o)->h'.get? l=some {cls:= .type "list",data:= .seq out.toArray n}-> cZT out g->g.Perm f->g.Pairwise (·<=·)->Q (.ref l) {s with heap:=h',toks:=tk,drawn:=d}):cQF (cQH prog w) A (call (.builtin "sorted") [.ref a]) Q E s:=by
 refine cJb kind_sorted cVH cVE (args_sorted1 _) ?_;unfold cZm.«sorted»;refine cQy (m:=checkCount "sorted" 1 1 _) (cQC ?_);refine cQy (aKc (A:=A.in1) F D (by rw[cQZ];omega) λj tk d r G i v t u=>?_);have y:=aQx t;have p:r.length=f.length:=by rw[<- cZE t,u.length_eq]
 refine cQy (cJt ?_ (by rw[p,cQZ];omega));have c:(j.push {cls:= .type "list",data:= .seq r.toArray}).get? j.objs.size=some (cXf "list" r.toArray 0):=cQY _ rfl;refine cQy (cXP (cX6 slot_list_sort ⟨_,c,rfl⟩ entry_list_sort (list_sort_tree c y (by omega) λout q C B x=>⟨_,rfl,?_⟩) (args_list_sort _)));obtain⟨n,e⟩:=sortedHeap_at (out:=out) c;refine cQC ⟨_,rfl,h j.objs.size _ tk d out.toList q n (cJj i) (λb o e=>?_) (by simpa using e) C (B.trans u) x⟩;have k:=v b o e;rw[sortedHeap_old (cQV (cQN k)) (by rw[cX1];exact cXF (cQN k))];exact cQD _ k
end
end Stb
namespace Stb
open PySem PyProof.Rows
def met(val:Nat->Int):Nat->List Int
 |0=> []
 |i+1=>if val i∈met val i then met val i else met val i++ [val i]
def aVo(val:Nat->Int):∀i,(met val i).length<=i
 |0=>cQE _
 |i+1=>by
  have a:=aVo val i;unfold met;split
  ·omega
  ·rw[cQ0,cXL];omega
def bQb(val:Nat->Int)(d:Int):∀i,d∈met val i↔∃j,j<i/\val j=d
 |0=>by simp[met]
 |i+1=>by
  have c:=bQb val d i;have step:d∈met val (i+1)↔d∈met val i\/d=val i:=by
   show d∈(if val i∈met val i then met val i else met val i++ [val i])↔_;split
   ·rename_i a;constructor
    ·exact .inl
    ·rintro(z|rfl)
     ·exact z
     ·exact a
   ·simp
  rw[step,c];constructor
  ·rintro(⟨j,b,e⟩|rfl)
   ·exact⟨j,by omega,e⟩
   ·exact⟨i,by omega,rfl⟩
  ·rintro⟨j,b,e⟩;by_cases h:j=i
   ·subst h;exact .inr e.symm
   ·exact .inl ⟨j,by omega,e⟩
section
variable {prog:cQT}{w:cQ2}{A:cXi}
def bVN{R:Result->cQA->Prop}{I:Nat}{J G:List Nat}{n:Nat}{P:Nat->cQx->Prop}{St:Nat->Heap->Prop}(W:Walks prog w A.in1 I J G n P St)(S:Nat)(x:S∉J) (val:Nat->Int) (f:∀i v,P i v->∃t,v= .int (val i) t) (a:n+1<cVa): ∀ (k i:Nat)(s:cQA),n - i=k->i<=n->St i s.heap->aXR w s.heap S (met val i)-> (∀p tk,(∀b o,b∉S::G->s.heap.get? b=some o->p.get? b=some o)->aXR w p S (met val n)->R (.ok (.ret .none)) {s with heap:=p,toks:=tk})-> cZO (cQH prog w) A (.builtin "set.update.loop" ⟨[.ref S,.ref I],[]⟩) R s:=by
 have l:S∉G:=λh=>x (W.sub _ h);intro k;induction k with
 |zero=>
  intro i s L O c H hR;obtain rfl:i=n:=by omega
  refine cZM cJ7 ?_;rw[cZx cZ0 _];refine cQy (m:=pyNext (.ref I)) (W.done s _ _ c λp tk u=>?_);exact cQC (hR p tk (λb o a e=>u b o (λz=>a (cQI _ z)) e) (H.at λo e=>u S o l e))
 |succ k Q=>
  intro i s L O c H hR;have r:i<n:=by omega
  refine cZM cJ7 ?_;rw[cZx cZ0 _];refine cQy (m:=pyNext (.ref I)) (W.item i s _ _ r c λv C q N g j=>?_);obtain⟨t,rfl⟩:=f i v N;show cQF _ A.in1 (cJ1 [Value.int (val i) t] (setAdd S (.int (val i) t)) >>=_) _ _ {s with heap:=C,toks:=q};refine cQy (cXP ?_);unfold setAdd;refine cXP ?_;refine cQy ((intKind prog w).pyHash (k:=val i) (intKind_is _ _ _ _) ?_);have d:(met val i).length+1<cVa:=by have:=aVo val i;omega
  refine bKr (s:={s with heap:=C,toks:=q+1}) (H.at λo e=>j S o l e) d λT b K y=>?_;refine cQC ⟨cJY cZ0 _,Q (i+1) _ (by omega) r (W.frame _ C _ g λb a o e=>?_) y λM D B E=>?_⟩
  ·exact K.extBut b o (λz=>x (z ▸ a)) e
  ·refine hR M D (λb o a e=>B b o a (K.extBut b o (λz=>a (by rw[z];exact cQM)) (j b o (λz=>a (cQI _ z)) e))) E
variable {E:cQx->cQA->Prop}{s:cQA}
def bKL(a:cQx){Q₁:cQx->cQA->Prop} (h:Q₁ (.ref s.heap.objs.size) {s with heap:=s.heap.push {cls:= .type "set",dict:=none,data:= .set #[] 0 (.fresh 0 0 (!aVd w)) } }): cZO (cQH prog w) A (.call (.builtin "set.__new__") ⟨[.type "set",a],[]⟩) (wants Q₁ E) s:=by
 refine codeAny_of_tree ?_;show cQF _ A.in1 (do checkBuiltinCall "set.__new__" ⟨[.type "set",a],[]⟩;again (.builtin "set.__new__" ⟨[.type "set",a],[]⟩)) _ _ s;refine cQy (wpAny_of_eq (PySem.F.newCall_set_1 a) (cQC ⟨cJY PySem.F.plain_set_new _,cZM PySem.F.entry_set_new ?_⟩));rw[cZx PySem.F.plain_set_new _];unfold cZm.«set.__new__» Builtin.Frozenset.newClass;have b:=sub_set_self;obtain⟨e,g,d,tk,c⟩:=s;dsimp only;wp_walk;refine cJm (cQC ?_);dsimp only;simp only[newObj];refine cQy (wpAny_alloc (cQC ?_));exact cQC h
set_option maxHeartbeats 3200000 in
def wR{l:Nat}{items:Array cQx}{y:List Int}{Q:cQx->cQA->Prop}(hh:A.handled=none)(hl:s.heap.IsList l items)(hi:cZT items.toList y)(L:items.size+1<cVa) (h:∀ (h':Heap)(tk:Nat),aXR w h' s.heap.objs.size (met (λi=>y.getD i 0) items.size)->(∀b o,s.heap.get? b=some o->h'.get? b=some o)->Q (.ref s.heap.objs.size) {s with heap:=h',toks:=tk}): cQF (cQH prog w) A (call (.type "set") [.ref l]) Q E s:=by
 obtain⟨c,tl,a4⟩:=cZu.mro;have V:=cZu.made;have a1:=cZu.sub;refine cJU (codeAny_of_tree ?_);show cQF _ _ (callAny (.type "set") _) _ _ _;refine cQC ⟨cVR _ dk,cZM PySem.F.entry_type_call ?_⟩;rw[Around.under_plain (weight_type_call_type "set" [.ref l] []) rfl];have h1:=cZu.notType;have h2:=cZu.canCreate;have a5:=PySem.F.typeCall_set_1 (.ref l);repeat (any_goals (first|assumption|wp_step))
 refine cZv (bKL (.ref l) (E:=E) (Q₁:=λq g=>q= .ref s.heap.objs.size/\g= {s with heap:=s.heap.push {cls:= .type "set",dict:=none,data:= .set #[] 0 (.fresh 0 0 (!aVd w)) } }) ⟨rfl,rfl⟩) λr g Z=>?_;cases r with
 |error e=>exact Z
 |ok fl=>
  cases fl with
  |ret q=>
   obtain⟨rfl,rfl⟩:=Z;generalize x:({cls:= .type "set",dict:=none,data:= .set #[] 0 (.fresh 0 0 (!aVd w)) }:Obj)=O;have X:(s.heap.push O).get? s.heap.objs.size=some O:=cQY _ (by rw[<- x];rfl);have hT:Shared.TypeIs {s with heap:=s.heap.push O} (.ref s.heap.objs.size) "set":=⟨_,X,by rw[<- x]⟩;have C:aXR w (s.heap.push O) s.heap.objs.size []:=by
    refine⟨O, #[],0,.fresh 0 0 (!aVd w),[],X,?_,?_,.nil,.rfl,List.nodup_nil,by decide,rfl,bXP ?_⟩
    ·rw[<- x];exact⟨rfl,rfl,rfl⟩
    ·rw[<- x]
    ·cases aVd w<;> simp
   have d:(s.heap.push O).objs.size=s.heap.objs.size+1:=cX1 ..;have k:∀b o,s.heap.get? b=some o->(s.heap.push O).get? b=some o:=λb o e=>cQD _ e;generalize hH:s.heap.push O=H at X hT C d k ⊢;have a8:=cZu.init.lookup;have a7:=cZu.init.bind (.ref s.heap.objs.size);repeat (any_goals (first|assumption|wp_step))
   refine cZv (cVD (R:=wants (λr j=>r= .none/\∃h' tk,j= {s with heap:=h',toks:=tk}/\aXR w h' s.heap.objs.size (met (λi=>y.getD i 0) items.size)/\
     (∀b o,s.heap.get? b=some o->h'.get? b=some o)) E) cZu.init.plain PySem.F.entry_set_init (check_set_init_1 hT ?_)) λB j a=>?_
   ·obtain⟨ol,P,G,nl,D⟩:=hl;obtain⟨a0,n,T,f⟩:=ol;simp only at G D;subst G;subst D;have M:H.get? l=some {cls:= .type "list",dict:=n,data:= .seq items nl,slots:=f}:=k _ _ P;have a3:=PySem.F.sub_list_set;have a2:=PySem.F.sub_list_frozenset;have a6:(Value.type "list"==Value.type "dict")=false:=by decide
    have N:H.IsList l items:=⟨_,M,rfl,nl,rfl⟩;subst x;unfold cZm.«set.__init__» noKeywords Builtin.Frozenset.updateFrom;generalize U:pyIter=PI;wp_walk;subst U;refine cVg (l:=l) (items:=items) ?hl ?_;case hl=>exact N
    refine cQy (wpAny_runValue ?_);have J:l<s.heap.objs.size:=cQN P;have S:A.in1.in1.in1.handled=none:=by simp[hh]
    have K:l≠H.objs.size:=by rw[d];exact cQV (cXF J)
    have Y:s.heap.objs.size∉ [H.objs.size,l]:=by rw[d];simp only[cQG,cJh,or_false,not_or];exact⟨cQV (cX5 _),cZZ J⟩
    have u:∀ (i:Nat)(v:cQx),items[i]? =some v->∃t,v= .int ((λi=>y.getD i 0) i) t:=λi v hv=>
     cJI hi i v (by rw[cZd];exact hv)
    refine bVN (Walks.list S _ l K items) s.heap.objs.size Y (λi=>y.getD i 0) u L (items.size - 0) 0 _ (by omega) (cXz _) ⟨⟨_,cQY _ rfl,rfl,rfl⟩,N.push _⟩ ?hS0 ?hR;case hS0=>exact C.at λo e=>cQD _ e
    case hR=>
     intro h' tk hk p;show cQF _ _ _ _ _ _;refine cQC ?_;show cQF _ _ (ret Value.none) _ _ _;refine cQC ⟨rfl,h',tk,rfl,p,λb o e=>?_⟩;have L:=cQN e;refine hk b o (λz=>?_) (cQD _ (k _ _ e));simp only[cQG,cJh,or_false]at z;rcases z with z|z
     ·exact cQV L z
     ·rw[z]at L;have I:H.objs.size<s.heap.objs.size:=L;rw[d]at I;exact absurd I (Nat.not_lt.mpr (cZD _))
   ·cases B with
    |error e=>exact a
    |ok m=>
     cases m with
     |ret r=>
      obtain⟨rfl,h',tk,rfl,p,W⟩:=a;repeat (any_goals (first|assumption|wp_step))
      exact h _ _ p W
     |_=>exact a.elim
  |_=>exact Z.elim
end
end Stb
namespace L2
open PySem PySem.Spec PyProof.Rows
section
variable {X:Cx}{tg:Expr}
end
section
variable {X:Cx}
def aXp(a:List Int):∀n,n<=a.length->preSum (λi=>a.getD i 0) n=(a.take n).sum
 |0,_=>by simp[preSum]
 |n+1,h=>by
  have b:=aXp a n (by omega);show preSum (λi=>a.getD i 0) n+a.getD n 0=_;have e:a.take (n+1)=a.take n++ [a.getD n 0]:=by rw[cXx,cQw (show n<a.length by omega)];simp[cXk,cQw (show n<a.length by omega)]
  rw[b,e,List.sum_append];simp
def bX0(C:X.calm=true):jX X (.builtin "sum") (λm H Q=>∃ (p:Nat)(c:List Int),m= [.ref p]/\SqL X.K H p (c.map V.int)/\Q (.int c.sum) H):=by
 intro w s σ H m S Q I r h;obtain⟨p,c,rfl,N,q⟩:=h;obtain⟨u,rfl,y⟩:=aQs r;cases y;obtain⟨a,L,pl,P⟩:=I.list N;have t:cZT a c:=aQd L;have f:a.length=c.length:=t.length;obtain⟨o,B,_⟩:=id pl.isList;have d:p<s.heap.objs.size:=cQN B;refine call_sum_walkAnyS (cVg pl.isList ?_);refine⟨s.heap.objs.size,[s.heap.objs.size,p],[s.heap.objs.size],_,a.toArray.size,_,_,λi=>c.getD i 0,rfl,(Walks.list (A:=X.A.in1) (by simpa using I.ok.hd C) _ p (cQV d) a.toArray).toS,
  ⟨⟨_,cQY _ rfl,rfl,rfl⟩,pl.isList.push _⟩,λb l=>?_,λi v J=>?_,λD n g=>?_⟩
 ·show b<(s.heap.push _).objs.size;rw[cX1];rcases cQG.mp l with rfl|l
  ·exact cX5 _
  ·rw[cQL.mp l];exact cXF d
 ·exact cJI t i v (by simpa using J)
 ·have e:preSum (λi=>c.getD i 0) a.toArray.size=c.sum:=by
   rw[cQQ,f,aXp c _ (cQE _),cXs]
  rw[e];obtain⟨R,x,F,k,j⟩:=D;have G:x=s.gens:=g.gens;have O:F=s.drawn:=g.drawn;have M:j=s.os:=g.os;subst G O M;exact⟨.int c.sum,H,I.kept (t':=k) λb E e=>g.heap b E (λz=>by rw[cQL.mp z]at e;exact cXG _ (cQN e)) (cQD _ e),⟨n,rfl⟩,q⟩
def zH:jX X (.builtin "isinstance") (λa H Q=>∃x c t b,a= [x,.ty c]/\aJ7 X.K H x t/\cXt X.K t (.type c)=some b/\Q (.bl b) H):=by
 intro d s σ H a i Q I r h;obtain⟨x,c,t,b,rfl,ty,e,q⟩:=h;obtain⟨u,v,rfl,f,g⟩:=zD.two r;cases g;exact aYT I f ty e λtk=>⟨.bl b,H,I.tok tk,rfl,q⟩
def bYc(w:cQ2)(a:Nat)(b:List Int):HO:= .ext λh=>Stb.aXR w h a b
def bXZ(D:X.calm=true):jX X (.type "set") (λn H Q=>∃ (p:Nat)(a:List Int),n= [.ref p]/\SqL X.K H p (a.map V.int)/\a.length<4000/\∀ (l:Nat)(c:List Int),H l=none->c.Nodup->c.length<=a.length->(∀d,d∈c↔d∈a)->Q (.ref l) (upd H l (bYc X.w l c))):=by
 intro y s σ H n R Q I r h;obtain⟨p,a,rfl,G,S,q⟩:=h;obtain⟨u,rfl,B⟩:=aQs r;cases B;obtain⟨b,F,pl,N⟩:=I.list G;have x:cZT b a:=aQd F;have A:b.length=a.length:=x.length;refine Stb.wR (I.ok.hd D) pl.isList (by simpa using x) (by rw[cQQ];unfold cVa;omega) λP tk f C=>?_;rw[cQQ]at f;have g:(Stb.met (λi=>a.getD i 0) b.length).Nodup:=by obtain⟨o,M,T,t,L,_,_,_,_,_,g,_⟩:=f;exact g
 have hl:=Stb.aVo (λi=>a.getD i 0) b.length;refine⟨.ref s.heap.objs.size,_,I.laid (t':=tk) (o:=bYc X.w s.heap.objs.size (Stb.met (λi=>a.getD i 0) b.length)) C (cQE _) ⟨f,f.there,λO J z k=>z.at k⟩,rfl,q _ _ I.fresh g (by omega) λd=>?_⟩;rw[Stb.bQb];constructor
 ·rintro⟨j,v,rfl⟩;have m:j<a.length:=by omega
  simp[cXk,cQw m]
 ·intro E;obtain⟨j,v,e⟩:=cXq E;exact⟨j,by omega,by simp[cXk,cQw v,e]⟩
def aXS(x:X.calm=true):jX X (.builtin "sorted") (λm H Q=>∃ (p:Nat)(e:List Int),m= [.ref p]/\H p=some (bYc X.w p e)/\e.length<64/\∀ (l:Nat)(b:List Int),H l=none->b.Perm e->b.Pairwise (·<=·)->Q (.ref l) (upd H l (.lst (b.map V.int)))):=by
 intro c s σ H m E Q I r h;obtain⟨p,e,rfl,C,g,q⟩:=h;obtain⟨u,rfl,t⟩:=aQs r;cases t;obtain⟨D,_,_⟩:=(show zQ X.prog X.w H s.heap p (bYc X.w p e)from I.hok p _ C);refine Stb.aYi (I.ok.hd x) D g λl o tk d k b n hl v y z f i=>?_;have A:H l=none:=I.hok.fresh hl;have j:b.length<=cQW:=by rw[f.length_eq,cQZ];omega
 have a:Inv X c σ (upd H l (.lst (b.map V.int))) {s with heap:=o,toks:=tk}:=I.laid v hl ⟨by rw[cQB];exact j,k,n,jH z,y⟩;have B:Inv X c σ (upd H l (.lst (b.map V.int))) {s with heap:=o,toks:=tk,drawn:=d}:=by refine⟨a.ok,a.os,a.bare,a.base,a.loc,a.cell,a.free,a.freeC,a.pin,a.hok,a.len⟩
 exact⟨.ref l,_,B,rfl,q l b A f i⟩
def aVO(n d:Nat)(a:Nat):HT.sIx n d (some (a:Int))=min a n:=by
 unfold HT.sIx;simp only;split<;> omega
end
end L2
namespace L2
open PySem PySem.Spec PyProof.Rows
def jV(K:cQz):cXt K (.type "NoneType") (.type "list")=some false:=by kernel_rfl
def uZ(K:cQz):cXt K (.type "NoneType") (.type "tuple")=some false:=by kernel_rfl
def aQz(K:cQz):cXt K (.type "bool") (.type "bool")=some true:=by kernel_rfl
def aVm(K:cQz):cXt K (.type "bool") (.type "int")=some true:=by kernel_rfl
def X3(K:cQz):cXt K (.type "bool") (.type "str")=some false:=by kernel_rfl
def aJt(K:cQz):cXt K (.type "bool") (.type "list")=some false:=by kernel_rfl
def aZu(K:cQz):cXt K (.type "bool") (.type "tuple")=some false:=by kernel_rfl
def X4(K:cQz):cXt K (.type "int") (.type "bool")=some false:=by kernel_rfl
def aX5(K:cQz):cXt K (.type "int") (.type "int")=some true:=by kernel_rfl
def qS(K:cQz):cXt K (.type "int") (.type "str")=some false:=by kernel_rfl
def aQ7(K:cQz):cXt K (.type "int") (.type "list")=some false:=by kernel_rfl
def aQA(K:cQz):cXt K (.type "int") (.type "tuple")=some false:=by kernel_rfl
def aQ8(K:cQz):cXt K (.type "str") (.type "bool")=some false:=by kernel_rfl
def aKn(K:cQz):cXt K (.type "str") (.type "int")=some false:=by kernel_rfl
def jA(K:cQz):cXt K (.type "str") (.type "str")=some true:=by kernel_rfl
def aQ9(K:cQz):cXt K (.type "str") (.type "list")=some false:=by kernel_rfl
def aQB(K:cQz):cXt K (.type "str") (.type "tuple")=some false:=by kernel_rfl
def zF(K:cQz):cXt K (.type "list") (.type "list")=some true:=by kernel_rfl
def wY(K:cQz):cXt K (.type "list") (.type "tuple")=some false:=by kernel_rfl
def zO(K:cQz):cXt K (.type "tuple") (.type "list")=some false:=by kernel_rfl
def wN(K:cQz):cXt K (.type "tuple") (.type "tuple")=some true:=by kernel_rfl
section
variable {X:Cx}{pins:List (Nat×Obj)}{σ:St}{H:Hp}{s:cQA}
def aKl{A:cXi}{E:cQx->cQA->Prop}{Q:cQx->cQA->Prop}{x:V}{u t:cQx}{tp:Nat}{cs:List cQx}{b:Bool}(I:Inv X pins σ H s)(d:wE x u)(ty:aJ7 X.K H x t) (m:cJu s.heap tp cs.toArray) (e:PySem.W.kitAny X.K t cs=some b) (h:∀tk,Q (.bool b) {s with toks:=tk}):cQF (cQH X.prog X.w) A (call (.builtin "isinstance") [u,.ref tp]) Q E s:=by
 obtain⟨⟨cls,P,data,T⟩,c,v,n,B⟩:=m;simp only at v B;subst v B;cases ty with
 |non=>cases (show u=Value.none from d);exact cZi PySem.W.kitx_none I.kIn cXQ c e (λz=>nomatch z) h
 |bl y=>cases (show u=Value.bool y from d);exact cZi PySem.W.kitx_bool I.kIn cXQ c e (λz=>nomatch z) h
 |int i=>obtain⟨t,q⟩:=(show ∃t,u=Value.int i t from d);cases q;exact cZi PySem.W.kitx_int I.kIn cXQ c e (λz=>nomatch z) h
 |str y=>obtain⟨t,q⟩:=(show ∃t,u=Value.str y t from d);cases q;exact cZi PySem.W.kitx_str I.kIn cXQ c e (λz=>nomatch z) h
 |flt y=>obtain⟨t,q⟩:=(show ∃t,u=Value.float y t from d);cases q;exact cZi PySem.W.kitx_float I.kIn cXQ c e (λz=>nomatch z) h
 |@lst a k f=>cases (show u=Value.ref a from d);obtain⟨_,_,n,_,g⟩:=(show zQ X.prog X.w H s.heap a (.lst k)from I.hok a _ f);exact cZi cVd I.kIn ⟨_,g,rfl⟩ c e (λz=>nomatch z) h
 |@frz a D k f=>cases (show u=Value.ref a from d);obtain⟨_,_,_,n,_,g⟩:=(show zQ X.prog X.w H s.heap a (.frz D (.lst k))from I.hok a _ f);exact cZi cVd I.kIn ⟨_,g,rfl⟩ c e (λz=>nomatch z) h
 |@tup a k f=>cases (show u=Value.ref a from d);obtain⟨_,_,_,p⟩:=(show zQ X.prog X.w H s.heap a (.tup k)from I.hok a _ f);obtain⟨o,g,l,_⟩:=p;exact cZi PySem.W.kitx_tuple I.kIn ⟨o,g,l⟩ c e (λz=>nomatch z) h
 |@dK a j f=>cases (show u=Value.ref a from d);obtain⟨_,_,Y,_,p⟩:=(show zQ X.prog X.w H s.heap a (.dK j)from I.hok a _ f);obtain⟨o,F,N,g,l,_⟩:=p;exact cZi cVc I.kIn ⟨o,g,l.1⟩ c e (λz=>nomatch z) h
 |@dT a j f=>cases (show u=Value.ref a from d);obtain⟨_,_,k,_,o,F,N,g,l,_⟩:=(show zQ X.prog X.w H s.heap a (.dT j)from I.hok a _ f);exact cZi cVc I.kIn ⟨o,g,l.1⟩ c e (λz=>nomatch z) h
 |@ins a C U fs f cl G L r M=>cases (show u=Value.ref a from d);obtain⟨S,O,_⟩:=aQ3 I.hok f;obtain⟨R,J,_⟩:=O.look;exact cZi (PySem.W.kitx_own (cl.get _) cl.hd G L r M) I.kIn J c e (λz=>nomatch z) h
end
section
variable {X:Cx}
def Z8:jX X (.builtin "isinstance") (λe H Q=>∃x p c d t b a,e= [x,.ref p]/\SqT X.K H p [.ty c,.ty d]/\aJ7 X.K H x t/\cXt X.K t (.type c)=some b/\cXt X.K t (.type d)=some a/\Q (.bl (b || a)) H):=by
 intro pins s σ H e y Q I r h;obtain⟨x,p,c,d,t,b,a,rfl,l,ty,m,i,q⟩:=h;obtain⟨u,v,rfl,f,k⟩:=zD.two r;cases k;obtain⟨g,j,pl,_⟩:=I.tuple l;obtain⟨w,z,rfl,n,o⟩:=zD.two j;cases n;cases o;refine aKl I f ty pl (b:=b || a) ?_ λtk=>⟨.bl (b || a),H,I.tok tk,rfl,q⟩;unfold PySem.W.kitAny;rw[m];cases b
 ·simp only[Bool.false_or];unfold PySem.W.kitAny;rw[i];cases a<;> rfl
 ·rfl
def bK1(K:cQz):R2:=λx y H Q=>∃a b c,x= .ref a/\y= .ref b/\SqL K H a c/\SqL K H b []/\Q (.bl c.isEmpty) H
def bK2(K:cQz):R2:=λx y H Q=>∃a b c,x= .ref a/\y= .ref b/\SqL K H a c/\SqL K H b []/\Q (.bl (!c.isEmpty)) H
def aZA(f:X.A.units<cLine):OpR X (cZa .Eq) (bK1 X.K):=by
 intro pins s σ H x y v u Q I g m h;obtain⟨a,b,p,rfl,rfl,l,n,q⟩:=h;cases g;cases m;obtain⟨t,o,d,_⟩:=I.list l;obtain⟨w,k,c,_⟩:=I.list n;cases k;cases o with
 |nil=>exact SeqAt.eq_listAt (e:=λ_=>true) d.isList c.isList rfl f (λj i r=>absurd i (cZg _)) ⟨.bl true,H,I,rfl,q⟩
 |cons _ _=>exact SeqAt.eq_list_lengthsAt d.isList c.isList (by simp) f ⟨.bl false,H,I,rfl,q⟩
def jM(f:X.A.units<cLine):OpR X (cZa .NotEq) (bK2 X.K):=by
 intro pins s σ H x y v u Q I g m h;obtain⟨a,b,p,rfl,rfl,l,n,q⟩:=h;cases g;cases m;obtain⟨t,o,d,_⟩:=I.list l;obtain⟨B,k,c,_⟩:=I.list n;cases k;cases o with
 |nil=>have z:=SeqAt.RcNeAt.lists (A:=X.A) (s:=s) (e:=λ_=>true) d.isList c.isList rfl f (λj i r=>absurd i (cZg _));exact z X.prog X.w X.xe _ ⟨.bl false,H,I,rfl,q⟩
 |cons _ _=>exact(SeqAt.RcNeAt.lists_lengths d.isList c.isList (by simp) f) X.prog X.w X.xe _ ⟨.bl true,H,I,rfl,q⟩
structure FnG(P:cQT)(w:cQ2)(K:cQz)(mg:Str->Option cQx)(base:Heap)(k:Nat)(x:Str)(ps:List Str)(sp:Sp):Prop where
 ex:∃f fd,xL P w K mg base CX0 k f fd ps sp/\uX K fd ps []/\cXv K (.ref f)=true/\mg x=some (.ref f)
def FnG.mono{P:cQT}{w:cQ2}{K:cQz}{mg:Str->Option cQx}{base:Heap}{j k:Nat}{x:Str}{c:List Str}{sp:Sp}(G:FnG P w K mg base j x c sp)(h:j<=k):FnG P w K mg base k x c sp:=
 let ⟨f,fd,a,b⟩:=G.ex;⟨f,fd,a.mono h,b⟩
def xU{k:Nat}{x:Str}{l:List Str}{sp:Sp}{e:Expr}{a:List Expr}{t:TA}{p pos:Pos}(G:FnG X.prog X.w X.K X.mg X.base k x l sp)(n:uS k X.A)(g:Gl X x)(j:PA X (e::a) t)
  (d:(x==("__debug__":Str))=false:=by decide) (i:cXe (e::a) X.env=(false,eval e X.env)::cXe a X.env:=by rfl) (c:(cZj pos (cXe a X.env)).any (·.1)=false:=by rfl):
  PE X (.Call (.Name x p) (e::a) [] pos) (aYj sp [] E0 t):=by
 obtain⟨f,o,F,b,h,m⟩:=G.ex
 exact bQG F n g m h b .nil uT j d i c
end
inductive Dt where
 |non|bl (b:Bool)|int (n:Int)|str (x:Str)|lst (ds:List Dt)|tup (ds:List Dt)
mutual
def Is(H:Hp):V->Dt->Prop
 |v,.non=>v= .non
 |v,.bl b=>v= .bl b
 |v,.int n=>v= .int n
 |v,.str x=>v= .str x
 |v,.lst ds=>∃a c,v= .ref a/\H a=some (.lst c)/\wD H c ds
 |v,.tup ds=>∃a c,v= .ref a/\H a=some (.tup c)/\wD H c ds
def wD(H:Hp):List V->List Dt->Prop
 |[],[]=>True
 |x::xs,d::ds=>Is H x d/\wD H xs ds
 |_,_=>False
end
mutual
def Dt.size:Dt->Nat
 |.lst a=>1+wB a
 |.tup a=>1+wB a
 |_=>1
def wB:List Dt->Nat
 |[]=>0
 |d::ds=>d.size+wB ds
end
def wD.length{H:Hp}:∀ {xs:List V} {ds:List Dt},wD H xs ds->xs.length=ds.length
 |[],[],_=>rfl
 |_::xs,_::ds,h=>by unfold wD at h;simp[wD.length h.2]
 |[],_::_,h=>by unfold wD at h;exact h.elim
 |_::_,[],h=>by unfold wD at h;exact h.elim
def wD.get{H:Hp}:∀ {xs:List V} {ds:List Dt} {i:Nat} {d:Dt},wD H xs ds->ds[i]? =some d->∃x,xs[i]? =some x/\Is H x d
 |x::xs,d::ds,0,_,h,e=>by unfold wD at h;simp at e;subst e;exact⟨x,rfl,h.1⟩
 |_::xs,_::ds,i+1,d,h,e=>by unfold wD at h;simpa using wD.get (i:=i) (d:=d) h.2 (by simpa using e)
 |[],[],_,_,_,e=>by simp at e
 |[],_::_,_,_,h,_=>by unfold wD at h;exact h.elim
 |_::_,[],_,_,h,_=>by unfold wD at h;exact h.elim
def zU{t u:TS}{D:aYo}{σ:L2.St}{H:Hp}(R:L2.St->Hp->Prop)(d:∀a b,R a b->u D a b)(c:(∀a b,R a b->u D a b)->t {D with nx:=u D} σ H):bYz t u D σ H:=c d
def onT{c:Bool}{A B:Prop}(e:c=true)(h:A):if c=true then A else B:=by rw[e];exact h
def onF{c:Bool}{A B:Prop}(e:c=false)(h:B):if c=true then A else B:=by rw[e];exact h
def z0:([]:List V).length<=cQW:=by decide
def z1{a:V}: [a].length<=cQW:=by show 1<=cQW;decide
def z2{a b:V}: [a,b].length<=cQW:=by show 2<=cQW;decide
def z3{a b c:V}: [a,b,c].length<=cQW:=by show 3<=cQW;decide
def z4{a b c d:V}: [a,b,c,d].length<=cQW:=by show 4<=cQW;decide
def z5{a b c d e:V}: [a,b,c,d,e].length<=cQW:=by show 5<=cQW;decide
def zn{l:List V}(h:l.length<=100000):l.length<=cQW:=by rw[cQZ];omega
def zlt{l:List V}(h:l.length<=100000):l.length<cQW:=by rw[cQZ];omega
def xJ.fresh{H a:Hp}(k:xJ H a){p:Nat}(h:a p=none):H p=none:=by
 cases e:H p with
 |none=>rfl
 |some o=>rw[k _ _ e]at h;cases h
def yE{H:Hp}{p:Nat}(h:H p=none)(o:HO):xJ H (upd H p o):=λb u q=>by rw[yJ (yI q h)];exact q
end L2
namespace Rvl
open PySem PyProof.Rows
section
variable {prog:cQT}{w:cQ2}{A:cXi}{E:cQx->cQA->Prop}{s:cQA}
end
end Rvl
namespace L2
open PySem PySem.Spec PyProof.Rows
section
variable {X:Cx}
end
end L2
namespace L2
open PySem PySem.Spec PyProof.Rows
def W6{n:Nat}{j:List Nat}{e:TT}{l:TE}{σ:St}{D:Nat}{Q:VK}{H:Hp}(p:Nat->Bool)(f:Nat->V)(A:H D=none)(hz:n<=cQW) (o:∀i,i<n->∀ (c:Hp)(R:Bool->Hp->Prop),(∀b,b≠D->c b=H b)->R (p i) c->e (sub σ j (some (.int (i:Nat)))) c R) (t:∀i,i<n->p i=true->∀ (c:Hp)(R:VK),(∀b,b≠D->c b=H b)->R (f i) c->l (sub σ j (some (.int (i:Nat)))) c R) (x:Q (.ref D) (upd H D (.lst (((cQJ n).filter p).map f)))):bVx (Itr 0 n) j e l σ D Q (upd H D (.lst [])):=by
 refine⟨λi m h c=>m=n - i/\i<=n/\h=((cQJ i).filter p).map f/\c=upd H D (.lst h),⟨n,by simp,cXz _,by simp,rfl⟩,?_⟩;rintro i m h c ⟨rfl,z,rfl,rfl⟩;refine⟨yB,?_⟩;by_cases a:i<n
 ·refine .inr ⟨a,λv B s=>?_⟩;obtain⟨u,q⟩:=s;subst u;subst q;rw[cZX];have d:∀b,b≠D->upd H D (.lst (((cQJ i).filter p).map f)) b=H b:=λb w=>yJ w;have g:(((cQJ i).filter p).map f).length<cQW:=by
   rw[cQB];have r:=cXu p (cQJ i);rw[cXp]at r;omega
  refine o i a _ _ d ?_;cases k:p i with
  |false=>show ∃y,_;refine⟨n - (i+1),by omega,rfl,a,?_,rfl⟩;rw[cZ2,cXK,cXY (by rw[k];decide)];simp
  |true=>show l _ _ _;refine t i a k _ _ d ⟨g,yB,n - (i+1),by omega,rfl,a,?_,by rw[qM]⟩;rw[cZ2,cXK,cXZ k];simp
 ·obtain rfl:i=n:=by omega
  exact .inl ⟨cQE _,x⟩
end L2
namespace Stree
open PySem PySem.W PyProof.Rows
def Asks{α:Type}(n:Nat)(lt:Nat->Nat->Bool):KasT α->(α->Prop)->Prop
 |.ret a,Q=>Q a
 |.ask i j k,Q=>i<n/\j<n/\Asks n lt (k (lt i j)) Q
def Asks.bind{α β:Type}{n:Nat}{lt:Nat->Nat->Bool}{f:α->KasT β}{Q:β->Prop}:∀ {t:KasT α} {R:α->Prop},Asks n lt t R->(∀a,R a->Asks n lt (f a) Q)->Asks n lt (t.bind f) Q
 |.ret a,R,h,hf=>hf a h
 |.ask i j k,R,h,hf=>⟨h.1,h.2.1,Asks.bind (t:=k (lt i j)) h.2.2 hf⟩
def Asks.wp{α:Type}{n:Nat}{lt:Nat->Nat->Bool}{b:Nat->Nat->(Bool->cQA->Prop)->cQA->Prop}{s:cQA}{G:α->cQA->Prop}(c:∀i j C,i<n->j<n->C (lt i j) s->b i j C s):
  ∀ {t:KasT α} {R:α->Prop},Asks n lt t R->(∀a,R a->G a s)->t.kasWp b G s
 |.ret a,R,h,hf=>hf a h
 |.ask i j k,R,h,hf=>c i j _ h.1 h.2.1 (Asks.wp c (t:=k (lt i j)) h.2.2 hf)
section
variable {n:Nat}{r:Nat->Int}{p:Array Nat}
abbrev aQD(r:Nat->Int):Nat->Nat->Bool:=λi j=>decide (r i<r j)
abbrev R(r:Nat->Int)(p:Array Nat)(k:Nat):Int:=r (p.getD k 0)
structure Ok(n:Nat)(p:Array Nat):Prop where
 perm:p.toList.Perm (cQJ n)
def Ok.size(h:Ok n p):p.size=n:=by have:=h.perm.length_eq;simpa using this
def Ok.lt(h:Ok n p)(h0:0<n)(k:Nat):p.getD k 0<n:=by
 by_cases a:k<p.size
 ·have:p.toList[k]'(by simpa using a)∈p.toList:=cZk _;have:=cQ5.mp (h.perm.mem_iff.mp this);simpa[cZ9,a]using this
 ·simpa[cZ9,a]using h0
def Ok.ne(h:Ok n p){i j:Nat}(k:i<n)(g:j<n)(c:i≠j):p.getD i 0≠p.getD j 0:=by
 have f:=h.size;have d:p.toList.Nodup:=h.perm.nodup_iff.mpr cJS;intro e;have b:i<p.size:=by omega
 have a:j<p.size:=by omega
 simp[cZ9,b,a]at e;have:=(cZs (xs:=p.toList) (h₀:=by simpa using b) (h₁:=by simpa using a) d).mp (by simpa using e);exact c this
def Inj(n:Nat)(r:Nat->Int):Prop:=∀i j,i<n->j<n->r i=r j->i=j
def Ok.rne(h:Ok n p)(d:Inj n r){i j:Nat}(c:i<n)(b:j<n)(a:i≠j):R r p i≠R r p j:=λe=>
 h.ne c b a (d _ _ (h.lt (by omega) i) (h.lt (by omega) j) e)
def Srt(r:Nat->Int)(p:Array Nat)(k:Nat):Prop:=∀i j,i<j->j<k->R r p i<R r p j
def Dsc(r:Nat->Int)(p:Array Nat)(k:Nat):Prop:=∀i j,i<j->j<k->R r p j<R r p i
def Srt.one:Srt r p 1:=λi j b a=>by omega
def aZs(p:Array Nat)(k:Nat):p.getD k 0=(p[k]?).getD 0:=by simp[cZ9,cZ4];split<;> simp_all
def aZ9(h:Ok n p)(hr:Inj n r):∀ (f m:Nat),1<=m->m+f<=n->Srt r p m->Asks n (aQD r) (kas_asc p f m) (λm'=>m<=m'/\m'<=m+f/\Srt r p m'/\(m'<m+f->R r p m'<R r p (m' - 1)))
 |0,m,h1,h2,hs=>⟨cQE _,cQE _,hs,λz=>absurd z (by omega)⟩
 |f+1,m,h1,h2,hs=>by
  refine⟨h.lt (by omega) _,h.lt (by omega) _,?_⟩
  by_cases c:r (p.getD m 0)<r (p.getD (m - 1) 0)
  ·have e:aQD r (p.getD m 0) (p.getD (m - 1) 0)=true:=decide_eq_true c
   rw[e];show Asks n (aQD r) (ite _ _ _) _;rw[if_pos rfl]
   exact⟨cQE _,by omega,hs,λ_=>c⟩
  ·have e:aQD r (p.getD m 0) (p.getD (m - 1) 0)=false:=decide_eq_false c
   rw[e];show Asks n (aQD r) (ite _ _ _) _;rw[if_neg (by decide)]
   have hne:=h.rne hr (i:=m) (j:=m - 1) (by omega) (by omega) (by omega)
   have hlt:R r p (m - 1)<R r p m:=by
    have:¬R r p m<R r p (m - 1):=c
    omega
   have hs':Srt r p (m+1):=λi j hij hj=>by
    by_cases hjm:j<m
    ·exact hs i j hij hjm
    ·have:j=m:=by omega
     subst this
     by_cases hi:i=j - 1
     ·rw[hi];exact hlt
     ·have:=hs i (j - 1) (by omega) (by omega);omega
   have z:=aZ9 h hr f (m+1) (by omega) (by omega) hs'
   have e2:m+1+f=m+(f+1):=by omega
   rw[e2]at z
   exact Asks.mono z λm' ⟨a,b,c,d⟩=>⟨by omega,b,c,d⟩
where
 Asks.mono {α:Type} {n:Nat} {lt:Nat->Nat->Bool} {Q Q':α->Prop}:∀ {t:KasT α},Asks n lt t Q->(∀a,Q a->Q' a)->Asks n lt t Q'
  |.ret a,h,hf=>hf a h
  |.ask i j k,h,hf=>⟨h.1,h.2.1,Asks.mono (t:=k (lt i j)) h.2.2 hf⟩
def aYH(h:Ok n p)(q:Inj n r):∀ (f m:Nat),1<=m->m+f<=n->Dsc r p m->Asks n (aQD r) (kas_desc f p m 0) (λz=>z.1=p/\z.2.2=0/\m<=z.2.1/\z.2.1<=m+f/\Dsc r p z.2.1)
 |0,m,h1,h2,hs=>⟨rfl,rfl,cQE _,cQE _,hs⟩
 |f+1,m,h1,h2,hs=>by
  refine⟨h.lt (by omega) _,h.lt (by omega) _,?_⟩;by_cases c:r (p.getD m 0)<r (p.getD (m - 1) 0)
  ·have e:aQD r (p.getD m 0) (p.getD (m - 1) 0)=true:=decide_eq_true c;rw[e];show Asks n (aQD r) (ite _ _ _) _;rw[if_pos rfl,if_neg (by omega)];have o:Dsc r p (m+1):=λi j l w=>by
    by_cases k:j<m
    ·exact hs i j l k
    ·have:j=m:=by omega
     subst this;have t:R r p j<R r p (j - 1):=c;by_cases v:i=j - 1
     ·rw[v];exact t
     ·have:=hs i (j - 1) (by omega) (by omega);omega
   have z:=aYH h q f (m+1) (by omega) (by omega) o;have s:m+1+f=m+(f+1):=by omega
   rw[s]at z;exact aZ9.Asks.mono z λz ⟨a,b,c,d,e⟩=>⟨a,b,by omega,d,e⟩
  ·have e:aQD r (p.getD m 0) (p.getD (m - 1) 0)=false:=decide_eq_false c;rw[e];show Asks n (aQD r) (ite _ _ _) _;rw[if_neg (by decide)];refine⟨h.lt (by omega) _,h.lt (by omega) _,?_⟩;have u:=h.rne q (i:=m) (j:=m - 1) (by omega) (by omega) (by omega);have g:R r p (m - 1)<R r p m:=by
    have:¬R r p m<R r p (m - 1):=c;omega
   have e:aQD r (p.getD (m - 1) 0) (p.getD m 0)=true:=decide_eq_true g;rw[e];show Asks n (aQD r) (ite _ _ _) _;rw[if_pos rfl];exact⟨rfl,rfl,cQE _,Nat.le_add_right _ _,hs⟩
def bKp{m:Nat}(a:m<=p.size)(k:Nat)(b:k<m):R r (kas_rev p 0 m) k=R r p (m - 1 - k):=by
 unfold R kas_rev;rw[aZs,aZs,getElem?_mirror_all a,if_pos ⟨cXz _,b⟩,Nat.zero_add]
def bVg(h:Ok n p)(m:Nat):Ok n (kas_rev p 0 m):=⟨(cVU.mp (mirror_perm p 0 m _)).trans h.perm⟩
def bJI(h:Ok n p)(o:Inj n r){m:Nat}(l:1<=m)(e:m<=n)(f:Dsc r p m):Asks n (aQD r) (kas_tail3 m n p) (λz=>1<=z.1/\z.1<=n/\Ok n z.2/\Srt r z.2 z.1):=by
 have d:Srt r (kas_rev p 0 m) m:=λi j k g=>by rw[bKp (by rw[h.size];exact e) i (by omega),bKp (by rw[h.size];exact e) j g];exact f _ _ (by omega) (by omega)
 refine Asks.bind (aZ9 (bVg h m) o (n - m) m l (by omega) d) λm' ⟨a,b,c,_⟩=>?_;exact⟨by omega,by omega,bVg h m,c⟩
def bX3(h:Ok n p)(g:Inj n r)(y:1<=n):Asks n (aQD r) (kas_count n p) (λz=>1<=z.1/\z.1<=n/\Ok n z.2/\Srt r z.2 z.1):=by
 refine Asks.bind (aZ9 h g (n - 1) 1 (cQE _) (by omega) Srt.one) λm ⟨a,b,c,d⟩=>?_;by_cases e:m=n
 ·rw[if_pos (by simpa using e)];exact⟨a,by omega,h,c⟩
 ·rw[if_neg (by simpa using e)];by_cases o:m > 1
  ·rw[if_pos o];refine⟨h.lt (by omega) _,h.lt (by omega) _,?_⟩;have f:R r p 0<R r p (m - 1):=c 0 (m - 1) (by omega) (by omega);have u:aQD r (p.getD 0 0) (p.getD (m - 1) 0)=true:=decide_eq_true f;rw[u];show Asks n (aQD r) (ite _ _ _) _;rw[if_pos rfl];exact⟨a,by omega,h,c⟩
  ·rw[if_neg o];have s:m=1:=by omega
   subst s;have w:=d (by omega);refine Asks.bind (aYH h g (n - 2) 2 (by omega) (by omega) ?_) λz ⟨z1,z2,z3,z4,z5⟩=>?_
   ·intro i j v l;have x:i=0:=by omega
    have l:j=1:=by omega
    subst x;subst l;exact w
   ·obtain⟨q,k,t⟩:=z;simp only at z1 z2 z3 z4 z5;subst z1;subst z2;rw[if_neg (by simp)];exact bJI h g (by show 1<=k;omega) (by show k<=n;omega) z5
def aZE(h:Ok n p)(q:Inj n r){k:Nat}(s:k<n)(b:Srt r p k):∀ (f l u:Nat),l<=u->u<=k->u - l<=f->(∀i,i<l->R r p i<R r p k)->(∀i,u<=i->i<k->R r p k<R r p i)->
  Asks n (aQD r) (kas_place p k f l u) (λo=>o<=k/\(∀i,i<o->R r p i<R r p k)/\∀i,o<=i->i<k->R r p k<R r p i)
 |0,l,u,h1,h2,h3,h4,h5=>⟨by omega,h4,λi g a=>h5 i (by omega) a⟩
 |f+1,l,u,h1,h2,h3,h4,h5=>by
  unfold kas_place;by_cases c:l≥u
  ·rw[if_pos c];exact⟨by omega,h4,λi g a=>h5 i (by omega) a⟩
  ·rw[if_neg c];refine⟨h.lt (by omega) _,h.lt (by omega) _,?_⟩;have w:(l+u) / 2<u:=by omega
   have hl:l<=(l+u) / 2:=by omega
   by_cases d:r (p.getD k 0)<r (p.getD ((l+u) / 2) 0)
   ·have e:aQD r (p.getD k 0) (p.getD ((l+u) / 2) 0)=true:=decide_eq_true d;rw[e];show Asks n (aQD r) (ite _ _ _) _;rw[if_pos rfl];refine aZE h q s b f l _ hl (by omega) (by omega) h4 λi g a=>?_;have t:R r p k<R r p ((l+u) / 2):=d;by_cases m:i=(l+u) / 2
    ·rw[m];exact t
    ·have:=b ((l+u) / 2) i (by omega) a;omega
   ·have e:aQD r (p.getD k 0) (p.getD ((l+u) / 2) 0)=false:=decide_eq_false d;rw[e];show Asks n (aQD r) (ite _ _ _) _;rw[if_neg (by decide)];have t:¬R r p k<R r p ((l+u) / 2):=d;have v:=h.rne q (i:=k) (j:=(l+u) / 2) (by omega) (by omega) (by omega);refine aZE h q s b f _ u (by omega) h2 (by omega) (λi g=>?_) h5;by_cases m:i=(l+u) / 2
    ·rw[m];omega
    ·have:=b i ((l+u) / 2) (by omega) (by omega);omega
def bKo{k l:Nat}(h:k<p.size)(hl:l<=k)(i:Nat):R r (bubble p k (k - l)) i=if i=l then R r p k else if l<i/\i<=k then R r p (i - 1)else R r p i:=by
 have e:=getElem?_bubble h (k - l) (by omega) i;rw[show k - (k - l)=l by omega]at e;have d:∀q:Array Nat,∀a b:Nat,∀c:Array Nat,q[a]? =c[b]? ->R r q a=R r c b:=λq a b c z=>by unfold R;rw[aZs,aZs,z]
 by_cases f:i=l
 ·rw[if_pos f]at e ⊢;exact d _ _ _ _ e
 ·rw[if_neg f]at e ⊢;by_cases g:l<i/\i<=k
  ·rw[if_pos g]at e ⊢;exact d _ _ _ _ e
  ·rw[if_neg g]at e ⊢;exact d _ _ _ _ e
def bJZ(q:Inj n r):∀ (f k:Nat)(p:Array Nat),Ok n p->k+f=n->Srt r p k->Asks n (aQD r) (kas_bin f p k) (λd=>Ok n d/\Srt r d n)
 |0,k,p,h,e,hs=>⟨h,by rw[<- e];exact hs⟩
 |f+1,k,p,h,e,hs=>by
  refine Asks.bind (aZE h q (k:=k) (by omega) hs k 0 k (by omega) (cQE _) (by omega) (λi m=>absurd m (by omega)) (λi m b=>absurd b (by omega))) λl ⟨h1,h2,h3⟩=>?_;refine bJZ q f (k+1) _ ⟨(cVU.mp (bubble_perm p k _)).trans h.perm⟩ (by omega) λi j t u=>?_;have c:k<p.size:=by rw[h.size];omega
  rw[bKo c h1,bKo c h1];by_cases o:i=l
  ·rw[if_pos o];by_cases a:j=l
   ·omega
   ·rw[if_neg a,if_pos ⟨by omega,by omega⟩];exact h3 _ (by omega) (by omega)
  ·rw[if_neg o];by_cases a:j=l
   ·rw[if_pos a,if_neg (by omega)];exact h2 i (by omega)
   ·rw[if_neg a];by_cases g:l<i/\i<=k
    ·rw[if_pos g,if_pos ⟨by omega,by omega⟩];exact hs _ _ (by omega) (by omega)
    ·rw[if_neg g];by_cases s:l<j/\j<=k
     ·rw[if_pos s];by_cases cl:i=j - 1
      ·omega
      ·exact hs _ _ (by omega) (by omega)
     ·rw[if_neg s];exact hs _ _ (by omega) (by omega)
def bW3(a:Inj n r)(b:1<=n):Asks n (aQD r) (kas_sort n) (λp=>Ok n p/\Srt r p n):=by
 have h0:Ok n (cXI (cQJ n)):=⟨by simp⟩;refine Asks.bind (bX3 h0 a b) λz ⟨h1,h2,h3,h4⟩=>?_;by_cases c:z.1<n
 ·rw[if_pos c,Nat.max_eq_left h1];exact bJZ a _ _ _ h3 (by omega) h4
 ·rw[if_neg c];exact⟨h3,by rw[show n=z.1 by omega];exact h4⟩
def aJS(f:Inj n r)(g:1<=n):Asks n (aQD r) (kas_sort n) (λp=>p.toList.Perm (cQJ n)/\p.toList.Pairwise (λi j=>r i<r j)):=by
 refine aZ9.Asks.mono (bW3 f g) λp ⟨h1,h2⟩=>⟨h1.perm,?_⟩;rw[cJc];intro i j e d b;have c:i<p.size:=by simpa using e
 have a:j<p.size:=by simpa using d
 have z:=h2 i j b (by rw[<- h1.size];exact a);simpa[R,cZ9,c,a]using z
end
end Stree
namespace Stree
open PySem PySem.W PySem.Calls PyProof.Rows
section
variable {prog:cQT}{w:cQ2}{A:cXi}{E:cQx->cQA->Prop}
def aJk{f:cQx}{vs:List cQx}{kS:Nat}{J:List cQx->cQA->Prop}{body:cQx->PUnit->Sem (ForInStep PUnit)}
  (e:∀a s v,J a s->vs[a.length]? =some v->cQF (cQH prog w) A (body v ⟨⟩) (λr b=>r= .yield ⟨⟩/\∃k,J (a++ [k]) b) E s):
  ∀ (r a:List cQx)(s:cQA),vs.drop a.length=r->a.length<=vs.length->J a s->cQF (cQH prog w) A (forIn r PUnit.unit body) (λ_ b=>∃a,a.length=vs.length/\J a b) E s
 |[],a,s,hr,hle,hJ=>by rw[List.forIn_nil];refine cQC ⟨a,?_,hJ⟩;have:=congrArg cZH hr;rw[cVp]at this;simp at this;omega
 |v::r,a,s,hr,hle,hJ=>by
  rw[cVy];have c:vs[a.length]? =some v:=by have:=congrArg (λl=>l[0]?) hr;simpa using this
  have g:a.length<vs.length:=by
   rcases cJD a.length vs.length with h|h
   ·exact h
   ·rw[cXa h]at c;cases c
  refine cQy (cXD (e a s v hJ c) (λq b i=>?_) λ_ _ x=>x);obtain⟨rfl,k,d⟩:=i;show cQF (cQH prog w) A (forIn r PUnit.unit body) _ E b;refine aJk (kS:=kS) (f:=f) e r (a++ [k]) b ?_ (by rw[cQ0,cXL];omega) d;rw[cQ0,cXL,List.drop_add_one_eq_tail_drop,hr];rfl
def bYg{s:cQA}{a:Nat}{vs:List cQx}{f:cQx}{b:Bool}{P:PySem.Fin->cQA->Prop}{n0:Nat}(W:s.heap.get? a=some (cXf "list" vs.toArray n0))(b0:vs.length<64)(J:Nat->List cQx->cQA->Prop) (h0:∀n q,(∀c o,c≠a->s.heap.get? c=some o->q.get? c=some o)->q.get? a=some (cXf "list" #[] n)->q.get? (s.heap.objs.size+1)=some (cXf "list" #[] 0)->J n [] {s with heap:=q}) (hget:∀n g l,J n g l->(∃e,l.heap.get? (s.heap.objs.size+1)=some (cXf "list" g.toArray e))/\l.heap.get? a=some (cXf "list" #[] n)) (hcall:∀n g l v,J n g l->vs[g.length]? =some v->cQF (cQH prog w) A (call f [v]) (λk m=>(∃e,m.heap.get? (s.heap.objs.size+1)=some (cXf "list" g.toArray e))/\ ∀q c,cZC (s.heap.objs.size+1) m.heap q->q.get? (s.heap.objs.size+1)=some (cXf "list" (g++ [k]).toArray c)->J n (g++ [k]) {m with heap:=q}) (λ_ _=>False) l) (hend:∀n g l,J n g l->g.length=vs.length->∃r:Nat->Int,Inj vs.length r/\ (2<=vs.length->∃κ,(∀Q:SortKind->cQA->Prop,Q κ l->cQF (cQH prog w) A (keyKind' g.toArray) Q (λ_ _=>False) l)/\∀i j C,i<vs.length->j<vs.length->C (decide (r i<r j)) l->kas_ask prog w A κ (katRev b g) i j C l)/\ ∀ (p:List Nat) q c y,p.Perm (cQJ vs.length)->p.Pairwise (λi j=>r i<r j)->(∀d,d≠a->d≠s.heap.objs.size+1->q.get? d=l.heap.get? d)->q.get? (s.heap.objs.size+1)=some (cXf "list" #[] c)-> q.get? a=some (cXf "list" (katRev b (p.map λi=>(katRev b vs).getD i Value.none)).toArray y)->P (.done (.ret .none)) {l with heap:=q}): cQF (cQH prog w) A (ksk_tree a f b) P E s:=by
 have ha:a<s.heap.objs.size:=cQN W;have O:a≠s.heap.objs.size+1:=cQV (cXF ha);obtain⟨n,M⟩:∃n,(s.heap.update a (cXm λ_=>(#[]:Array cQx))).get? a=some (cXf "list" #[] n):=⟨_,cJw W λ_=> #[]⟩;have U:((s.heap.update a (cXm λ_=>(#[]:Array cQx))).push (cXf "tuple" vs.toArray 0)).objs.size=s.heap.objs.size+1:=by rw[size_push',cVm]
 unfold ksk_tree;refine cQy (listItems_at W rfl ?_);refine cQy (cJX W rfl ?_ (by rw[cQQ,cQZ];omega) (cXz _));refine cQy (seqEpoch_at M rfl ?_);refine cQy (wpAny_newTuple ?_ (by show vs.length<=_;rw[cQZ];omega));refine cQy (cJt ?_ (cXz _));refine cXP ?_;have J0:=h0 n (((s.heap.update a (cXm λ_=>(#[]:Array cQx))).push (cXf "tuple" vs.toArray 0)).push (cXf "list" #[] 0))
  (λc o hc e=>cQD _ (cQD _ ((cQ9 _ _ (cXg hc)).trans e)))
  (cQD _ (cQD _ M)) (by rw[<- U];exact cQY _ rfl)
 show cQF _ _ (ksk_rest a f b vs.toArray n (.ref ((s.heap.update a (cXm λ_=>(#[]:Array cQx))).push (cXf "tuple" vs.toArray 0)).objs.size)) _ _ _;rw[U];unfold ksk_rest;refine cQy (wpAny_rule ?_);first
  |rw[List.forIn_toArray]
  |(rw[<- Array.forIn_toList];simp only[cVL])
  |rw[<- Array.forIn_toList]
 refine cQy (cXD (aJk (f:=f) (kS:=s.heap.objs.size+1) (J:=J n) (vs:=vs) (λg l v Y hv=>?_) vs [] _ (by simp) (cXz _) J0) (λ_ l hd=>?_) λ_ _ x=>x)
 ·have b1:g.length<vs.length:=by
   rcases cJD g.length vs.length with h|h
   ·exact h
   ·rw[cXa h]at hv;cases hv
  refine cQy (cJZ (cXD (hcall n g l v Y hv) (λk m hk=>?_) λ_ _ hF=>hF.elim));obtain⟨⟨e,nk⟩,c⟩:=hk;have s1:=cX8 m.heap (s.heap.objs.size+1) (cXm (·.push k));have ea:(cXI g).push k=cXI (g++ [k]):=by simp
  obtain⟨y,I⟩:∃y,(m.heap.update (s.heap.objs.size+1) (cXm (·.push k))).get? (s.heap.objs.size+1)=some (cXf "list" (cXI (g++ [k])) y):=⟨_,by rw[<- ea];exact cJw nk (·.push k)⟩;try dsimp only
  refine cQy (cJX nk rfl ?_ (by rw[cQQ,cQZ];omega) (cQ7 (cJi (Array.size_push ..)) (by rw[cQQ,cQZ];omega)));exact cQC ⟨rfl,k,c _ y s1 I⟩
 ·obtain⟨g,hl,Y⟩:=hd;obtain⟨⟨e,F⟩,a0⟩:=hget n g l Y;try dsimp only
  refine cQy (listItems_at F rfl ?_);obtain⟨r,hr,V,R⟩:=hend n g l Y hl;have step:∀t:Sem PySem.Fin,cQF (cQH prog w) A t P E l->cQF (cQH prog w) A (if b=true then(do let _ <- rule "list.sort.reverse";t)else t) P E l:=by
   intro t ht;split
   ·exact cQy (wpAny_rule ht)
   ·exact ht
  have G:(katRev b g).length=(katRev b vs).length:=by rw[kat_len,kat_len,hl]
  have D:∀ (X:SortSt)(p:List Nat),p.Perm (cQJ vs.length)->p.Pairwise (λi j=>r i<r j)->(arrOf X).map (·.2)=cXI (p.map λi=>(katRev b vs).getD i Value.none)->failedOf X=none->
    cQF (cQH prog w) A (ksk_tail a b n (.ref (s.heap.objs.size+1)) X) P E l:=by
   intro X p z H S hf
   have a5:p.length=vs.length:=by rw[z.length_eq,cXp]
   obtain⟨ck,a9⟩:∃ck,(l.heap.update (s.heap.objs.size+1) (cXm λ_=>(#[]:Array cQx))).get? (s.heap.objs.size+1)=some (cXf "list" #[] ck):=⟨_,cJw F λ_=> #[]⟩
   have na:(l.heap.update (s.heap.objs.size+1) (cXm λ_=>(#[]:Array cQx))).get? a=some (cXf "list" #[] n):=(cQ9 _ _ (cXg O)).trans a0
   obtain⟨y,I⟩:∃y,((l.heap.update (s.heap.objs.size+1) (cXm λ_=>(#[]:Array cQx))).update a (cXm λ_=>cXI (katRev b (p.map λi=>(katRev b vs).getD i Value.none)))).get? a=some (cXf "list" (cXI (katRev b (p.map λi=>(katRev b vs).getD i Value.none))) y):=
    ⟨_,cJw na λ_=>cXI (katRev b (p.map λi=>(katRev b vs).getD i Value.none))⟩
   have a6:(cXI (katRev b (p.map λi=>(katRev b vs).getD i Value.none))).size=vs.length:=by rw[cQQ,kat_len,cQB,a5]
   unfold ksk_tail
   try dsimp only
   rw[S,kat_outs]
   refine cQy (cJX F rfl ?_ (by rw[cQQ,cQZ];omega) (cXz _))
   refine cQy (wpAny_letGo ?_)
   refine cQy (seqEpoch_at na rfl ?_)
   refine cQy (cJX na rfl ?_ (cXz _) (cQ7 (cJi a6) (by rw[cQZ];omega)))
   rw[hf]
   simp only[bne_self_eq_false,Bool.false_eq_true,if_false]
   refine cQC (R p _ ck y z H (λd h1 u=>?_) ?_ I)
   ·exact(cQ9 _ _ (cXg h1)).trans (cQ9 _ _ (cXg u))
   ·exact(cQ9 _ _ O).trans a9
  unfold ksk_end;try dsimp only
  refine step _ ?_;rw[kat_pairs b hl];by_cases u:vs.toArray.size<2
  ·rw[if_pos u,if_pos u];refine cQy (cQC ?_);refine cQy (cQC ?_);have K:vs.length<2:=by rw[cQQ]at u;exact u
   refine D _ (cQJ vs.length) (List.Perm.refl _) ?_ ?_ rfl
   ·rw[cJc];intro i j Z hj b2;rw[cXp]at Z hj;omega
   ·show((cXI (katRev b g)).zip (cXI (katRev b vs))).map (·.2)=_;apply Array.toList_inj.mp;rw[Array.toList_map,Array.toList_zip];simp only[cVL];have n:(List.zip (katRev b g) (katRev b vs)).map (·.2)=katRev b vs:=List.map_snd_zip (cJi G.symm);rw[n];apply cZN;intro i;rw[cQR];by_cases Z:i<vs.length
    ·have L:i<(katRev b vs).length:=by rw[kat_len];exact Z
     rw[cZB Z];simp[cXk,cQw L]
    ·have L:(katRev b vs).length<=i:=by rw[kat_len];omega
     rw[cXa L,cXa (by rw[cXp];omega)];rfl
  ·have K:2<=vs.length:=by rw[cQQ]at u;omega
   rw[if_neg u,if_neg u];obtain⟨κ,hκ,N⟩:=V K;refine cQy (cXD (hκ (λk m=>k=κ/\m=l) ⟨rfl,rfl⟩) (λk m hq=>?_) λ_ _ x=>x.elim);obtain⟨rfl,rfl⟩:=hq;have a8:(kas_sort (katRev b vs).length).kasWp (kas_ask prog w A k (katRev b g)) (λp T=>T=m/\p.toList.Perm (cQJ vs.length)/\p.toList.Pairwise (λi j=>r i<r j)) m:=by rw[kat_len];exact Asks.wp (lt:=aQD r) N (aJS hr (by omega)) λp hp=>⟨rfl,hp⟩
   refine cQy (cXD (kat_run (Q:=λB T=>∃p:Array Nat,arrOf B=p.map (kas_item ((cXI (katRev b g)).zip (cXI (katRev b vs))))/\failedOf B=none/\
     T=m/\p.toList.Perm (cQJ vs.length)/\p.toList.Pairwise (λi j=>r i<r j))
    G (by rw[kat_len];exact K) (by rw[kat_len];exact b0) (λp' B T a1 a2 a3 a4=>⟨p',a2,a3,a4⟩) a8) ?_ λ_ _ x=>x)
   rintro⟨⟨⟩,B⟩ T ⟨p,a7,hf,rfl,z,H⟩;try dsimp only
   exact D _ p.toList z H (kat_snds G a7) hf
end
end Stree
namespace L2
open PySem PySem.Spec PyProof.Rows
abbrev bYt(X:Cx)(A:cXi)(N:List Str)(qual:Str)(sc:cZL)(L q:Nat)(cd:cQx)(cl:List (Str×Nat))(s:cQA)(H:Hp):Cx:=
 {X with A:=A.deeper (PySem.W.envX qual sc L q cd cl),N:=N,s₀:=s,H₀:=H,env:=PySem.W.envX qual sc L q cd cl,outer:=X.stack,stack:=PySem.W.envX qual sc L q cd cl::X.stack,ex:= [],fn:=λ_=>false,calm:=true,pn:= [],xe:=λ_ _=>False}
section
variable {X:Cx}{pins:List (Nat×Obj)}{σ:St}{H:Hp}{s:cQA}
def bZl{A:cXi}{x:Str}{names:List Str}{M:List Nat}{f:cZL}{cl:List (Str×Nat)}{name qual:Str}{d:Arguments}{body:Expr}{pm R:cQx}{q n:Nat}{te:TE}{v:V}{u:cQx}{Q:VK} (I:Inv X pins σ H s) (hA:A.frames=some X.stack) (hd:A.handled=none) (G:A.depth<recursionLimit) (S:xO X.N X.env.scope x names M f) (a5:f.isCoroutine=false) (O:f.isGenerator=false) (a:∀y c,cl.lookup y=some c->X.env.cells.lookup y=some c) (B:∀y,(y,NameKind.free)∈f.names->∃c,cl.lookup y=some c) (ho:s.heap.get? q=some (cZK name qual d body f cl pm n R)) (a4:s.heap.CodeRec (.ref n) qual) (E:∀u:cQx,bindArgs (PySem.W.kla_fn name qual d body f cl pm (.ref n) R) ⟨[u],[]⟩=pure [(x,u)]) (he:∀A L cd s H,PE (bYt X A (x::names) qual f L q cd cl s H) body te) (r:wE v u) (h:te (sub σ M (some v)) H Q): cQF (cQH X.prog X.w) A (call (.ref q) [u]) (EP X pins σ Q) (λ_ _=>False) s:=by
 have a3:cZO (cQH X.prog X.w) A (.call (.ref q) ⟨[u],[]⟩) (λr s'=>match r with|.ok (.ret u)=>EP X pins σ Q u s'|_=>False) s:=by
  refine PySem.W.kla_callFunE G ho rfl a5 O rfl a4 ?_;rw[E u];refine cQC (wpAny_newFunctionEnv S.nocell (λy hy=>by rw[cQL.mp hy];exact S.var) (λC a1 a0=>?_) S.kind);have keep:∀b o,s.heap.get? b=some o->C.get? b=some o:=λb o e=>a0.extBut b o (cQV (cQN e)) (cQD _ e);refine⟨I.nolimit.keeps keep,?_⟩;show cZO _ _ (.expr body (PySem.W.envX qual f s.heap.objs.size q (.ref n) cl)) _ _;have a2:(bYt X A (x::names) qual f s.heap.objs.size q (.ref n) cl s H).Ok:=by
   refine⟨I.ok.mod,S.kind,rfl,rfl,cQE _,?_,?_,?_,λ_=>hd,Around.frames_deeper hA,.inr ⟨rfl,rfl⟩,?_,I.bs,cQ7 I.ok.bsz I.sz,?_,?_,I.stack,I.stkFree⟩
   ·exact λy z c Y Z=>I.ok.inj y z c (a y c Y) (a z c Z)
   ·intro y hy;have g:f.names.lookup y=some .cell\/f.names.lookup y=some .free:=hy;rcases g with g|g
    ·exact absurd rfl (S.nocell _ (cX9 g))
    ·exact B y (cX9 g)
   ·exact λy c h _=>by cases h
   ·exact λb E=>absurd (show b∈([]:List Nat)from E) (by simp)
   ·exact λb o _ E=>absurd (show b∈([]:List Nat)from E) (by simp)
   ·exact λb E=>absurd (show b∈([]:List Nat)from E) (by simp)
  have IY:Inv (bYt X A (x::names) qual f s.heap.objs.size q (.ref n) cl s H) [] (sub σ M (some v)) H {s with heap:=C,toks:=s.toks+ [(x,u)].length}:=by
   refine⟨a2,rfl,I.bare,Un.kept keep,⟨_,a1,?_⟩,?_,I.hok.fresh (cQE _),λy c e=>I.freeC y c (a y c e),λp hp=>absurd (show p∈([]:List (Nat×Obj))from hp) (by simp),I.hok.kept keep,?_⟩
   ·intro i y t Y Z h3;cases i with
    |zero=>
     have D:x=y:=by simpa using Y
     have K:v=t:=by have z:(some (some v):Option (Option V))=some (some t):=Z;cases z;rfl
     subst D;subst K;exact⟨u,r,.inl ⟨S.var,by simp[cZV]⟩⟩
    |succ j=>
     have D:names[j]? =some y:=Y;obtain⟨T,e1,e2,U⟩:=S.from_ j y D;have K:σ[T]? =some (some t):=by
      have z:(M.map λi=>(σ[i]?).join)[j]? =some (some t):=Z;rw[cQR,e1]at z;have l:(σ[T]?).join=some t:=cQS z;cases q:σ[T]? with
      |none=>rw[q]at l;cases l
      |some o=>rw[q]at l;rw[show o=some t from l]
     obtain⟨m,hn,hl⟩:=I.loc;have P:Vis X.env.scope y:= .inr (S.free _ U rfl);obtain⟨u',ru,lk⟩:=hl T y t e2 K P;refine⟨u',ru,.inr ⟨?_,?_⟩⟩
     ·exact .inr (S.flk _ U rfl)
     ·rcases lk with⟨k,_⟩|⟨k,c,e,z⟩
      ·rcases S.free _ U rfl with z|z
       ·have l:X.env.kindOf y=some .cell:=z;rw[k]at l;cases l
       ·have l:X.env.kindOf y=some .free:=z;rw[k]at l;cases l
      ·obtain⟨n,e'⟩:=B y U;have:=a y n e';rw[e]at this;cases this;exact⟨c,e',z.keeps keep⟩
   ·intro y c e;obtain⟨v,z⟩:=I.cell y c (a y c e);exact⟨v,z.keeps keep⟩
   ·show(sub σ M (some v)).length=(x::names).length;simp[sub,S.len]
  refine PySem.W.kla_codeExpr (cXD (he A s.heap.objs.size (.ref n) s H [] _ (sub σ M (some v)) H Q IY h) (λw s' F=>?_) (λ_ _ z=>z.elim));obtain⟨t,H',J,rv,q⟩:=F;exact I.after ⟨t,H',J.os,J.bare,J.base,J.hok,rv,q⟩
 refine cJU (cZv a3 λr s' F=>?_);cases r with
 |error e=>exact F
 |ok fl=>
  cases fl with
  |ret u=>exact F
  |next=>exact F
  |brk=>exact F
  |cont=>exact F
end
end L2
namespace L2
open PySem PySem.Spec PyProof.Rows
def aYA(c:Nat)(qual:Str):HO:= .ext λh=>h.CodeRec (.ref c) qual
def bKM(q:Nat)(o:Obj):HO:= .ext λh=>h.get? q=some o
def bX2{P:cQT}{w:cQ2}{H:Hp}{h:Heap}{c:Nat}{qual:Str}(r:h.CodeRec (.ref c) qual):zQ P w H h c (aYA c qual):=by
 obtain⟨q,o,s,t,e,b,d,n⟩:=id r;cases e;refine⟨r,⟨o,b⟩,λb d z k=>?_⟩;obtain⟨p,m,a,i,f,l,j,g⟩:=z;cases f;exact⟨_,m,a,i,rfl,k _ l,j,g⟩
def bQi{P:cQT}{w:cQ2}{H:Hp}{h:Heap}{q:Nat}{o:Obj}(r:h.get? q=some o):zQ P w H h q (bKM q o):=⟨r,⟨o,r⟩,λa b z k=>k _ z⟩
def Q6(pos:Pos)(qual:Str)(P:Nat)(H:Hp):Prop:=
 H P=some (.tbl #[])\/∃a,H P=some (.tbl (#[]++ #[cXR pos.line,cXR pos.col,.ref a]))/\H a=some (aYA a qual)
def zI(H c:Hp):Prop:=∀b o,(∀a,o≠ .tbl a)->H b=some o->c b=some o
def xJ.t{H a:Hp}(k:xJ H a):zI H a:=λb o _ e=>k b o e
def zI.refl(H:Hp):zI H H:=λ_ _ _ e=>e
def zI.trans{H f d:Hp}(a:zI H f)(b:zI f d):zI H d:=λc o n e=>b c o n (a c o n e)
def zI.lst{H b:Hp}(k:zI H b){a:Nat}{xs:List V}(h:H a=some (.lst xs)):b a=some (.lst xs):=k a _ (λ_ z=>nomatch z) h
def zI.tup{H b:Hp}(k:zI H b){a:Nat}{xs:List V}(h:H a=some (.tup xs)):b a=some (.tup xs):=k a _ (λ_ z=>nomatch z) h
def zI.ext{H b:Hp}(k:zI H b){a:Nat}{φ:Heap->Prop}(h:H a=some (.ext φ)):b a=some (.ext φ):=k a _ (λ_ z=>nomatch z) h
def zI.seq{K:cQz}{H b:Hp}{a:Nat}{xs:List V}(k:zI H b)(h:SqL K H a xs):SqL K b a xs:=by
 rcases h with h|h
 ·rcases h with h|⟨o,h⟩
  ·exact .inl (.inl (k.lst h))
  ·exact .inl (.inr ⟨o,k a _ (λ_ z=>nomatch z) h⟩)
 ·exact .inr h
def aV9:PySem.TriplesOk (#[]:Array cQx).toList:=trivial
def aWa{a b:Int}{v:cQx}:PySem.TriplesOk ((#[]++ #[cXR a,cXR b,v]:Array cQx)).toList:=trivial
def aYt{pos:Pos}{v:cQx}:codeAmong pos ((#[]++ #[cXR pos.line,cXR pos.col,v]:Array cQx)).toList=some v:=by
 show(if((pos.line:Int)==pos.line && (pos.col:Int)==pos.col)=true then some v else _)=some v;simp
section
variable {X:Cx}{pins:List (Nat×Obj)}{σ:St}{H:Hp}{s:cQA}
def Inv.tab{P:Nat}{d more:Array cQx}{h':Heap}{t':Nat}(I:Inv X pins σ H s)(i:H P=some (.tbl d))(f:cVh P s.heap h')(j:h'.get? P=some {cls:= .none,data:= .fields (d++more) }): Inv X pins σ (upd H P (.tbl (d++more))) {s with heap:=h',toks:=t'}:=by
 have h:∀b,H b=none->b≠P:=λb n z=>by rw[z,i]at n;cases n
 have ne:∀b o,H b=some o->(∀d,o≠ .tbl d)->b≠P:=λb o e n z=>by subst z;rw[i]at e;cases e;exact n _ rfl
 refine I.un (t':=t') ⟨λb o e n _ _=>f b o (h b n) e,λb o e n _ _=>⟨o.slots,f b o (h b n) e⟩,λb o e n _=>by rw[yJ (h b n)];exact n,λb o e _=>?_,λb k e=>?_,λb o u e=>?_,λb l e=>?_⟩ λb u e=>?_
 ·by_cases a:b=P
  ·exact⟨_,by rw[a];exact j⟩
  ·exact⟨o,f b o a e⟩
 ·rw[yJ (ne b _ e λ_ z=>nomatch z)];exact e
 ·rw[yJ (ne b _ e λ_ z=>nomatch z)];exact e
 ·by_cases a:b=P
  ·subst a;rw[i]at e;cases e;exact⟨more,yB⟩
  ·exact⟨#[],by rw[yJ a,e];simp⟩
 ·by_cases a:b=P
  ·subst a;rw[yB]at e;cases e;exact j
  ·rw[yJ a]at e;refine(I.hok b u e).stay (λc v g q=>f c v ?_ q) (λc q=>?_) λc k q=>?_
   ·rcases g with rfl|g
    ·exact a
    ·exact ne c _ g λ_ z=>nomatch z
   ·rw[yJ (ne c _ q λ_ z=>nomatch z)];exact q
   ·rw[yJ (ne c _ q λ_ z=>nomatch z)];exact q
def bZm{name qual:Str}{d:Arguments}{body:Expr}{r:cZL}{c P:Nat}{pos:Pos}{fl:Nat}{cl:List (Str×Nat)}{E:cQx->cQA->Prop}{Q:cQx->cQA->Prop}(I:Inv X pins σ H s)(N:closureFor r X.env=pure cl)(i:X.env.code= .ref c) (C:cZF X.base c P) (hB:X.base.BuiltinsAt X.mg P) (hT:Q6 pos qual P H) (hq:∀ (q f:Nat)(g:cQx)(B:Hp)(s':cQA),Inv X pins σ B s'->H q=none->B q=some (bKM q (cZK name qual d body r cl ((X.mg "__name__").getD .none) f g))->B f=some (aYA f qual)->Q6 pos qual P B->zI H B->Q (.ref q) s'): cQF (cQH X.prog X.w) X.A (makeFunction name qual d (.expr body) r X.env [] [] [] pos fl) Q E s:=by
 have V:s.heap.Ns cQ8 X.mg:=I.ok.mod.glob.keeps I.bk;have hC:=C.keeps I.bk;obtain⟨bm,ob,b1,b2,b3,b4,b5,b6⟩:=hB;have F:s.heap.BuiltinsAt X.mg P:=⟨bm,ob,b1,b2,b3,b4,I.bk _ _ b5,b6⟩;rcases hT with p|⟨f,p,G⟩
 ·have l:s.heap.get? P=some (cJe #[]):=I.hok P _ p;have a0:cQ8≠P:=λz=>by
   obtain⟨o,es,ep,e,hd,_⟩:=V;rw[z,l]at e;cases e;cases hd
  refine PySem.W.kla_makeFunction (mg:=X.mg) N I.ok.glob V i hC l aV9 rfl a0 F λf g h tk M m K R x=>?_;have T:=I.tab (t':=tk) p M x;have y:P≠f:=cQV (cQ1 (cQN l) m);have nc:H f=none:=I.hok.fresh m;have O:upd H P (.tbl (#[]++ #[cXR pos.line,cXR pos.col,.ref f])) f=none:=by rw[yJ (cXg y)];exact nc
  have I2:Inv X pins σ (upd (upd H P (.tbl (#[]++ #[cXR pos.line,cXR pos.col,.ref f]))) f (aYA f qual)) {s with heap:=h,toks:=tk}:=by
   have a1:cVh P s.heap h:=M;have nP:∀b,H b=none->b≠P:=λb n z=>by rw[z,p]at n;cases n
   have ne:∀b o,H b=some o->(∀ps,o≠ .tbl ps)->b≠P:=λb o e n z=>by subst z;rw[p]at e;cases e;exact n _ rfl
   have U:∀b o,s.heap.get? b=some o->b≠f:=λb o e=>cQV (cQ1 (cQN e) m);have S:∀b,b≠P->b≠f->upd (upd H P (.tbl (#[]++ #[cXR pos.line,cXR pos.col,.ref f]))) f (aYA f qual) b=H b:=λb Y h2=>by rw[yJ h2,yJ Y]
   have hl:∀b u,H b=some u->b≠f:=λb u e=>yI e nc;refine I.un (t':=tk) ⟨λb o e n _ _=>M b o (nP b n) e,λb o e n _ _=>⟨o.slots,M b o (nP b n) e⟩,λb o e n _=>by rw[S b (nP b n) (U b o e)];exact n,λb o e _=>?_,λb xs e=>?_,λb o u e=>?_,λb qs e=>?_⟩ λb u e=>?_
   ·by_cases L:b=P
    ·exact⟨_,by rw[L];exact x⟩
    ·exact⟨o,M b o L e⟩
   ·rw[S b (ne b _ e λ_ z=>nomatch z) (hl b _ e)];exact e
   ·rw[S b (ne b _ e λ_ z=>nomatch z) (hl b _ e)];exact e
   ·by_cases L:b=P
    ·subst L;rw[p]at e;cases e;exact⟨_,by rw[yJ y];exact yB⟩
    ·exact⟨#[],by rw[S b L (hl b _ e),e];simp⟩
   ·by_cases J:b=f
    ·subst J;rw[yB]at e;cases e;exact bX2 R
    ·rw[yJ J]at e;refine(T.hok b u e).stay (λc v _ q=>q) (λc q=>?_) λc xs q=>?_
     ·rw[yJ (yI q O)];exact q
     ·rw[yJ (yI q O)];exact q
  have j:H h.objs.size=none:=I.hok.fresh (cQ7 m (cJj K));have I3:=I2.laid (a:=h.objs.size) (o:=bKM h.objs.size (cZK name qual d body r cl ((X.mg "__name__").getD .none) f g)) (t':=tk) (h':=h.push (cZK name qual d body r cl ((X.mg "__name__").getD .none) f g))
   (λb o e=>cQD _ e) (cQE _) (bQi (cQY _ rfl))
  have D:f≠h.objs.size:=cQV K;have Z:P≠h.objs.size:=cQV (cQN x);refine hq h.objs.size f g _ _ I3 j yB (by rw[yJ D];exact yB) (.inr ⟨f,by rw[yJ Z,yJ y];exact yB,by rw[yJ D];exact yB⟩) λb o n e=>?_;have Y:b≠P:=λz=>by subst z;rw[p]at e;cases e;exact n _ rfl
  rw[yJ (yI e j),yJ (yI e nc),yJ Y];exact e
 ·have l:s.heap.get? P=some (cJe (#[]++ #[cXR pos.line,cXR pos.col,.ref f])):=I.hok P _ p;refine PySem.W.kla_makeFunctionHit (mg:=X.mg) N I.ok.glob V i hC l aWa aYt F λg h tk hk m=>?_;have T:Inv X pins σ H {s with heap:=h,toks:=tk}:=I.kept hk;have j:H h.objs.size=none:=T.hok.fresh (cQE _);have I3:=T.laid (a:=h.objs.size) (o:=bKM h.objs.size (cZK name qual d body r cl ((X.mg "__name__").getD .none) f g)) (t':=tk) (h':=h.push (cZK name qual d body r cl ((X.mg "__name__").getD .none) f g))
   (λb o e=>cQD _ e) (cQE _) (bQi (cQY _ rfl))
  have k:=yE j (bKM h.objs.size (cZK name qual d body r cl ((X.mg "__name__").getD .none) f g));exact hq h.objs.size f g _ _ I3 j yB (k _ _ G) (.inr ⟨f,k _ _ p,k _ _ G⟩) k.t
end
end L2
namespace Stree
open PySem PySem.W PySem.Calls PyProof.Rows
def aQ0{α:Type}(p q:α->Bool):∀ (l:List α),(∀a∈l,p a=true->q a=true)->(∃a∈l,p a=false/\q a=true)->l.countP p<l.countP q
 |[],_,h=>by obtain⟨a,b,_⟩:=h;cases b
 |x::r,hs,h=>by
  have e:r.countP p<=r.countP q:=List.countP_mono_left λa b=>hs a (cQI _ b);obtain⟨a,b,c,d⟩:=h;rcases cQG.mp b with rfl|b
  ·rw[cVo,cVo,c,d];simp;omega
  ·have g:=aQ0 p q r (λa b=>hs a (cQI _ b)) ⟨a,b,c,d⟩;rw[cVo,cVo];have:=hs x cQM;cases f:p x with
   |false=>cases q x<;> simp<;> omega
   |true=>rw[this f];simp;omega
def aVG{n:Nat}(lt:Nat->Nat->Bool)(f:∀i,i<n->lt i i=false)(p:∀i j k,i<n->j<n->k<n->lt i j=true->lt j k=true->lt i k=true)(g:∀i j,i<n->j<n->i≠j->lt i j=true\/lt j i=true): ∃r:Nat->Int,Inj n r/\∀i j,i<n->j<n->decide (r i<r j)=lt i j:=by
 refine⟨λi=>((cQJ n).countP λm=>lt m i:Nat),?_,?_⟩
 ·have up:∀i j,i<n->j<n->lt i j=true->((cQJ n).countP λm=>lt m i)<((cQJ n).countP λm=>lt m j):=λi j a b h=>
   aQ0 _ _ _ (λm o d=>p m i j (cQ5.mp o) a b d h) ⟨i,cQ5.mpr a,f i a,h⟩
  intro i j a b e;by_cases c:i=j
  ·exact c
  ·exfalso;have q:(((cQJ n).countP λm=>lt m i:Nat):Int)=((cQJ n).countP λm=>lt m j:Nat):=e;rcases g i j a b c with h|h
   ·have:=up i j a b h;omega
   ·have:=up j i b a h;omega
 ·intro i j a b;have up:∀i j,i<n->j<n->lt i j=true->((cQJ n).countP λm=>lt m i)<((cQJ n).countP λm=>lt m j):=λi j a b h=>
   aQ0 _ _ _ (λm o d=>p m i j (cQ5.mp o) a b d h) ⟨i,cQ5.mpr a,f i a,h⟩
  cases h:lt i j with
  |true=>have:=up i j a b h;exact decide_eq_true (by show(((cQJ n).countP λm=>lt m i:Nat):Int)<((cQJ n).countP λm=>lt m j:Nat);omega)
  |false=>
   refine decide_eq_false ?_;show ¬ (((cQJ n).countP λm=>lt m i:Nat):Int)<((cQJ n).countP λm=>lt m j:Nat);by_cases c:i=j
   ·subst c;omega
   ·rcases g i j a b c with l|l
    ·rw[h]at l;cases l
    ·have:=up j i b a l;omega
section
variable {prog:cQT}{w:cQ2}{A:cXi}{E:cQx->cQA->Prop}{s:cQA}
def aZn{r:Nat}{n:Nat}{t u v:Tok}{Q:List cQx->cQA->Prop}(T:A.handled=none)(U:IsRange s.heap r 0 n 1 t u v)(V:n<64) (O:∀m tk H,(∀b o,s.heap.get? b=some o->m.get? b=some o)->s.heap.objs.size<m.objs.size->cZT H ((cQJ n).map Int.ofNat)->Q H {s with heap:=m,toks:=tk}):cQF (cQH prog w) A (collect (.ref r)) Q E s:=by
 have M:Builtin.Range.rangeSize 0 n 1=(n:Int):=by rw[rangeSize_one];split<;> omega
 have C:Builtin.Range.small 0 n 1=true:=small_one (by decide) (by decide) (by omega) (by omega);unfold collect;refine cQy (wpAny_runValue (cZM F.entry_proto_collect ?_));rw[cZx F.plain_proto_collect _];show cQF _ A.in1 (newList [] >>=λl=>again (.builtin "list.__iadd__" ⟨[l,.ref r],[]⟩)) _ _ s;refine cQy (cXT ?_);refine cQC ⟨cJY F.plain_list_iadd _,cZM F.entry_list_iadd ?_⟩;rw[cZx F.plain_list_iadd _];have d:(s.heap.push {cls:= .type "list",data:= .seq ([]:List cQx).toArray}).get? s.heap.objs.size=some {cls:= .type "list",data:= .seq ([]:List cQx).toArray}:=cQY _ rfl;show cQF _ A.in1 (cJH (.ref s.heap.objs.size) (.ref r) (.ref s.heap.objs.size)) _ _ _;refine cXD (wpAny_extend_range (A:=A) (R:=λq y=>q= .ok (.ret (.ref s.heap.objs.size))/\∃a g,y.heap.get? s.heap.objs.size=some {cls:= .type "list",dict:=none,data:= .seq a g,slots:= #[] }/\Q a.toList y) (s:={s with heap:=s.heap.push {cls:= .type "list",data:= .seq ([]:List cQx).toArray} }) T (cQD _ U) C M (by omega) s.heap.objs.size (.ref s.heap.objs.size) 0 d λm tk a g I p c=>⟨rfl,a,g,p,?_⟩) (λfin y B=>?_) λe y N=>by obtain⟨z,_⟩:=N;cases z
 rotate_left
 ·cases fin with
  |done f=>
   obtain⟨e,a,g,j,h⟩:=B;have J:f= .ret (.ref s.heap.objs.size):=by cases e;rfl
   subst J;exact cQy (wpAny_load j (cQC h))
  |again g=>
   exact⟨B.1,cZv B.2 λq L P=>by
    obtain⟨rfl,a,g,j,h⟩:=P;exact cQy (wpAny_load j (cQC h))⟩
 refine O m tk a.toList (λb o e=>I b o (cQV (cQN e)) (cQD _ e)) (cQN p) ?_;have len:a.toList.length=n:=by rw[cXS];exact c.1
 have all:∀ (k:Nat)(l:List cQx),l.length<=n->k+l.length=n->(∀i v,l[i]? =some v->∃t,v=Value.int ((k+i:Nat):Int) t)->cZT l ((List.range' k l.length).map Int.ofNat):=by
  intro k l;induction l generalizing k with
  |nil=>intro _ _ _;exact .nil
  |cons x l S=>
   intro j h G;obtain⟨t,rfl⟩:=G 0 x rfl;rw[cXy,List.range'_succ,cXb];exact .cons _ _ (S (k+1) (by rw[cXy]at j;omega) (by rw[cXy]at h;omega) λi v D=>by
    obtain⟨K,e⟩:=G (i+1) v D;exact⟨K,by rw[e,show k+(i+1)=k+1+i by omega]⟩)
 have z:=all 0 a.toList (by omega) (by omega) λi v D=>by obtain⟨t,e⟩:=c.2 i v (by rw[<- cZd];exact D);exact⟨t,by rw[e,show(0:Int)+(i:Int)*1=((0+i:Nat):Int) by omega]⟩
 rw[len]at z;rw[List.range_eq_range'];exact z
def aJT{r:Nat}{n:Nat}{t u v:Tok}{b:Bool}{f:cQx}{i:List (Str×cQx)}{Q:cQx->cQA->Prop}(G:A.handled=none)(H:IsRange s.heap r 0 n 1 t u v)(D:n<64) (j:argsOk "sorted" ⟨[.ref r],i⟩) (k:∀x,argsOk "list.sort" ⟨[.ref x],i⟩) (C:∀x,cZm.«list.sort» ⟨[.ref x],i⟩=ksk_tree x f b) (h:∀a c tk d,(∀b o,s.heap.get? b=some o->c.get? b=some o)->s.heap.objs.size<=a->c.get? a=some (cXf "list" d.toArray 0)->cZT d ((cQJ n).map Int.ofNat)-> cQF (cQH prog w) A.in1.in1 (ksk_tree a f b) (λfin y=>fin= .done (.ret .none)/\Q (.ref a) y) (λ_ _=>False) {s with heap:=c,toks:=tk}): cQF (cQH prog w) A (call (.builtin "sorted") [.ref r] i) Q E s:=by
 refine call_function_entry_kw kind_sorted cVH cVE j ?_;unfold cZm.«sorted»;refine cQy (m:=checkCount "sorted" 1 1 _) (cQC ?_);refine cQy (aZn (A:=A.in1) (by simpa using G) H D λc tk d B l z=>?_);have F:d.length=n:=by rw[z.length];simp
 refine cQy (cJt ?_ (by rw[cQZ];omega));have g:(c.push (cXf "list" d.toArray 0)).get? c.objs.size=some (cXf "list" d.toArray 0):=cQY _ rfl;have q:s.heap.objs.size<=c.objs.size:=cJj l;refine cQy (cXP (wpAny_call_entry_kw slot_list_sort ⟨_,g,rfl⟩ entry_list_sort ?body (k _)));case body=>
  show cQF (cQH prog w) A.in1.in1 (cZm.«list.sort» ⟨[.ref c.objs.size],i⟩) _ _ _;rw[C c.objs.size];refine cXD (h c.objs.size (c.push (cXf "list" d.toArray 0)) tk d (λb o e=>cQD _ (B b o e)) q g z) (λfin y p=>?_) λ_ _ x=>x.elim;obtain⟨rfl,p⟩:=p;exact⟨_,rfl,cQC ⟨_,rfl,p⟩⟩
end
end Stree
namespace Stree
open PySem PySem.W PySem.Calls PyProof.Rows
def vG(a b:Int×Int):Bool:=decide (a.1<b.1) || (decide (a.1=b.1) && decide (a.2<b.2))
def vW(a:Int×Int):vG a a=false:=by simp[vG]
def aZw{a b c:Int×Int}(d:vG a b=true)(e:vG b c=true):vG a c=true:=by
 simp only[vG,Bool.or_eq_true,Bool.and_eq_true,decide_eq_true_eq]at d e ⊢;omega
def aZv{a b:Int×Int}(h:a≠b):vG a b=true\/vG b a=true:=by
 have c:¬ (a.1=b.1/\a.2=b.2):=λ⟨x,y⟩=>h (Prod.ext x y);simp only[vG,Bool.or_eq_true,Bool.and_eq_true,decide_eq_true_eq];omega
section
variable {prog:cQT}{w:cQ2}{A:cXi}{E:cQx->cQA->Prop}{s:cQA}
def aVh{a c:Int}{t t':Tok}{Q:Bool->cQA->Prop}(h:Q (a==c) s):cQF (cQH prog w) A (eqBool (.int a t) (.int c t')) Q E s:=
 (L2.bJ3 (A:=A) (s:=s) (y:= .int a) (x:= .int c) ⟨t,rfl⟩ ⟨t',rfl⟩ rfl rfl) prog w E Q h
def bQa{x y:Nat}{f i:Obj}{n k:Nat}{a b c d:Int}{l j p r:Tok}{Q:Bool->cQA->Prop}(t:s.heap.get? x=some f)(dx:f.data= .seq #[.int a l,.int b j] n)(q:s.heap.get? y=some i)(m:i.data= .seq #[.int c p,.int d r] k) (h:Q (vG (a,b) (c,d)) s):cQF (cQH prog w) A (keyLt' (tuples' true) (.ref x) (.ref y)) Q E s:=by
 refine kat_lt t dx q m ?_;refine kat_cons (aVh ?_);unfold vG at h;by_cases e:a=c
 ·subst e;simp only[Int.lt_irrefl,decide_false,Bool.false_or,decide_true,Bool.true_and]at h;rw[beq_self_eq_true];refine kat_yes (kat_cons (aVh ?_));by_cases g:b=d
  ·subst g;rw[beq_self_eq_true];refine kat_yes (kat_nil ?_);simpa using h
  ·rw[beq_eq_false_iff_ne.mpr g];refine kat_no (kat_one _ _ ?_);exact lt_int h
 ·rw[beq_eq_false_iff_ne.mpr e];have o:Q (decide (a<c)) s:=by
   have:decide (a=c)=false:=decide_eq_false e;simpa[this]using h
  refine kat_no ?_;exact oneLt_int o
end
end Stree
namespace L2
open PySem PySem.Spec PyProof.Rows
def ixb(b:Bool)(n i:Nat):Nat:=if b=true then n - 1 - i else i
def aJs{b:Bool}{n i:Nat}(h:i<n):ixb b n i<n:=by unfold ixb;split<;> omega
def bVV{b:Bool}{n i j:Nat}(c:i<n)(a:j<n)(h:ixb b n i=ixb b n j):i=j:=by unfold ixb at h;split at h<;> omega
def aZH{α:Type}{b:Bool}{l:List α}{n i:Nat}{d:α}(a:l.length=n)(c:i<n):(cXN b l).getD i d=l.getD (ixb b n i) d:=by
 unfold cXN ixb;split
 ·simp only[cXk];rw[List.getElem?_reverse (by omega),a]
 ·rfl
def bKT{n:Nat}{b:Bool}{a:Nat->Int×Int}{r:Nat->Int}{p:List Nat}(l:p.Perm (cQJ n))(g:p.Pairwise λi j=>r i<r j)(k:∀i j,i<n->j<n->decide (r i<r j)=Stree.vG (a (ixb b n i)) (a (ixb b n j))): (cXN b (p.map (ixb b n))).Perm (cQJ n)/\(cXN b (p.map (ixb b n))).Pairwise λi j=>Stree.vG (if b=true then a j else a i) (if b=true then a i else a j)=true:=by
 have f:(p.map (ixb b n)).Pairwise λi j=>Stree.vG (a i) (a j)=true:=by rw[cZ7];have m:∀i∈p,i<n:=λi c=>cQ5.mp (l.mem_iff.mp c);refine g.imp_of_mem λ{i j} c hj h=>?_;rw[<- k i j (m i c) (m j hj)];exact decide_eq_true h
 have d:=l.map (ixb b n);cases b with
 |false=>
  have e:ixb false n=id:=by funext i;rfl
  rw[e]at d f ⊢;rw[cVi,cVi]at d;rw[cVi]at f ⊢;exact⟨d,f⟩
 |true=>
  have e:(cQJ n).map (ixb true n)=(cQJ n).reverse:=by
   apply cZN;intro i;by_cases c:i<n
   ·rw[cQR,cZB c,List.getElem?_reverse (by simpa using c),cXp,cZB (by omega)];rfl
   ·rw[cXa (by simp;omega),cXa (by simp;omega)]
  rw[e]at d;refine⟨(List.reverse_perm _).trans (d.trans (List.reverse_perm _)),?_⟩;show((p.map (ixb true n)).reverse).Pairwise _;rw[List.pairwise_reverse];exact f
def bVw(H:Hp)(b:Nat->Int×Int)(c:List cQx):Prop:=∀i v,c[i]? =some v->∃a,v= .ref a/\H a=some (.tup [.int (b i).1,.int (b i).2])
def bJH(te:TE)(fr:List Nat)(tb:TE)(P:Nat)(lpos:Pos)(qual:Str)(b:Bool):TE:=λσ H Q=>te σ H λv f=>∃n:Nat,v= .int n/\n<64/\Q6 lpos qual P f/\∃kz:Nat->Int×Int,
 (∀i j,i<n->j<n->kz i=kz j->i=j)/\
 (∀i d,i<n->zI f d->Q6 lpos qual P d->∀R:VK,(∀a e,zI d e->e P=d P->e a=some (.tup [.int (kz i).1,.int (kz i).2])->R (.ref a) e)->tb (sub σ fr (some (.int i))) d R)/\
 ∀H5 l (c:List Nat),zI f H5->Q6 lpos qual P H5->f l=none->c.Perm (cQJ n)->(c.Pairwise λi j=>Stree.vG (if b=true then kz j else kz i) (if b=true then kz i else kz j)=true)->H5 l=some (.lst (c.map λi=> .int (i:Nat)))->Q (.ref l) H5
def Q6.keep{lpos:Pos}{qual:Str}{P:Nat}{H a:Hp}(t:Q6 lpos qual P H)(k:zI H a)(e:a P=H P):Q6 lpos qual P a:=by
 rcases t with t|⟨c,d,b⟩
 ·exact .inl (e.trans t)
 ·exact .inr ⟨c,e.trans d,k.ext b⟩
section
variable {X:Cx}{e body:Expr}{te tb:TE}{x:Str}{names:List Str}{fr:List Nat}{sc:cZL}{params:Arguments}{qual:Str}{p p2 p3 pos lpos kp kp2 bp:Pos}{j:Nat}{b:Bool}{c P:Nat}{k:Nat}
def aKT(d5:Gl X "sorted")(d9:X.mg "sorted"=none)(d6:Gl X "range")(f5:X.mg "range"=none)(he:PE X e te)(S:xO X.N X.env.scope x names fr sc)(g7:sc.isCoroutine=false)(b4:sc.isGenerator=false)
  (a7:X.env.code= .ref c) (C:cZF X.base c P) (hB:X.base.BuiltinsAt X.mg P) (hr:uS (k+1) X.A) (b5:defaultsOf params X.env=([],[])) (hq:X.env.qual++"<lambda>"=qual)
  (hb:∀ (cl:List (Str×Nat))(pm f6 b3 u:cQx),bindArgs (PySem.W.kla_fn "<lambda>" qual params body sc cl pm f6 b3) ⟨[u],[]⟩=pure [(x,u)])
  (a8:∀A L q cd cl s H,PE (bYt X A (x::names) qual sc L q cd cl s H) body tb) (b1:cXj "sorted"=some (.builtin "sorted"):=dk)
  (s2:cXe [e] X.env= [(false,eval e X.env)]:=by rfl):
  PE X (.Call (.Name "sorted" p) [.Call (.Name "range" p2) [e] [] p3] [⟨some "key",.Lambda params body sc lpos,kp⟩,⟨some "reverse",.Constant (.bool b) j bp,kp2⟩] pos) (bJH te fr tb P lpos qual b):=by
 intro g s σ H Q I h
 refine cX4 (aX6 I d5 d9 b1 ?_)
 refine callWith_kw ?_
 show cQF _ _ (spliced ((false,eval (.Call (.Name "range" p2) [e] [] p3) X.env):: [])) _ _ s
 refine Calls.spliced_cons ?_
 refine cX4 (aX6 I d6 f5 boot_range ?_)
 refine cJK ?_ s2 rfl
 refine thn (yA he yD s2 p3 g s σ H (λvs H1=>match vs with|[v]=>(∃n:Nat,v= .int n/\n<64/\Q6 lpos qual P H1/\∃kz:Nat->Int×Int,
   (∀i j,i<n->j<n->kz i=kz j->i=j)/\
   (∀i B,i<n->zI H1 B->Q6 lpos qual P B->∀R:VK,(∀a Y,zI B Y->Y P=B P->Y a=some (.tup [.int (kz i).1,.int (kz i).2])->R (.ref a) Y)->tb (sub σ fr (some (.int i))) B R)/\
   ∀H5 l (b2:List Nat),zI H1 H5->Q6 lpos qual P H5->H1 l=none->b2.Perm (cQJ n)->(b2.Pairwise λi j=>Stree.vG (if b=true then kz j else kz i) (if b=true then kz i else kz j)=true)->H5 l=some (.lst (b2.map λi=> .int (i:Nat)))->Q (.ref l) H5)|_=>False) I h) λus s1 ⟨vs,H1,I1,r1,z⟩=>?_
 match vs,z with
 |[v],⟨n,e2,hn,hT,kz,hinj,hkey,hfin⟩=>
  subst e2;obtain⟨u,rfl,ru⟩:=aQs r1;obtain⟨t,rfl⟩:=ru;refine call_range_1 (Calls.spliced_nil ?_);have fR:=I1.fpOk (b:=s1.heap.objs.size) (cQE _) I1.fresh;have I2:Inv X ((s1.heap.objs.size,{cls:= .type "range",data:= .fields #[.int 0 s1.toks,.int (n:Int) t,.int 1 (s1.toks+1)] })::g) σ H1 {s1 with heap:=s1.heap.push {cls:= .type "range",data:= .fields #[.int 0 s1.toks,.int (n:Int) t,.int 1 (s1.toks+1)] },toks:=s1.toks+1+1}:=by
   have I0:Inv X g σ H1 {s1 with heap:=s1.heap.push {cls:= .type "range",data:= .fields #[.int 0 s1.toks,.int (n:Int) t,.int 1 (s1.toks+1)] },toks:=s1.toks+1+1}:=I1.kept λb o e=>cQD _ e;refine I0.pins_of λq hq=>?_;rcases cQG.mp hq with rfl|hq
   ·exact⟨cQY _ rfl,fR.1,fR.2.1,fR.2.2.1,λv z=>by cases z⟩
   ·exact I0.pin q (cQU _ hq)
  obtain⟨cl,c1,c2,c4⟩:=aVn S I2;refine kws_cons (PySem.W.kla_eval b5 ?_);rw[hq];refine bZm I2 c1 a7 C hB hT λq c' b3 H' s' I3 g9 e9 b0 f8 c8=>?_;refine kws_cons (Constant_bool (kws_nil ?_));show cQF _ _ (call (.builtin "sorted") [.ref s1.heap.objs.size] [(cJG "key",.ref q),(cJG "reverse",.bool b)]) _ _ s';have a3:IsRange s'.heap s1.heap.objs.size 0 n 1 s1.toks t (s1.toks+1):=(I3.pin _ (cQU _ (cQM ..))).1;have I4:Inv X g σ H' s':=I3.pins_of λp G=>I3.pin p (cQU _ (cQI _ G));refine Stree.aJT hr.hd a3 hn (ksk_s2 _ _ _) (λx=>ksk_l2 _ _ _) (λx=>ksk_t2 q x b) λa O tk vs hk a1 ha hI=>?_;have a0:vs.length=n:=by rw[hI.length];simp
  have I5:Inv X g σ H' {s' with heap:=O,toks:=tk}:=I4.kept hk;have Z:=I4.fpOk (b:=a) a1 (I4.hok.fresh a1);have b6:a<O.objs.size:=cQN ha;have c7:s'.heap.objs.size<=O.objs.size+1:=cQ7 a1 (cJj (cXF b6));have U:=I4.fpOk (b:=O.objs.size+1) c7 (I4.hok.fresh c7);refine Stree.bYg (s:={s' with heap:=O,toks:=tk}) ha (by rw[a0];exact hn) (λe1 w M=>∃ (B:Hp)(e:Nat),Inv X ((a,cXf "list" #[] e1)::(O.objs.size+1,cXf "list" w.toArray e)::g) σ B M/\zI H' B/\Q6 lpos qual P B/\bVw B kz w) ?h0 ?hget ?hcall ?hend;case h0=>
   intro e1 h2 k2 a2 q2;have I6:Inv X g σ H' {s' with heap:=h2,toks:=tk}:=I5.turned (t':=tk) (h':=h2) (λb o hb e=>k2 b o hb e) Z.1 Z.2.1 Z.2.2.2.1 Z.2.2.2.2.1 Z.2.2.2.2.2;refine⟨H',0,I6.pins_of λp G=>?_,zI.refl _,f8,λi v D=>by simp at D⟩;rcases cQG.mp G with rfl|G
   ·exact⟨a2,Z.1,Z.2.1,Z.2.2.1,λv z=>by cases z⟩
   ·rcases cQG.mp G with rfl|G
    ·exact⟨q2,U.1,U.2.1,U.2.2.1,λv z=>by cases z⟩
    ·exact I6.pin p (cQU _ G)
  case hget=>
   rintro e1 w M ⟨B,e,J,_,_,_⟩;exact⟨⟨e,(J.pin _ (cQU _ (cQI _ (cQM ..)))).1⟩,(J.pin _ (cQU _ (cQM ..))).1⟩
  case hcall=>
   rintro e1 w M v ⟨B,e,J,k3,t3,z3⟩ D;have F:w.length<n:=by
    rcases cJD w.length vs.length with h|h
    ·omega
    ·rw[cXa h]at D;cases D
   obtain⟨t',rfl⟩:∃t',v=Value.int (w.length:Nat) t':=by
    have r:=jH hI;have e3:((((cQJ n).map Int.ofNat)).map V.int)[w.length]? =some (V.int (w.length:Nat)):=by simp[F]
    obtain⟨u,hu,ru⟩:=r.get e3;rw[D]at hu;cases hu;exact ru
   have g6:M.heap.get? q=some (cZK "<lambda>" qual params body sc cl ((X.mg "__name__").getD .none) c' b3):=(J.hok q _ (k3.ext e9)).1;have c9:M.heap.CodeRec (.ref c') qual:=(J.hok c' _ (k3.ext b0)).1;refine cXD (bZl (A:=X.A.in1.in1) J I.ok.frames hr.hd (by have:=hr.dp;show X.A.depth<_;omega) S g7 b4 c2 c4 g6 c9 (λu=>hb cl _ _ _ u) (λA L cd s H=>a8 A L q cd cl s H) (v:= .int (w.length:Nat)) ⟨t',rfl⟩ (Q:=λv Y=>∃a4,v= .ref a4/\zI B Y/\Y P=B P/\Y a4=some (.tup [.int (kz w.length).1,.int (kz w.length).2])) (hkey w.length B F (c8.trans k3) t3 _ λa4 Y k4 p4 e4=>⟨a4,rfl,k4,p4,e4⟩)) (λkv s4 e0=>?_) λ_ _ x=>x;obtain⟨v4,Y,J4,f4,a4,rfl,k4,p4,e4⟩:=e0;cases f4;refine⟨⟨e,(J4.pin _ (cQU _ (cQI _ (cQM ..)))).1⟩,λh5 c5 sb d4=>?_⟩;have e5:Inv X g σ Y s4:=J4.pins_of λp G=>J4.pin p (cQU _ (cQI _ (cQI _ G)));have pa:=J4.pin _ (cQU _ (cQM ..));have pk:=J4.pin _ (cQU _ (cQI _ (cQM ..)));have J5:Inv X g σ Y {s4 with heap:=h5,toks:=s4.toks}:=e5.turned (t':=s4.toks) (h':=h5) (it:=O.objs.size+1) (λb o hb e=>(sb.2 b hb).trans e) pk.2.1 U.2.1 U.2.2.2.1 U.2.2.2.2.1 U.2.2.2.2.2;refine⟨Y,c5,J5.pins_of λp G=>?_,k3.trans k4,t3.keep k4 p4,λi v D=>?_⟩
   ·rcases cQG.mp G with rfl|G
    ·exact⟨(sb.2 _ (cQV (cXF b6))).trans pa.1,pa.2⟩
    ·rcases cQG.mp G with rfl|G
     ·exact⟨d4,pk.2.1,U.2.1,U.2.2.1,λv z=>by cases z⟩
     ·exact J5.pin p (cQU _ G)
   ·by_cases f7:i<w.length
    ·rw[cXh f7]at D;obtain⟨a6,e6,h6⟩:=z3 i v D;exact⟨a6,e6,k4.tup h6⟩
    ·rw[cQX (by omega)]at D;have:i - w.length=0:=by
      rcases cJD (i - w.length) 1 with h|h
      ·omega
      ·rw[cXa (by simpa using h)]at D;cases D
     have ei:i=w.length:=by omega
     subst ei;simp at D;exact⟨a4,D.symm,e4⟩
  case hend=>
   rintro e1 w M ⟨B,e,J,k3,t3,z3⟩ hl;have J':Inv X g σ B M:=J.pins_of λp G=>J.pin p (cQU _ (cQI _ (cQI _ G)));have b8:w.length=n:=by omega
   obtain⟨r,d7,c3⟩:=Stree.aVG (n:=n) (λi j=>Stree.vG (kz (ixb b n i)) (kz (ixb b n j))) (λi _=>Stree.vW _) (λi j k _ _ _ O h2=>Stree.aZw O h2)
    (λi j F hj f9=>Stree.aZv λz=>f9 (bVV F hj (hinj _ _ (aJs F) (aJs hj) z)))
   have ob:∀i,i<n->∃a o t1 t2 m,w.getD i Value.none= .ref a/\M.heap.get? a=some o/\o.cls= .type "tuple"/\o.data= .seq #[.int (kz i).1 t1,.int (kz i).2 t2] m:=λi F=>by obtain⟨a6,e6,h6⟩:=z3 i (w.getD i Value.none) (by simp[cXk,cQw (show i<w.length by omega)]);obtain⟨g8,rv,pl,_⟩:=J'.tuple (SqT.of h6);obtain⟨u1,u2,rfl,r1,r2⟩:=zD.two rv;obtain⟨t1,rfl⟩:=r1;obtain⟨t2,rfl⟩:=r2;obtain⟨o,g1,g2,m,g3⟩:=pl;exact⟨a6,o,t1,t2,m,e6,g1,g2,g3⟩
   refine⟨r,by rw[a0];exact d7,λ_=>⟨tuples' true,λQ' d8=>?_,λi j C' F hj hC=>?_⟩,λp h5 c5 c6 a9 e7 k5 g5 o5=>?_⟩
   ·have b7:∀ (l:List cQx)(k:Nat),(∀ (i:Nat)(v:cQx),l[i]? =some v->∃a o t1 t2 m x y,v=Value.ref a/\M.heap.get? a=some o/\o.cls= .type "tuple"/\o.data= .seq #[.int x t1,.int y t2] m)->
      ∃fs,cWb M.heap l fs/\fs.length=l.length/\∀f∈fs,∃x t,f=Value.int x t:=by
     intro l
     induction l with
     |nil=>intro _ _;exact⟨[],trivial,rfl,λf hf=>by cases hf⟩
     |cons v l ih=>
      intro k D;obtain⟨a,o,t1,t2,m,x,y,rfl,g1,g2,g3⟩:=D 0 v rfl;obtain⟨fs,f1,f2,f3⟩:=ih (k+1) λi v h=>D (i+1) v h;refine⟨.int x t1::fs,cVB g1 g2 g3 rfl f1,by simp[f2],λf hf=>?_⟩;rcases cQG.mp hf with rfl|hf
      ·exact⟨x,t1,rfl⟩
      ·exact f3 f hf
    obtain⟨fs,f1,f2,f3⟩:=b7 w 0 λi v D=>by
     have F:i<n:=by
      rcases cJD i w.length with h|h
      ·omega
      ·rw[cXa h]at D;cases D
     obtain⟨a,o,t1,t2,m,g0,g1,g2,g3⟩:=ob i F;have:w.getD i Value.none=v:=by simp[cXk,D]
     rw[this]at g0;exact⟨a,o,t1,t2,m,_,_,g0,g1,g2,g3⟩
    refine PySem.W.kat_kind (T:= .type "int") f1 (by omega) (λv D=>?_) rfl d8;obtain⟨x,t,rfl⟩:=f3 v D;exact .now
   ·rw[a0]at F hj;obtain⟨ai,oi,t1,t2,m1,g0,g1,g2,g3⟩:=ob _ (aJs (b:=b) F);obtain⟨aj,oj,t3,t4,m2,d0,d1,d2,d3⟩:=ob _ (aJs (b:=b) hj);show cQF _ _ (keyLt' _ ((cXN b w).getD i Value.none) ((cXN b w).getD j Value.none)) _ _ _;rw[aZH b8 F,aZH b8 hj,g0,d0];refine Stree.bQa g1 g3 d1 d3 ?_;have:=c3 i j F hj;rw[this]at hC;exact hC
   ·rw[a0]at a9;obtain⟨q1,q2⟩:=bKT a9 e7 c3;have hm:∀i∈p,i<n:=λi F=>cQ5.mp (a9.mem_iff.mp F);have vv:∀l:List Nat,(∀i∈l,i<n)->zD ((l.map (ixb b n)).map λi=>V.int (i:Nat)) (l.map λi=>(cXN b vs).getD i Value.none):=by
     intro l;induction l with
     |nil=>intro _;exact .nil
     |cons i l ih=>
      intro h;refine .cons ?_ (ih λj hj=>h j (cQI _ hj));have F:=h i cQM;show wE (V.int (ixb b n i:Nat)) ((cXN b vs).getD i Value.none);rw[aZH a0 F];have hx:=aJs (b:=b) F;have e3:((((cQJ n).map Int.ofNat)).map V.int)[ixb b n i]? =some (V.int (ixb b n i:Nat)):=by simp[hx]
      obtain⟨u,hu,ru⟩:=(jH hI).get e3;have:vs.getD (ixb b n i) Value.none=u:=by simp[cXk,hu]
      rw[this];exact ru
    have v2:=vv p hm;have v3:zD ((cXN b (p.map (ixb b n))).map λi=>V.int (i:Nat)) (cXN b (p.map λi=>(cXN b vs).getD i Value.none)):=by
     unfold cXN at v2 ⊢;split
     ·rw[List.map_reverse];rename_i a5;simp only[a5]at v2 ⊢;exact v2.reverse
     ·rename_i a5;simp only[a5]at v2 ⊢;exact v2
    have na:B a=none:=(J.pin _ (cQU _ (cQM ..))).2.1;have nk:B (O.objs.size+1)=none:=(J.pin _ (cQU _ (cQI _ (cQM ..)))).2.1;have b9:(cXN b (p.map (ixb b n))).length=n:=by rw[q1.length_eq,cXp]
    have g4:Inv X g σ (upd B a (.lst ((cXN b (p.map (ixb b n))).map λi=>V.int (i:Nat)))) {M with heap:=h5,gens:=M.gens,drawn:=M.drawn,toks:=M.toks}:=by
     have K:∀d,d∉ [a,O.objs.size+1]->d≠a/\d≠O.objs.size+1:=λd E=>⟨λz=>E (by simp[z]),λz=>E (by simp[z])⟩;refine J'.step (ch:= [a,O.objs.size+1]) (λd E=>?_) (λd o _ _ E e _=>?_) (λd o _ _ E e _=>?_) (λd o E e n=>?_) (λd o E e=>?_) (λd xs e=>?_) (λd o u e=>?_) (λd qs e=>?_) (λm e8=>?_) (λd u e=>?_) J'.bare
     ·rcases cQG.mp E with rfl|E
      ·exact⟨Z.2.2.2.1,Z.2.1,Z.2.2.2.2.1,Z.2.2.2.2.2⟩
      ·rw[cQL.mp E];exact⟨U.2.2.2.1,U.2.1,U.2.2.2.2.1,U.2.2.2.2.2⟩
     ·exact(k5 d (K d E).1 (K d E).2).trans e
     ·exact⟨o.slots,(k5 d (K d E).1 (K d E).2).trans e⟩
     ·rw[yJ (K d E).1];exact n
     ·exact⟨o,(k5 d (K d E).1 (K d E).2).trans e⟩
     ·rw[yJ (yI e na)];exact e
     ·rw[yJ (yI e na)];exact e
     ·exact⟨#[],by rw[yJ (yI e na),e];simp⟩
     ·obtain⟨o,es,ep,ho,r⟩:=e8;exact⟨o,es,ep,(k5 _ (cXg Z.2.1) (cXg U.2.1)).trans ho,r⟩
     ·by_cases E:d=a
      ·subst E;rw[yB]at e;cases e;exact⟨by rw[cQB,b9,cQZ];omega,_,c6,v3,o5⟩
      ·rw[yJ E]at e;refine(J'.hok d u e).stay (λc v hc q=>?_) (λc q=>by rw[yJ (yI q na)];exact q) λc xs q=>by rw[yJ (yI q na)];exact q
       have b0:c≠a:=by
        rcases hc with rfl|hc
        ·exact E
        ·exact yI hc na
       have f0:c≠O.objs.size+1:=by
        rcases hc with rfl|hc
        ·exact yI e nk
        ·exact yI hc nk
       exact(k5 c b0 f0).trans q
    have c0:=yE na (.lst ((cXN b (p.map (ixb b n))).map λi=>V.int (i:Nat)));have hP:upd B a (.lst ((cXN b (p.map (ixb b n))).map λi=>V.int (i:Nat))) P=B P:=by
     rcases t3 with t|⟨_,t,_⟩
     ·rw[yJ (yI t na)]
     ·rw[yJ (yI t na)]
    have nl:H1 a=none:=by
     cases hz:H1 a with
     |none=>rfl
     |some o=>exact absurd (I1.hok.lt hz) (Nat.not_lt.mpr (cQ7 (cJj (cQN a3)) a1))
    exact⟨rfl,.ref a,_,g4,rfl,hfin _ a _ (c8.trans (k3.trans c0.t)) (t3.keep c0.t hP) nl q1 q2 yB⟩
end
end L2
namespace Stree
open PySem PySem.W PySem.Calls PyProof.Rows
open PySem.SeqAt
open PySem.AutoSeq1 (wpAny_loadPart')
open PySem.MeetsSeq PySem.MeetsSeq2 PySem.MeetsSeq3
def aQC{α:Type} [DecidableEq α] (lt:α->α->Bool):List α->List α->Bool
 |[],[]=>false
 |[],_::_=>true
 |_::_,[]=>false
 |x::xs,y::ys=>if x=y then aQC lt xs ys else lt x y
def aY8{α:Type} [DecidableEq α] {lt:α->α->Bool}(x y:α)(xs ys:List α):aQC lt (x::xs) (y::ys)=if x=y then aQC lt xs ys else lt x y:=rfl
def aJ1{α:Type} [DecidableEq α] {lt:α->α->Bool}{rep:α->cQx->Prop}(l b:Nat)(items items2:Array cQx)(n P:Nat)(S J:Option Nat)(V F:Array (Option cQx))(xs ys:List α)(M:cXn rep xs items.toList)(K:cXn rep ys items2.toList): Meets (cZm.«tuple.__lt__» ⟨[.ref l,.ref b],[]⟩) (λA R s=>s.heap.get? l=some {cls:= .type "tuple",dict:=S,data:= .seq items n,slots:=V}/\s.heap.get? b=some {cls:= .type "tuple",dict:=J,data:= .seq items2 P,slots:=F}/\ (∀x y u v,rep x u->rep y v->EqAt A.in1 s u v (decide (x=y)))/\(∀x y u v,x≠y->rep x u->rep y v->∀ (prog:cQT)(w:cQ2)(E:cQx->cQA->Prop)(Q:cQx->cQA->Prop),Q (.bool (lt x y)) s->cQF (cQH prog w) A.in1 (richCompare .Lt u v) Q E s)/\ R (.ok (.ret (.bool (aQC lt xs ys)))) s):=
 .of_wp λprog w A R s h=>by
  obtain⟨O,g,d,tk,L⟩:=s;obtain⟨hl,Y,G,H,h⟩:=h;have Z:=AutoSeq1.sub_tuple_tuple;have z1:items.size=xs.length:=by have:=M.length;simpa using this.symm
  have z2:items2.size=ys.length:=by have:=K.length;simpa using this.symm
  wp_walk using wpAny_loadPart' hl,wpAny_loadPart' Y,wpAny_forIn_list _ (λX8 b D=>b.1=none/\D=⟨O,g,d,tk,L⟩/\∃ (z B:List cQx)(j i:List α),X8=z.zip B/\
   cXn rep j z/\cXn rep i B/\j.length+items2.size=i.length+items.size/\R (.ok (.ret (.bool (aQC lt j i)))) ⟨O,g,d,tk,L⟩) _
  case turn=>
   rintro⟨y,x⟩ X8 b D ⟨p,rfl,z,B,j,i,m,o,k,f,hR⟩;cases o with
   |nil=>rw[List.zip_nil_left]at m;cases m
   |@cons a y' X W I q=>
    cases k with
    |nil=>rw[List.zip_nil_right]at m;cases m
    |@cons c x' T U t r=>
     rw[List.zip_cons_cons]at m;injection m with hyx hrest
     injection hyx with hy hx
     subst hy hx;rw[aY8]at hR;simp only[cXy]at f;refine cQy (G a c _ _ I t prog w _ _ ?_);by_cases e:a=c
     ·rw[if_pos e]at hR;rw[decide_eq_true e];wp_walk;exact⟨rfl,rfl,_,_,_,_,hrest,q,r,by omega,hR⟩
     ·rw[if_neg e]at hR;rw[decide_eq_false e];have C:=H a c _ _ e I t prog w;wp_walk using C;exact⟨_,rfl,by simpa using hR⟩
  case fin=>
   rintro⟨b1,b2⟩ D ⟨p,rfl,z,B,j,i,m,o,k,f,hR⟩;simp only at p;subst p;have N:aQC lt j i=decide (items.size<items2.size):=by
    cases o with
    |nil=>
     cases k with
     |nil=>simp only[cZI]at f;exact(decide_eq_false (by omega)).symm
     |cons t hw=>simp only[cZI,cXy]at f;exact(decide_eq_true (by omega)).symm
    |cons I N=>
     cases k with
     |nil=>simp only[cZI,cXy]at f;exact(decide_eq_false (by omega)).symm
     |cons t hw=>rw[List.zip_cons_cons]at m;cases m
   rw[N]at hR;wp_walk;exact⟨_,rfl,by simpa[Builtin.Tuple.tupleCompareSizes]using hR⟩
  case h=>
   exact⟨rfl,rfl,items.toList,items2.toList,xs,ys,rfl,M,K,by omega,h⟩
section
variable {A:cXi}{s:cQA}{α:Type} [DecidableEq α] {lt:α->α->Bool}{rep:α->cQx->Prop}{l b:Nat}{items items2:List cQx}{xs ys:List α}
def bKm(A:cXi)(s:cQA)(u v:cQx)(c:Bool):Prop:=∀ (prog:cQT)(w:cQ2)(E:cQx->cQA->Prop)(Q:cQx->cQA->Prop),Q (.bool c) s->cQF (cQH prog w) A (richCompare .Lt u v) Q E s
def bJ8(hl:cJu s.heap l items.toArray)(D:cJu s.heap b items2.toArray)(z:cXn rep xs items)(r:cXn rep ys items2)(C:A.units<cLine)
  (f:∀x y u v,rep x u->rep y v->EqAt A.in1 s u v (decide (x=y))) (g:∀x y u v,x≠y->rep x u->rep y v->bKm A.in1 s u v (lt x y)):bKm A s (.ref l) (.ref b) (aQC lt xs ys):=λprog w E Q h=>by
 obtain⟨⟨cls,t,data,B⟩,k,m,n,o⟩:=id hl
 obtain⟨⟨p,j,i,e⟩,d,a,q,c⟩:=id D
 simp only at m o a c
 subst m o a c
 exact richCompare_meets_room (op:= .Lt) ⟨_,k,rfl⟩ ⟨_,d,rfl⟩ PySem.F.slot_tuple_lt PySem.F.entry_tuple_lt (PySem.F.args_tuple_lt_2 _ _) (aJ1 (lt:=lt) l b items.toArray items2.toArray n q t j B e xs ys z r)
  ⟨k,d,f,g,show Value.bool (aQC lt xs ys)≠Value.notImplemented/\Q (.bool (aQC lt xs ys)) s from⟨(λx=>nomatch x),h⟩⟩ C
def bKs:∀ {xs ys:List α},((cQJ (min xs.length ys.length)).all (λj=>decide (xs[j]? =ys[j]?)) && xs.length==ys.length)=decide (xs=ys):=by
 intro xs ys;rw[Bool.eq_iff_iff];simp only[Bool.and_eq_true,cJP,cQ5,decide_eq_true_eq,beq_iff_eq];constructor
 ·rintro⟨a,b⟩;apply cZN;intro i;by_cases c:i<xs.length
  ·exact a i (by omega)
  ·rw[cXa (by omega),cXa (by omega)]
 ·rintro rfl;exact⟨λ_ _=>rfl,rfl⟩
def aQi{rep:α->cQx->Prop}:∀ {xs:List α} {us:List cQx} {i:Nat} {u:cQx},cXn rep xs us->us[i]? =some u->∃x,xs[i]? =some x/\rep x u
 |_,_,0,_,.cons r _,h=>by simp at h;subst h;exact⟨_,rfl,r⟩
 |_,_,i+1,_,.cons _ t,h=>by simpa using aQi (i:=i) t (by simpa using h)
 |_,_,i,_,.nil,h=>by simp at h
def aQh{rep:α->cQx->Prop}(a:∀x y u,rep x u->rep y u->x=y):∀ {xs ys:List α} {us:List cQx},cXn rep xs us->cXn rep ys us->xs=ys
 |_,_,_,.nil,.nil=>rfl
 |_,_,_,.cons r t,.cons r' t'=>by rw[a _ _ _ r r',aQh a t t']
def bJ5(hl:cJu s.heap l items.toArray)(m:cJu s.heap b items2.toArray)(h:cXn rep xs items)(c:cXn rep ys items2)(E:A.units<cLine)(t:∀x y u,rep x u->rep y u->x=y) (d:∀x y u v,rep x u->rep y v->EqAt A.in1 s u v (decide (x=y))):EqAt A s (.ref l) (.ref b) (decide (xs=ys)):=by
 by_cases e:l=b
 ·subst e;obtain⟨o,g,_,n,a⟩:=hl;obtain⟨H,i,_,G,k⟩:=m;rw[g]at i;cases i;rw[a]at k;have f:items=items2:=by
   have:items.toArray=items2.toArray:=by injection k
   simpa using congrArg Array.toList this
  subst f;rw[decide_eq_true (aQh t h c)];exact EqAt.same _
 ·refine EqAt.of_refs e ?_;have z:=RcAt.tuples (A:=A) (s:=s) (e:=λj=>decide (xs[j]? =ys[j]?)) (show s.heap.IsTuple l items.toArray from hl) (show s.heap.IsTuple b items2.toArray from m) E λj g a=>?_
  ·have D:items.toArray.size=xs.length:=by rw[cQQ];exact h.length.symm
   have f:items2.toArray.size=ys.length:=by rw[cQQ];exact c.length.symm
   rw[D,f,bKs]at z;exact z
  ·have r:items[j]? =some items[j]:=cQw (by simpa using g);have C:items2[j]? =some items2[j]:=cQw (by simpa using a);obtain⟨x,F,p⟩:=aQi h r;obtain⟨y,w,B⟩:=aQi c C;have q:=d x y _ _ p B;show EqAt A.in1 s items[j] items2[j] (decide (xs[j]? =ys[j]?));rw[F,w];have:decide (some x=some y)=decide (x=y):=by simp
   rw[this];exact q
end
def bWz(i:Int)(u:cQx):Prop:=∃t,u= .int i t
def rep2(h:Heap)(p:Int×Int)(u:cQx):Prop:=∃a b,u= .ref a/\cJu h a b.toArray/\cXn bWz [p.1,p.2] b
def rep3(h:Heap)(c:List (Int×Int))(u:cQx):Prop:=∃a b,u= .ref a/\cJu h a b.toArray/\cXn (rep2 h) c b
def aWA(x y:Int)(u:cQx)(a:bWz x u)(b:bWz y u):x=y:=by
 obtain⟨t,rfl⟩:=a;obtain⟨c,e⟩:=b;cases e;rfl
def bJP{h:Heap}{a:Nat}{i j:List cQx}(d:cJu h a i.toArray)(e:cJu h a j.toArray):i=j:=by
 obtain⟨o,g,_,n,f⟩:=d;obtain⟨l,c,_,k,b⟩:=e;rw[g]at c;cases c;rw[f]at b;have:i.toArray=j.toArray:=by injection b
 simpa using congrArg Array.toList this
def bJc{h:Heap}(x y:Int×Int)(u:cQx)(f:rep2 h x u)(g:rep2 h y u):x=y:=by
 obtain⟨a,i,rfl,k,b⟩:=f;obtain⟨l,j,e,c,d⟩:=g;cases e;rw[bJP k c]at b;have:=aQh aWA b d;injection this with e1 e2;injection e2 with e2 _;exact Prod.ext e1 e2
section
variable {A:cXi}{s:cQA}
def eq1(x y:Int)(u v:cQx)(a:bWz x u)(b:bWz y v):EqAt A s u v (decide (x=y)):=by
 obtain⟨t,rfl⟩:=a;obtain⟨c,rfl⟩:=b;have:decide (x=y)=(x==y):=by rw[Bool.eq_iff_iff];simp
 rw[this];exact EqAt.int_int x t y c
def lt1(x y:Int)(u v:cQx)(d:x≠y)(a:bWz x u)(b:bWz y v):bKm A s u v (decide (x<y)):=by
 obtain⟨t,rfl⟩:=a;obtain⟨c,rfl⟩:=b;exact λprog w E Q h=>HT.bJb A s x t y c prog w E Q h
def eq2(g:A.units<cLine)(x y:Int×Int)(u v:cQx)(h:rep2 s.heap x u)(k:rep2 s.heap y v):EqAt A s u v (decide (x=y)):=by
 obtain⟨a,i,rfl,l,d⟩:=h;obtain⟨b,j,rfl,c,f⟩:=k;have z:=bJ5 l c d f g aWA λx y u v=>eq1 x y u v;have:decide ([x.1,x.2]= [y.1,y.2])=decide (x=y):=by
  rw[Bool.eq_iff_iff,decide_eq_true_eq,decide_eq_true_eq];constructor
  ·intro e;injection e with e1 e2;injection e2 with e2 _;exact Prod.ext e1 e2
  ·rintro rfl;rfl
 rw[this]at z;exact z
def aY7(x y:Int×Int):aQC (λa b:Int=>decide (a<b)) [x.1,x.2] [y.1,y.2]=vG x y:=by
 unfold vG aQC aQC aQC;by_cases c:x.1=y.1
 ·by_cases d:x.2=y.2<;> simp[c,d]
 ·simp[c]
def lt2(f:A.units<cLine)(x y:Int×Int)(u v:cQx)(k:x≠y)(g:rep2 s.heap x u)(h:rep2 s.heap y v):bKm A s u v (vG x y):=by
 obtain⟨a,i,rfl,l,d⟩:=g;obtain⟨b,j,rfl,c,e⟩:=h;have z:=bJ8 (lt:=λa b:Int=>decide (a<b)) l c d e f (λx y u v=>eq1 x y u v) (λx y u v=>lt1 x y u v);rw[aY7]at z;exact z
def eq3(f:A.units+1<cLine)(x y:List (Int×Int))(u v:cQx)(g:rep3 s.heap x u)(h:rep3 s.heap y v):EqAt A s u v (decide (x=y)):=by
 obtain⟨a,i,rfl,k,d⟩:=g;obtain⟨b,j,rfl,c,e⟩:=h;exact bJ5 k c d e (by omega) bJc λx y u v=>eq2 (A:=A.in1) f x y u v
def lt3(c:A.units+1<cLine)(x y:List (Int×Int))(u v:cQx)(k:x≠y)(g:rep3 s.heap x u)(h:rep3 s.heap y v):bKm A s u v (aQC vG x y):=by
 obtain⟨a,i,rfl,l,e⟩:=g;obtain⟨b,j,rfl,d,f⟩:=h;exact bJ8 l d e f (by omega) (λx y u v=>eq2 (A:=A.in1) c x y u v) (λx y u v=>lt2 (A:=A.in1) c x y u v)
end
section
variable {prog:cQT}{w:cQ2}{A:cXi}{E:cQx->cQA->Prop}{s:cQA}
def bV4{x y:Nat}{d l:Obj}{n k:Nat}{u v:cQx}{a c:List (Int×Int)}{i j:Int}{p o:Tok}{Q:Bool->cQA->Prop}(m:A.units+1<cLine)(z:s.heap.get? x=some d)(dx:d.data= .seq #[u,.int i p] n)(t:s.heap.get? y=some l)(q:l.data= .seq #[v,.int j o] k) (g:rep3 s.heap a u) (f:rep3 s.heap c v) (b:a=c->i=j) (h:Q (decide (a≠c) && aQC vG a c) s):cQF (cQH prog w) A (keyLt' (tuples' false) (.ref x) (.ref y)) Q E s:=by
 refine kat_lt z dx t q ?_;refine kat_cons (eq3 m a c u v g f prog w _ _ ?_);by_cases e:a=c
 ·rw[decide_eq_true e];refine kat_yes (kat_cons (aVh ?_));rw[beq_iff_eq.mpr (b e)];refine kat_yes (kat_nil ?_);simpa[e]using h
 ·rw[decide_eq_false e];have r:Q (aQC vG a c) s:=by simpa[e]using h
  exact kat_no (kat_one _ _ (lt3 m a c u v e g f prog w _ _ r))
def aJR{a:Nat}{vs:List cQx}{P:PySem.Fin->cQA->Prop}{n0:Nat}(H:s.heap.get? a=some (cXf "list" vs.toArray n0))(O:vs.length<64)(r:Nat->Int)(hr:Inj vs.length r) (v:2<=vs.length->∃κ,∀g,(∀c o,c≠a->s.heap.get? c=some o->g.get? c=some o)->(∀Q:SortKind->cQA->Prop,Q κ {s with heap:=g}->cQF (cQH prog w) A (keyKind' vs.toArray) Q (λ_ _=>False) {s with heap:=g})/\ ∀i j C,i<vs.length->j<vs.length->C (decide (r i<r j)) {s with heap:=g}->kas_ask prog w A κ vs i j C {s with heap:=g}) (F:∀ (p:List Nat) g c,p.Perm (cQJ vs.length)->p.Pairwise (λi j=>r i<r j)->(∀d o,d≠a->s.heap.get? d=some o->g.get? d=some o)->g.get? a=some (cXf "list" (p.map λi=>vs.getD i Value.none).toArray c)->P (.done (.ret .none)) {s with heap:=g}): cQF (cQH prog w) A (cZm.«list.sort» ⟨[.ref a],[]⟩) P E s:=by
 have ha:a<s.heap.objs.size:=cQN H;obtain⟨t,B⟩:∃t,(s.heap.update a (cXm λ_=>(#[]:Array cQx))).get? a=some (cXf "list" #[] t):=⟨_,cJw H λ_=> #[]⟩;rw[list_sort_plain];refine cQy (listItems_at H rfl ?_);refine cQy (cJX H rfl ?_ (by rw[cQQ,cQZ];omega) (cXz _));refine cQy (seqEpoch_at B rfl ?_);refine cQy (wpAny_newTuple ?_ (by show vs.length<=_;rw[cQZ];omega));refine cQy (cJt ?_ (cXz _));refine cXP ?_;have N:∀c o,c≠a->s.heap.get? c=some o->(((s.heap.update a (cXm λ_=>(#[]:Array cQx))).push (cXf "tuple" vs.toArray 0)).push (cXf "list" #[] 0)).get? c=some o:=λc o Y e=>
  cQD _ (cQD _ ((cQ9 _ _ (cXg Y)).trans e))
 have I:(((s.heap.update a (cXm λ_=>(#[]:Array cQx))).push (cXf "tuple" vs.toArray 0)).push (cXf "list" #[] 0)).get? a=some (cXf "list" #[] t):=cQD _ (cQD _ B);show cQF (cQH prog w) A _ P E {s with heap:=((s.heap.update a (cXm λ_=>(#[]:Array cQx))).push (cXf "tuple" vs.toArray 0)).push (cXf "list" #[] 0) };generalize ((s.heap.update a (cXm λ_=>(#[]:Array cQx))).push (cXf "tuple" vs.toArray 0)).push (cXf "list" #[] 0)=h1 at N I ⊢;dsimp only;have l:∀ (G:SortSt)(p:List Nat),p.Perm (cQJ vs.length)->p.Pairwise (λi j=>r i<r j)->(arrOf G).map (·.2)=cXI (p.map λi=>vs.getD i Value.none)->failedOf G=none->
   cQF (cQH prog w) A (do
    let b:=(<- seqEpoch a) !=t
    Builtin.List.listUpdate (.ref a) λ_=>(arrOf G).map (·.2)
    if let some e:=failedOf G then rule "list.sort.comparison-raised";throw e
    if b then rule "list.sort.modified";raiseError "ValueError" "list modified during sort"
    ret .none) P E {s with heap:=h1}:=by
  intro G p h q z T
  have M:p.length=vs.length:=by rw[h.length_eq,cXp]
  rw[z]
  obtain⟨S,K⟩:∃S,(h1.update a (cXm λ_=>cXI (p.map λi=>vs.getD i Value.none))).get? a=some (cXf "list" (cXI (p.map λi=>vs.getD i Value.none)) S):=⟨_,cJw I λ_=>cXI (p.map λi=>vs.getD i Value.none)⟩
  have R:(cXI (p.map λi=>vs.getD i Value.none)).size=vs.length:=by rw[cQQ,cQB,M]
  refine cQy (seqEpoch_at I rfl ?_)
  refine cQy (cJX I rfl ?_ (cXz _) (cQ7 (cJi R) (by rw[cQZ];omega)))
  rw[T]
  simp only[bne_self_eq_false,Bool.false_eq_true,if_false]
  exact cQC (F p _ S h q (λd o V e=>(cQ9 _ _ (cXg V)).trans (N d o V e)) K)
 by_cases m:vs.toArray.size<2
 ·rw[if_pos m,if_pos m];refine cQy (cQC ?_);refine cQy (cQC ?_);have n:vs.length<2:=by rw[cQQ]at m;exact m
  refine l (SortSt.mk' general' (vs.toArray.zip vs.toArray) #[] 7 none) (cQJ vs.length) (List.Perm.refl _) ?_ ?_ rfl
  ·rw[cJc];intro i j J W X;rw[cXp]at J W;omega
  ·show((cXI vs).zip (cXI vs)).map (·.2)=_;apply Array.toList_inj.mp;rw[Array.toList_map,Array.toList_zip];simp only[cVL];have t:(List.zip vs vs).map (·.2)=vs:=List.map_snd_zip (cQE _);rw[t];apply cZN;intro i;rw[cQR];by_cases J:i<vs.length
   ·rw[cZB J];simp[cXk,cQw J]
   ·rw[cXa (by omega),cXa (by rw[cXp];omega)];rfl
 ·have n:2<=vs.length:=by rw[cQQ]at m;omega
  rw[if_neg m,if_neg m];obtain⟨κ,hκ⟩:=v n;obtain⟨hκ,u⟩:=hκ h1 N;refine cQy (cXD (hκ (λk y=>k=κ/\y= {s with heap:=h1}) ⟨rfl,rfl⟩) (λk y hq=>?_) λ_ _ x=>x.elim);obtain⟨rfl,rfl⟩:=hq;have U:(kas_sort vs.length).kasWp (kas_ask prog w A k vs) (λp D=>D= {s with heap:=h1}/\p.toList.Perm (cQJ vs.length)/\p.toList.Pairwise (λi j=>r i<r j)) {s with heap:=h1}:=
   Asks.wp (lt:=aQD r) u (aJS hr (by omega)) λp hp=>⟨rfl,hp⟩
  refine cQy (cXD (kat_run (Q:=λf D=>∃p:Array Nat,arrOf f=p.map (kas_item (vs.toArray.zip vs.toArray))/\failedOf f=none/\
    D= {s with heap:=h1}/\p.toList.Perm (cQJ vs.length)/\p.toList.Pairwise (λi j=>r i<r j))
   rfl n O (λp' f D a1 a2 Z a4=>⟨p',a2,Z,a4⟩) U) ?_ λ_ _ x=>x)
  rintro⟨⟨⟩,f⟩ D ⟨p,L,T,rfl,h,q⟩;dsimp only;exact l _ p.toList h q (kat_snds rfl L) T
end
end Stree
namespace Stree
open PySem PySem.W PySem.Calls PyProof.Rows
abbrev Z6:=List (Int×Int)
abbrev qT:Z6->Z6->Bool:=aQC vG
def vX:∀a:Z6,qT a a=false
 |[]=>rfl
 |x::r=>by show(if x=x then aQC vG r r else vG x x)=false;rw[if_pos rfl];exact vX r
def aQe:∀ {a b c:Z6},qT a b=true->qT b c=true->qT a c=true
 |[],[],_,h,_=>by cases h
 |[],_::_,[],_,h=>by cases h
 |[],_::_,_::_,_,_=>rfl
 |_::_,[],_,h,_=>by cases h
 |_::_,_::_,[],_,h=>by cases h
 |x::a,y::b,z::c,h1,h2=>by
  have f:(if x=y then aQC vG a b else vG x y)=true:=h1;have d:(if y=z then aQC vG b c else vG y z)=true:=h2;show(if x=z then aQC vG a c else vG x z)=true;by_cases i:x=y
  ·rw[if_pos i]at f;subst i;by_cases g:x=z
   ·rw[if_pos g]at d ⊢;exact aQe f d
   ·rw[if_neg g]at d ⊢;exact d
  ·rw[if_neg i]at f;by_cases g:y=z
   ·rw[if_pos g]at d;subst g;rw[if_neg i];exact f
   ·rw[if_neg g]at d;have j:=aZw f d;have:x≠z:=λe=>by rw[e,vW]at j;cases j
    rw[if_neg this];exact j
def aZx:∀ {a b:Z6},a≠b->qT a b=true\/qT b a=true
 |[],[],h=>absurd rfl h
 |[],_::_,_=> .inl rfl
 |_::_,[],_=> .inr rfl
 |x::a,y::b,h=>by
  show(if x=y then aQC vG a b else vG x y)=true\/(if y=x then aQC vG b a else vG y x)=true;by_cases e:x=y
  ·subst e;rw[if_pos rfl,if_pos rfl];exact aZx λz=>h (by rw[z])
  ·rw[if_neg e,if_neg (cXg e)];exact aZv e
def aWn:∀ (a:Z6) {b:Z6},b≠ []->qT a (a++b)=true
 |[],[],h=>absurd rfl h
 |[],_::_,_=>rfl
 |x::a,b,h=>by show(if x=x then aQC vG a (a++b)else _)=true;rw[if_pos rfl];exact aWn a h
def aJx:∀ (a:Z6) {x y:Int×Int} {b c:Z6},vG x y=true->qT (a++x::b) (a++y::c)=true
 |[],x,y,b,c,h=>by
  show(if x=y then aQC vG b c else vG x y)=true;have:x≠y:=λe=>by rw[e,vW]at h;cases h
  rw[if_neg this];exact h
 |z::a,x,y,b,c,h=>by show(if z=z then aQC vG (a++x::b) (a++y::c)else _)=true;rw[if_pos rfl];exact aJx a h
def uniq{α:Type}{lt:α->α->Prop}(d:∀a,¬lt a a)(i:∀a b c,lt a b->lt b c->lt a c):∀ {l m:List α},l.Pairwise lt->m.Pairwise lt->(∀a,a∈l↔a∈m)->l=m
 |[],[],_,_,_=>rfl
 |[],y::m,_,_,h=>by have:=(h y).mpr cQM;cases this
 |x::l,[],_,_,h=>by have:=(h x).mp cQM;cases this
 |x::l,y::m,h1,h2,h=>by
  obtain⟨j,k⟩:=cX2.mp h1;obtain⟨b1,n⟩:=cX2.mp h2;have e:x=y:=by
   rcases cQG.mp ((h x).mp cQM)with e|e
   ·exact e
   ·rcases cQG.mp ((h y).mpr cQM)with g|g
    ·exact g.symm
    ·exact absurd (i _ _ _ (j y g) (b1 x e)) (d x)
  subst e;rw[uniq d i k n λa=>?_];constructor
  ·intro f;rcases cQG.mp ((h a).mp (cQI _ f))with e|e
   ·subst e;exact absurd (j a f) (d a)
   ·exact e
  ·intro f;rcases cQG.mp ((h a).mpr (cQI _ f))with e|e
   ·subst e;exact absurd (b1 a f) (d a)
   ·exact e
def IsTup.keep{h h':Heap}{a x:Nat}{vs its:Array cQx}{n:Nat}(f:h.get? a=some (cXf "list" vs n))(k:∀c o,c≠a->h.get? c=some o->h'.get? c=some o)(t:cJu h x its):cJu h' x its:=by
 obtain⟨o,e,c,m,d⟩:=t;refine⟨o,k x o (λz=>?_) e,c,m,d⟩;rw[z,f]at e;cases e;have b:Value.type "list"=Value.type "tuple":=c;injection b with c'';exact absurd c'' (by decide)
def rep2.keep{h h':Heap}{a:Nat}{vs:Array cQx}{n:Nat}(b:h.get? a=some (cXf "list" vs n))(k:∀c o,c≠a->h.get? c=some o->h'.get? c=some o){p:Int×Int}{u:cQx}(t:rep2 h p u):rep2 h' p u:=
 let ⟨x,its,e,t1,t2⟩:=t;⟨x,its,e,IsTup.keep b k t1,t2⟩
def rep3.keep{h h':Heap}{a:Nat}{vs:Array cQx}{n:Nat}(b:h.get? a=some (cXf "list" vs n))(k:∀c o,c≠a->h.get? c=some o->h'.get? c=some o){p:Z6}{u:cQx}(t:rep3 h p u):rep3 h' p u:=
 let ⟨x,its,e,t1,t2⟩:=t;⟨x,its,e,IsTup.keep b k t1,L2.Paired.mapP t2 λ_ _ z=>rep2.keep b k z⟩
end Stree
namespace L2
open PySem PySem.Spec PyProof.Rows
open Stree (Z6 qT)
def bVA(H:Hp)(p:Int×Int)(x:V):Prop:=∃c,x= .ref c/\H c=some (.tup [.int p.1,.int p.2])
def Q5(H:Hp)(b:Nat)(c:Z6):Prop:=∃a,H b=some (.tup a)/\cXn (bVA H) c a
section
variable {X:Cx}{pins:List (Nat×Obj)}{σ:St}{H:Hp}{s:cQA}{k:Nat}
def bQD{α β γ:Type}{F:α->β->Prop}{G:β->γ->Prop}{K:α->γ->Prop}(h:∀a b c,F a b->G b c->K a c):∀ {l:List α} {m:List β} {n:List γ},cXn F l m->cXn G m n->cXn K l n
 |_,_,_,.nil,.nil=> .nil
 |_,_,_,.cons a r,.cons b t=> .cons (h _ _ _ a b) (bQD h r t)
def Inv.rep2(I:Inv X pins σ H s){p:Int×Int}{x:V}{u:cQx}(h:bVA H p x)(r:wE x u):Stree.rep2 s.heap p u:=by
 obtain⟨c,rfl,e⟩:=h;cases r;obtain⟨f,a,pl,_⟩:=I.tuple (SqT.of e);obtain⟨g,i,rfl,b,d⟩:=zD.two a;exact⟨c,_,rfl,pl,.cons b (.cons d .nil)⟩
def Inv.rep3(I:Inv X pins σ H s){b:Nat}{f:Z6}(h:Q5 H b f):Stree.rep3 s.heap f (.ref b):=by
 obtain⟨i,e,z⟩:=h;obtain⟨d,g,pl,_⟩:=I.tuple (SqT.of e);exact⟨b,d,rfl,pl,bQD (F:=bVA H) (G:=wE) (K:=Stree.rep2 s.heap) (λ_ _ _ a c=>I.rep2 a c) z g⟩
def aQJ(hr:uS k X.A):jX X (.builtin "sorted") (λxs H Q=>∃ (p:Nat)(its:List V)(d:Nat->Z6)(kn:Nat->Int),xs= [.ref p]/\H p=some (.lst its)/\its.length<64/\ (∀i j,i<its.length->j<its.length->d i=d j->i=j)/\(∀i x,its[i]? =some x->∃a b,x= .ref a/\H a=some (.tup [.ref b,.int (kn i)])/\Q5 H b (d i))/\ ∀l (out:List Nat),H l=none->out.Perm (cQJ its.length)->(out.Pairwise λi j=>qT (d i) (d j)=true)->Q (.ref l) (upd H l (.lst (out.map λi=>its.getD i .non)))):=by
 intro pins s σ H xs us Q I r h;obtain⟨p,its,d,kn,rfl,hp,b1,K,a8,q⟩:=h;obtain⟨u,rfl,ru⟩:=aQs r;cases ru;obtain⟨g,rv,pl,hz⟩:=I.list (SqL.of hp);have Z:g.length=its.length:=rv.length.symm;refine cJb kind_sorted cVH cVE (args_sorted1 _) ?_;unfold cZm.«sorted»;refine cQy (m:=checkCount "sorted" 1 1 _) (cQC ?_);refine cQy (collect_list pl.isList ?_ (by rw[cQZ];omega));refine cQy (cJt ?_ (by rw[cQZ];omega));have O:((s.heap.push (cXf "list" #[] 0)).update s.heap.objs.size (cXm (·++g.toArray))).objs.size=s.heap.objs.size+1:=by rw[cVm,size_push']
 have y:(((s.heap.push (cXf "list" #[] 0)).update s.heap.objs.size (cXm (·++g.toArray))).push (cXf "list" g.toArray 0)).get? (s.heap.objs.size+1)=some (cXf "list" g.toArray 0):=by rw[<- O];exact cQY _ rfl
 have keep:∀b o,s.heap.get? b=some o->(((s.heap.push (cXf "list" #[] 0)).update s.heap.objs.size (cXm (·++g.toArray))).push (cXf "list" g.toArray 0)).get? b=some o:=λb o q=>by have F:b<s.heap.objs.size:=cQN q;rw[Heap.get?_push_ne _ _ _ (by rw[O];exact cQV (cXF F)),cVK _ _ _ _ (cQV F),Heap.get?_push_ne _ _ _ (cQV F)];exact q
 show cQF _ _ _ _ _ {s with heap:=((s.heap.push (cXf "list" #[] 0)).update s.heap.objs.size (cXm (·++g.toArray))).push (cXf "list" g.toArray 0) };rw[O];generalize a9:((s.heap.push (cXf "list" #[] 0)).update s.heap.objs.size (cXm (·++g.toArray))).push (cXf "list" g.toArray 0)=L at y keep ⊢;refine cQy (cXP (cX6 cJL ⟨_,y,rfl⟩ cJE ?body (cJJ _)));case body=>
  have I1:Inv X pins σ H {s with heap:=L}:=I.kept (t':=s.toks) keep;have P:s.heap.objs.size<=s.heap.objs.size+1:=cZD _;have fa:=I.fpOk (b:=s.heap.objs.size+1) P (I.hok.fresh P);obtain⟨r,a2,a1⟩:=Stree.aVG (n:=g.length) (λi j=>qT (d i) (d j)) (λi _=>Stree.vX _) (λi j k _ _ _ L E=>Stree.aQe L E)
   (λi j B S a7=>Stree.aZx λz=>a7 (K i j (by omega) (by omega) z))
  have ob:∀i,i<g.length->∃a o u t m,g.getD i Value.none= .ref a/\L.get? a=some o/\o.cls= .type "tuple"/\o.data= .seq #[u,.int (kn i) t] m/\Stree.rep3 L (d i) u:=λi B=>by
   have C:i<its.length:=by omega
   obtain⟨a,b,e1,e2,e3⟩:=a8 i its[i] (cQw C);obtain⟨u0,U,J⟩:=rv.get (cQw C);rw[e1]at J;cases J;obtain⟨b0,rj,pj,_⟩:=I1.tuple (SqT.of e2);obtain⟨u1,u2,rfl,q1,q2⟩:=zD.two rj;cases q1;obtain⟨t,rfl⟩:=q2;obtain⟨o,G,D,m,N⟩:=pj;exact⟨a,o,_,t,m,by simp[cXk,U],G,D,N,I1.rep3 e3⟩
  refine Stree.aJR (s:={s with heap:=L}) y (by omega) r a2 (λE=>⟨tuples' false,λE k2=>⟨λQ' a3=>?_,λi j C' B S hC=>?_⟩⟩) λp h5 c5 R a5 k5 o5=>?_
  ·have kt:∀ {x:Nat} {o:Obj},L.get? x=some o->o.cls= .type "tuple"->E.get? x=some o:=λ{x o} e c=>k2 x o (λz=>by rw[z,y]at e;cases e;have c':Value.type "list"=Value.type "tuple":=c;injection c' with c'';exact absurd c'' (by decide)) e;have a0:∀ (l:List cQx),(∀ (i:Nat)(v:cQx),l[i]? =some v->∃a o u w m,v=Value.ref a/\E.get? a=some o/\o.cls= .type "tuple"/\o.data= .seq #[u,w] m/\∃c its,u= .ref c/\cJu E c its)->
     ∃fs,cWb E l fs/\fs.length=l.length/\∀f∈fs,∃c its,f=Value.ref c/\cJu E c its:=by
    intro l
    induction l with
    |nil=>intro _;exact⟨[],trivial,rfl,λf hf=>by cases hf⟩
    |cons v l ih=>
     intro M;obtain⟨a,o,u,w,m,rfl,G,D,N,c,its,rfl,Y⟩:=M 0 v rfl;obtain⟨fs,f1,f2,f3⟩:=ih λi v h=>M (i+1) v h;refine⟨.ref c::fs,cVB G D N rfl f1,by simp[f2],λf hf=>?_⟩;rcases cQG.mp hf with rfl|hf
     ·exact⟨c,its,rfl,Y⟩
     ·exact f3 f hf
   obtain⟨fs,f1,f2,f3⟩:=a0 g λi v M=>by
    have B:i<g.length:=by
     rcases cJD i g.length with h|h
     ·exact h
     ·rw[cXa h]at M;cases M
    obtain⟨a,o,u,t,m,g0,G,D,N,Y⟩:=ob i B;have:g.getD i Value.none=v:=by simp[cXk,M]
    rw[this]at g0;obtain⟨c,its,e,g5,_⟩:=Y;exact⟨a,o,u,_,m,g0,kt G D,D,N,c,_,e,Stree.IsTup.keep y k2 g5⟩
   refine PySem.W.kat_kind (T:= .type "tuple") f1 (by omega) (λv M=>?_) rfl a3;obtain⟨c,its,rfl,o,G,D,_⟩:=f3 v M;have z:PySem.W.Looks (cQH X.prog X.w) E (typeOf (.ref c)) o.cls:=(PySem.W.Looks.ld G).andThen .now;rw[D]at z;exact z
  ·obtain⟨ai,oi,ui,t1,m1,g0,G,D,N,Y⟩:=ob i B;obtain⟨aj,oj,uj,t3,m2,d0,d1,d2,d3,d4⟩:=ob j S;have kt:∀ {x:Nat} {o:Obj},L.get? x=some o->o.cls= .type "tuple"->E.get? x=some o:=λ{x o} e c=>k2 x o (λz=>by rw[z,y]at e;cases e;have c':Value.type "list"=Value.type "tuple":=c;injection c' with c'';exact absurd c'' (by decide)) e;show cQF _ _ (keyLt' _ (g.getD i Value.none) (g.getD j Value.none)) _ _ _;rw[g0,d0];refine Stree.bV4 (by have:=hr.un;show X.A.units+1+1+1<cLine;omega) (kt G D) N (kt d1 d2) d3 (Stree.rep3.keep y k2 Y) (Stree.rep3.keep y k2 d4) (λz=>by rw[K i j (by omega) (by omega) z]) ?_;have e1:=a1 i j B S;rw[e1]at hC;by_cases z:d i=d j
   ·have:qT (d i) (d j)=false:=by rw[z];exact Stree.vX _
    rw[this]at hC;simpa[z]using hC
   ·have:decide (d i≠d j)=true:=decide_eq_true z;rw[this,Bool.true_and];exact hC
  ·have hm:∀i∈p,i<g.length:=λi B=>cQ5.mp (R.mem_iff.mp B);have vv:∀l:List Nat,(∀i∈l,i<g.length)->zD (l.map λi=>its.getD i .non) (l.map λi=>g.getD i Value.none):=by
    intro l;induction l with
    |nil=>intro _;exact .nil
    |cons i l ih=>
     intro h;refine .cons ?_ (ih λj S=>h j (cQI _ S));have B:=h i cQM;have C:i<its.length:=by omega
     obtain⟨u0,U,J⟩:=rv.get (cQw C);show wE (its.getD i .non) (g.getD i Value.none);have e1:g.getD i Value.none=u0:=by simp[cXk,U]
     have e2:its.getD i .non=its[i]:=by simp[cXk,cQw C]
     rw[e1,e2];exact J
   have v2:=vv p hm;have a6:p.Perm (cQJ its.length):=by rw[<- Z];exact R
   have F:p.length=g.length:=by rw[R.length_eq,cXp]
   have a4:p.Pairwise λi j=>qT (d i) (d j)=true:=a5.imp_of_mem λ{i j} B S h=>by have:=a1 i j (hm i B) (hm j S);rw[<- this];exact decide_eq_true h
   have I5:Inv X pins σ (upd H (s.heap.objs.size+1) (.lst (p.map λi=>its.getD i .non))) {s with heap:=h5}:=
    I.laid (t':=s.toks) (λb o e=>k5 b o (cQV (cXF (cQN e))) (keep b o e)) P ⟨by rw[cQB,cQZ];omega,_,c5,v2,o5⟩
   exact⟨_,rfl,cQC ⟨_,rfl,⟨.ref _,_,I5,rfl,q _ p fa.1 a6 a4⟩⟩⟩
end
end L2
namespace L2
open PySem PySem.Spec PyProof.Rows
section
variable {X:Cx}
def jU:jX X (.builtin "sorted") (λxs H Q=>∃ (p:Nat)(its:List V)(g:Nat->Int×Int),xs= [.ref p]/\H p=some (.lst its)/\its.length<64/\ (∀i j,i<its.length->j<its.length->g i=g j->i=j)/\(∀i x,its[i]? =some x->∃a,x= .ref a/\H a=some (.tup [.int (g i).1,.int (g i).2]))/\ ∀l (out:List Nat),H l=none->out.Perm (cQJ its.length)->(out.Pairwise λi j=>Stree.vG (g i) (g j)=true)->Q (.ref l) (upd H l (.lst (out.map λi=>its.getD i .non)))):=by
 intro G s σ H xs us Q I r h;obtain⟨p,its,g,rfl,hp,b2,Y,a9,q⟩:=h;obtain⟨u,rfl,ru⟩:=aQs r;cases ru;obtain⟨d,rv,pl,hz⟩:=I.list (SqL.of hp);have Z:d.length=its.length:=rv.length.symm;refine cJb kind_sorted cVH cVE (args_sorted1 _) ?_;unfold cZm.«sorted»;refine cQy (m:=checkCount "sorted" 1 1 _) (cQC ?_);refine cQy (collect_list pl.isList ?_ (by rw[cQZ];omega));refine cQy (cJt ?_ (by rw[cQZ];omega));have U:((s.heap.push (cXf "list" #[] 0)).update s.heap.objs.size (cXm (·++d.toArray))).objs.size=s.heap.objs.size+1:=by rw[cVm,size_push']
 have A:(((s.heap.push (cXf "list" #[] 0)).update s.heap.objs.size (cXm (·++d.toArray))).push (cXf "list" d.toArray 0)).get? (s.heap.objs.size+1)=some (cXf "list" d.toArray 0):=by rw[<- U];exact cQY _ rfl
 have keep:∀b o,s.heap.get? b=some o->(((s.heap.push (cXf "list" #[] 0)).update s.heap.objs.size (cXm (·++d.toArray))).push (cXf "list" d.toArray 0)).get? b=some o:=λb o q=>by have a0:b<s.heap.objs.size:=cQN q;refine cQD _ ?_;exact(cQ9 _ _ (cZZ a0)).trans (cQD _ q)
 show cQF _ _ _ _ _ {s with heap:=((s.heap.push (cXf "list" #[] 0)).update s.heap.objs.size (cXm (·++d.toArray))).push (cXf "list" d.toArray 0) };rw[U];generalize b0:((s.heap.push (cXf "list" #[] 0)).update s.heap.objs.size (cXm (·++d.toArray))).push (cXf "list" d.toArray 0)=M at A keep ⊢;refine cQy (cXP (cX6 cJL ⟨_,A,rfl⟩ cJE ?body (cJJ _)));case body=>
  have I1:Inv X G σ H {s with heap:=M}:=I.kept (t':=s.toks) keep;have L:s.heap.objs.size<=s.heap.objs.size+1:=cZD _;have fa:=I.fpOk (b:=s.heap.objs.size+1) L (I.hok.fresh L);obtain⟨r,a3,a2⟩:=Stree.aVG (n:=d.length) (λi j=>Stree.vG (g i) (g j)) (λi _=>Stree.vW _) (λi j k _ _ _ M N=>Stree.aZw M N)
   (λi j B R a8=>Stree.aZv λz=>a8 (Y i j (by omega) (by omega) z))
  have ob:∀i,i<d.length->∃a o w D m,d.getD i Value.none= .ref a/\M.get? a=some o/\o.cls= .type "tuple"/\o.data= .seq #[.int (g i).1 w,.int (g i).2 D] m:=λi B=>by
   have C:i<its.length:=by omega
   obtain⟨a,e1,e2⟩:=a9 i its[i] (cQw C);obtain⟨u0,S,E⟩:=rv.get (cQw C);rw[e1]at E;cases E;obtain⟨b1,rj,pj,_⟩:=I1.tuple (SqT.of e2);obtain⟨u1,u2,rfl,q1,q2⟩:=zD.two rj;obtain⟨w,rfl⟩:=q1;obtain⟨D,rfl⟩:=q2;obtain⟨o,O,F,m,K⟩:=pj;exact⟨a,o,w,D,m,by simp[cXk,S],O,F,K⟩
  refine Stree.aJR (s:={s with heap:=M}) A (by omega) r a3 (λN=>⟨tuples' true,λN k2=>⟨λQ' a4=>?_,λi j C' B R hC=>?_⟩⟩) λp h5 c5 P a6 k5 o5=>?_
  ·have kt:∀ {x:Nat} {o:Obj},M.get? x=some o->o.cls= .type "tuple"->N.get? x=some o:=λ{x o} e c=>k2 x o (λz=>by rw[z,A]at e;cases e;have c':Value.type "list"=Value.type "tuple":=c;injection c' with c'';exact absurd c'' (by decide)) e;have a1:∀ (l:List cQx),(∀ (i:Nat)(v:cQx),l[i]? =some v->∃a o w D m x y,v=Value.ref a/\N.get? a=some o/\o.cls= .type "tuple"/\o.data= .seq #[.int x w,.int y D] m)->
     ∃fs,cWb N l fs/\fs.length=l.length/\∀f∈fs,∃x t,f=Value.int x t:=by
    intro l
    induction l with
    |nil=>intro _;exact⟨[],trivial,rfl,λf hf=>by cases hf⟩
    |cons v l ih=>
     intro J;obtain⟨a,o,w,D,m,x,y,rfl,O,F,K⟩:=J 0 v rfl;obtain⟨fs,f1,f2,f3⟩:=ih λi v h=>J (i+1) v h;refine⟨.int x w::fs,cVB O F K rfl f1,by simp[f2],λf hf=>?_⟩;rcases cQG.mp hf with rfl|hf
     ·exact⟨x,w,rfl⟩
     ·exact f3 f hf
   obtain⟨fs,f1,f2,f3⟩:=a1 d λi v J=>by
    have B:i<d.length:=by
     rcases cJD i d.length with h|h
     ·exact h
     ·rw[cXa h]at J;cases J
    obtain⟨a,o,w,D,m,g0,O,F,K⟩:=ob i B;have:d.getD i Value.none=v:=by simp[cXk,J]
    rw[this]at g0;exact⟨a,o,w,D,m,_,_,g0,kt O F,F,K⟩
   refine PySem.W.kat_kind (T:= .type "int") f1 (by omega) (λv J=>?_) rfl a4;obtain⟨x,t,rfl⟩:=f3 v J;exact .now
  ·obtain⟨ai,oi,w,D,m1,g0,O,F,K⟩:=ob i B;obtain⟨aj,oj,t3,t4,m2,d0,d1,d2,d3⟩:=ob j R;have kt:∀ {x:Nat} {o:Obj},M.get? x=some o->o.cls= .type "tuple"->N.get? x=some o:=λ{x o} e c=>k2 x o (λz=>by rw[z,A]at e;cases e;have c':Value.type "list"=Value.type "tuple":=c;injection c' with c'';exact absurd c'' (by decide)) e;show cQF _ _ (keyLt' _ (d.getD i Value.none) (d.getD j Value.none)) _ _ _;rw[g0,d0];refine Stree.bQa (kt O F) K (kt d1 d2) d3 ?_;have e1:=a2 i j B R;rw[e1]at hC;exact hC
  ·have hm:∀i∈p,i<d.length:=λi B=>cQ5.mp (P.mem_iff.mp B);have vv:∀l:List Nat,(∀i∈l,i<d.length)->zD (l.map λi=>its.getD i .non) (l.map λi=>d.getD i Value.none):=by
    intro l;induction l with
    |nil=>intro _;exact .nil
    |cons i l ih=>
     intro h;refine .cons ?_ (ih λj R=>h j (cQI _ R));have B:=h i cQM;have C:i<its.length:=by omega
     obtain⟨u0,S,E⟩:=rv.get (cQw C);show wE (its.getD i .non) (d.getD i Value.none);have e1:d.getD i Value.none=u0:=by simp[cXk,S]
     have e2:its.getD i .non=its[i]:=by simp[cXk,cQw C]
     rw[e1,e2];exact E
   have v2:=vv p hm;have a7:p.Perm (cQJ its.length):=by rw[<- Z];exact P
   have a0:p.length=d.length:=by rw[P.length_eq,cXp]
   have a5:p.Pairwise λi j=>Stree.vG (g i) (g j)=true:=a6.imp_of_mem λ{i j} B R h=>by have:=a2 i j (hm i B) (hm j R);rw[<- this];exact decide_eq_true h
   have I5:Inv X G σ (upd H (s.heap.objs.size+1) (.lst (p.map λi=>its.getD i .non))) {s with heap:=h5}:=
    I.laid (t':=s.toks) (λb o e=>k5 b o (cQV (cXF (cQN e))) (keep b o e)) L ⟨by rw[cQB,cQZ];omega,_,c5,v2,o5⟩
   exact⟨_,rfl,cQC ⟨_,rfl,⟨.ref _,_,I5,rfl,q _ p fa.1 a7 a5⟩⟩⟩
end
end L2
namespace Fm
open Stree (Z6 qT vG)
structure Ok(n:Nat)(L:Nat->Option Nat)(rk:Nat->Nat):Prop where
 lt:∀i j,i<n->L i=some j->j<n/\rk j<rk i
def rdF(L:Nat->Option Nat)(D:Nat->Int):Nat->Nat->Z6
 |0,i=> [(D i,(i:Int))]
 |f+1,i=>match L i with
  |none=> [(D i,(i:Int))]
  |some j=>rdF L D f j++ [(D i,(i:Int))]
def tpF(L:Nat->Option Nat):Nat->Nat->Nat
 |0,i=>i
 |f+1,i=>match L i with
  |none=>i
  |some j=>tpF L f j
section
variable {n:Nat}{L:Nat->Option Nat}{D:Nat->Int}{rk:Nat->Nat}
def aZF{i:Nat}(h:L i=none):∀f,rdF L D f i= [(D i,(i:Int))]
 |0=>rfl
 |f+1=>by unfold rdF;rw[h]
def aZ0{i:Nat}(h:L i=none):∀f,tpF L f i=i
 |0=>rfl
 |f+1=>by unfold tpF;rw[h]
def qX(o:Ok n L rk):∀ (f g i:Nat),i<n->rk i<=f->rk i<=g->rdF L D f i=rdF L D g i
 |f,g,i,hi,hf,hg=>by
  cases h:L i with
  |none=>rw[aZF h,aZF h]
  |some j=>
   obtain⟨a,b⟩:=o.lt i j hi h;cases f with
   |zero=>omega
   |succ f=>
    cases g with
    |zero=>omega
    |succ g=>show(match L i with|none=>_|some j=>rdF L D f j++ [(D i,(i:Int))])=(match L i with|none=>_|some j=>rdF L D g j++ [(D i,(i:Int))]);rw[h];show rdF L D f j++_=rdF L D g j++_;rw[qX o f g j a (by omega) (by omega)]
def Y3(o:Ok n L rk):∀ (f g i:Nat),i<n->rk i<=f->rk i<=g->tpF L f i=tpF L g i
 |f,g,i,hi,hf,hg=>by
  cases h:L i with
  |none=>rw[aZ0 h,aZ0 h]
  |some j=>
   obtain⟨a,b⟩:=o.lt i j hi h;cases f with
   |zero=>omega
   |succ f=>
    cases g with
    |zero=>omega
    |succ g=>show(match L i with|none=>_|some j=>tpF L f j)=(match L i with|none=>_|some j=>tpF L g j);rw[h];exact Y3 o f g j a (by omega) (by omega)
def rd(L:Nat->Option Nat)(D:Nat->Int)(rk:Nat->Nat)(i:Nat):Z6:=rdF L D (rk i) i
def tp(L:Nat->Option Nat)(rk:Nat->Nat)(i:Nat):Nat:=tpF L (rk i) i
def aQk{i:Nat}(h:L i=none):rd L D rk i= [(D i,(i:Int))]:=aZF h _
def wM{i:Nat}(h:L i=none):tp L rk i=i:=aZ0 h _
def jP(o:Ok n L rk){i j:Nat}(b:i<n)(h:L i=some j):rd L D rk i=rd L D rk j++ [(D i,(i:Int))]:=by
 obtain⟨a,d⟩:=o.lt i j b h;unfold rd;cases c:rk i with
 |zero=>omega
 |succ m=>show(match L i with|none=>_|some j=>rdF L D m j++ [(D i,(i:Int))])=_;rw[h];show rdF L D m j++_=_;rw[qX o m (rk j) j a (by omega) (cQE _)]
def uW(o:Ok n L rk){i j:Nat}(b:i<n)(h:L i=some j):tp L rk i=tp L rk j:=by
 obtain⟨a,d⟩:=o.lt i j b h;unfold tp;cases c:rk i with
 |zero=>omega
 |succ m=>show(match L i with|none=>_|some j=>tpF L m j)=_;rw[h];exact Y3 o m (rk j) j a (by omega) (cQE _)
def aZk(o:Ok n L rk){P:Nat->Prop}(h0:∀i,i<n->L i=none->P i)(a:∀i j,i<n->L i=some j->P j->P i):∀ (m i:Nat),rk i<=m->i<n->P i
 |m,i,hm,hi=>by
  cases h:L i with
  |none=>exact h0 i hi h
  |some j=>
   obtain⟨b,c⟩:=o.lt i j hi h;cases m with
   |zero=>omega
   |succ m=>exact a i j hi h (aZk o h0 a m j (by omega) b)
def bXS(o:Ok n L rk){i:Nat}(a:i<n):tp L rk i<n/\L (tp L rk i)=none:=
 aZk o (P:=λi=>tp L rk i<n/\L (tp L rk i)=none) (λi a h=>by rw[wM h];exact⟨a,h⟩) (λi j a h b=>by rw[uW o a h];exact b) (rk i) i (cQE _) a
def aZG(o:Ok n L rk){i:Nat}(a:i<n):∃r,rd L D rk i=r++ [(D i,(i:Int))]:=by
 cases h:L i with
 |none=>exact⟨[],aQk h⟩
 |some j=>exact⟨_,jP o a h⟩
def bQN(o:Ok n L rk){i j:Nat}(c:i<n)(a:j<n)(h:rd L D rk i=rd L D rk j):i=j:=by
 obtain⟨r,e⟩:=aZG (D:=D) o c;obtain⟨d,b⟩:=aZG (D:=D) o a;rw[e,b]at h;have:=(cJQ h rfl).2;injection this with z _;have:=congrArg Prod.snd z;simp only at this;omega
def bWw(o:Ok n L rk){i:Nat}(a:i<n):∃r,rd L D rk i=(D (tp L rk i),((tp L rk i:Nat):Int))::r:=
 aZk o (P:=λi=>∃r,rd L D rk i=(D (tp L rk i),((tp L rk i:Nat):Int))::r) (λi a h=>⟨[],by rw[aQk h,wM h]⟩)
  (λi j a h ⟨r,e⟩=>⟨r++ [(D i,(i:Int))],by rw[jP o a h,uW o a h,e];rfl⟩) (rk i) i (cQE _) a
def Un(L:Nat->Option Nat)(D:Nat->Int)(rk:Nat->Nat)(v z:Nat):Prop:=rd L D rk v<+:rd L D rk z
def bYo(o:Ok n L rk){i:Nat}(a:i<n):Un L D rk (tp L rk i) i:=by
 obtain⟨r,e⟩:=bWw (D:=D) o a;have h:=(bXS o a).2;unfold Un;rw[aQk h,e];exact⟨r,rfl⟩
def bJQ(o:Ok n L rk){v:Nat}(q:v<n):∀ {k:Nat},k<n->Un L D rk v k->k≠v->∃c,c<n/\L c=some v/\Un L D rk c k:=λ{k} a i d=>by
 refine aZk o (P:=λk=>Un L D rk v k->k≠v->∃c,c<n/\L c=some v/\Un L D rk c k) (λk a h i d=>?_) (λk p a h w i d=>?_) (rk k) k (cQE _) a i d
 ·obtain⟨r,e⟩:=i;obtain⟨j,l⟩:=aZG (D:=D) o q;rw[aQk h,l]at e;have hl:=congrArg cZH e;simp only[cQ0,cXy,cZI]at hl;have u:j= []:=cZQ (by omega);have t:r= []:=cZQ (by omega);rw[u,t]at e;injection e with z _;have:=congrArg Prod.snd z;simp only at this;omega
 ·obtain⟨y,_⟩:=o.lt k p a h;have b:=i;unfold Un at b;rw[jP o a h]at b;by_cases g:p=v
  ·subst g;exact⟨k,a,h,List.prefix_refl _⟩
  ·have f:Un L D rk v p:=by
    obtain⟨r,e⟩:=b;rcases List.eq_nil_or_concat r with rfl|⟨j,x,rfl⟩
    ·rw[cXC]at e;obtain⟨j,l⟩:=aZG (D:=D) o q;rw[l]at e;have:=(cJQ e rfl).2;injection this with z _;have:=congrArg Prod.snd z;simp only at this;omega
    ·rw[List.concat_eq_append,<- cXJ]at e;exact⟨j,(cJQ e rfl).1⟩
   obtain⟨c,s,hl,m⟩:=w f g;refine⟨c,s,hl,?_⟩;unfold Un;rw[jP o a h];exact List.IsPrefix.trans m (List.prefix_append _ _)
def bYn(o:Ok n L rk){v z:Nat}(b:v<n)(hz:z<n)(h:Un L D rk v z)(a:z≠v):qT (rd L D rk v) (rd L D rk z)=true:=by
 obtain⟨r,e⟩:=h;rw[<- e];refine Stree.aWn _ λc=>a ?_;rw[c,cXC]at e;exact(bQN o b hz e).symm
def bYd(o:Ok n L rk){v c d z:Nat}(g:c<n)(i:d<n)(f:L c=some v)(h:L d=some v)(a:vG (D c,(c:Int)) (D d,(d:Int))=true)(b:Un L D rk c z):qT (rd L D rk z) (rd L D rk d)=true:=by
 obtain⟨r,e⟩:=b;rw[<- e,jP o g f,jP o i h,cXJ];exact Stree.aJx _ a
structure aJ5(n:Nat)(L:Nat->Option Nat)(D:Nat->Int)(rk:Nat->Nat)(root:Nat)(told nx:List Nat):Prop where
 tl:∀x∈told,x<n/\tp L rk x=root
 al:∀x∈nx,x<n/\tp L rk x=root
 tt:told.Pairwise λx y=>qT (rd L D rk x) (rd L D rk y)=true
 ta:∀x∈told,∀y∈nx,qT (rd L D rk x) (rd L D rk y)=true
 aa:nx.Pairwise λx y=>∀z,Un L D rk x z->qT (rd L D rk z) (rd L D rk y)=true
 all:∀k,k<n->tp L rk k=root->k∈told\/∃a∈nx,Un L D rk a k
def aJ5.start(o:Ok n L rk){i:Nat}(c:i<n):aJ5 n L D rk (tp L rk i) [] [tp L rk i]:=by
 have h:=bXS o c;refine⟨λx a=>(nomatch a),λx a=>?_,.nil,λx a=>(nomatch a),cX0 _ _,λk b e=> .inr ⟨_,cQL.mpr rfl,?_⟩⟩
 ·rw[cQL.mp a];exact⟨h.1,by rw[wM h.2]⟩
 ·have z:=bYo (D:=D) o b;rw[e]at z;exact z
def aJ5.step(o:Ok n L rk){j v:Nat}{m X8 vF:List Nat}(W:aJ5 n L D rk j m (v::X8))(E:∀i,i∈vF↔i<n/\L i=some v)(H:vF.Pairwise λx y=>vG (D x,(x:Int)) (D y,(y:Int))=true):aJ5 n L D rk j (m++ [v]) (vF++X8):=by
 obtain⟨A,r⟩:=W.al v cQM;obtain⟨F,I⟩:=cX2.mp W.aa;have b:∀c∈vF,c<n/\L c=some v/\tp L rk c=j/\Un L D rk v c/\c≠v:=λc l=>by
  obtain⟨t,s⟩:=(E c).mp l;refine⟨t,s,by rw[uW o t s];exact r,?_,λz=>?_⟩
  ·unfold Un;rw[jP o t s];exact List.prefix_append _ _
  ·have:=(o.lt c v t s).2;rw[z]at this;omega
 have self:∀x,Un L D rk x x:=λx=>List.prefix_refl _;refine⟨λx f=>?_,λx f=>?_,?_,λx f y g=>?_,?_,λk q u=>?_⟩
 ·rcases cQ4.mp f with f|f
  ·exact W.tl x f
  ·rw[cQL.mp f];exact⟨A,r⟩
 ·rcases cQ4.mp f with f|f
  ·exact⟨(b x f).1,(b x f).2.2.1⟩
  ·exact W.al x (cQI _ f)
 ·refine cVz.mpr ⟨W.tt,cX0 _ _,λx f y g=>?_⟩;rw[cQL.mp g];exact W.ta x f v cQM
 ·have p:∀y∈vF++X8,qT (rd L D rk v) (rd L D rk y)=true:=λy g=>by
   rcases cQ4.mp g with g|g
   ·exact bYn o A (b y g).1 (b y g).2.2.2.1 (b y g).2.2.2.2
   ·exact F y g v (self v)
  rcases cQ4.mp f with f|f
  ·exact Stree.aQe (W.ta x f v cQM) (p y g)
  ·rw[cQL.mp f];exact p y g
 ·refine cVz.mpr ⟨H.imp_of_mem λ{c d} l hd h z C=>bYd o (b c l).1 (b d hd).1 (b c l).2.1 (b d hd).2.1 h C,I,λc l y g z C=>?_⟩;exact F y g z (List.IsPrefix.trans (b c l).2.2.2.1 C)
 ·rcases W.all k q u with h|⟨a,w,G⟩
  ·exact .inl (cZl _ h)
  ·rcases cQG.mp w with rfl|w
   ·by_cases e:k=a
    ·exact .inl (cQU _ (cQL.mpr e))
    ·obtain⟨c,l,hl,B⟩:=bJQ o A q G e;exact .inr ⟨c,cZl _ ((E c).mpr ⟨l,hl⟩),B⟩
   ·exact .inr ⟨a,cQU _ w,G⟩
def aJ5.nodup{b:Nat}{a nx:List Nat}(W:aJ5 n L D rk b a nx):a.Nodup:=
 W.tt.imp λ{x y} h z=>by rw[z,Stree.vX]at h;cases h
def vP:∀ {n:Nat} {l:List Nat},l.Nodup->(∀x∈l,x<n)->l.length<=n
 |0,[],_,_=>cQE _
 |0,x::_,_,h=>absurd (h x cQM) (cZg _)
 |n+1,l,nd,h=>by
  by_cases c:n∈l
  ·have b:=vP (n:=n) (l:=l.erase n) (nd.erase n) λx a=>by
    have:=(cV7 nd).mp a;have:=h x this.2;omega
   rw[cV8 c]at b;omega
  ·have b:=vP (n:=n) (l:=l) nd λx a=>by
    have:=h x a;have:x≠n:=λz=>c (z ▸ a);omega
   omega
def aJ5.len{b:Nat}{a nx:List Nat}(W:aJ5 n L D rk b a nx):a.length<=n:=vP W.nodup λx c=>(W.tl x c).1
def aJ5.done{b:Nat}{c:List Nat}(W:aJ5 n L D rk b c [])(k:Nat):k∈c↔k<n/\tp L rk k=b:=
 ⟨λh=>W.tl k h,λ⟨d,e⟩=>(W.all k d e).elim id λ⟨a,f,_⟩=>nomatch f⟩
end
end Fm
namespace Fm
open Stree (Z6 qT vG)
section
variable {n:Nat}{L:Nat->Option Nat}{D:Nat->Int}{rk rk':Nat->Nat}
def bQO(o:Ok n L rk)(b:Ok n L rk'){i:Nat}(a:i<n):rd L D rk i=rd L D rk' i:=by
 unfold rd;rw[qX o (rk i) (max (rk i) (rk' i)) i a (cQE _) (Nat.le_max_left _ _),qX b (rk' i) (max (rk i) (rk' i)) i a (cQE _) (Nat.le_max_right _ _)]
def Z3(o:Ok n L rk)(b:Ok n L rk'){i:Nat}(a:i<n):tp L rk i=tp L rk' i:=by
 unfold tp;rw[Y3 o (rk i) (max (rk i) (rk' i)) i a (cQE _) (Nat.le_max_left _ _),Y3 b (rk' i) (max (rk i) (rk' i)) i a (cQE _) (Nat.le_max_right _ _)]
def bWx(o:Ok n L rk){i:Nat}(d:i<n):∃l:List Nat,(rd L D rk i).map (·.2)=l.map (λk:Nat=>(k:Int))/\l.Nodup/\(∀k∈l,k<n/\rk k<=rk i):=
 aZk o (P:=λi=>∃l:List Nat,(rd L D rk i).map (·.2)=l.map (λk:Nat=>(k:Int))/\l.Nodup/\(∀k∈l,k<n/\rk k<=rk i)) (λi d h=>⟨[i],by rw[aQk h];rfl,by simp,λk c=>by rw[cQL.mp c];exact⟨d,cQE _⟩⟩)
  (λi j d h ⟨l,e,nd,hl⟩=>by
   obtain⟨m,p⟩:=o.lt i j d h;refine⟨l++ [i],by rw[jP o d h,cXU,cXU,e];rfl,?_,λk c=>?_⟩
   ·rw[cZ6];refine⟨nd,by simp,λa g b f z=>?_⟩;rw[cQL.mp f]at z;have:=(hl a g).2;rw[z]at this;omega
   ·rcases cQ4.mp c with c|c
    ·have:=hl k c;exact⟨this.1,by omega⟩
    ·rw[cQL.mp c];exact⟨d,cQE _⟩) (rk i) i (cQE _) d
def bK3(o:Ok n L rk){i:Nat}(b:i<n):(rd L D rk i).length<=n:=by
 obtain⟨l,e,c,hl⟩:=bWx (D:=D) o b;have h:=congrArg cZH e;rw[cQB,cQB]at h;rw[h];exact vP c λk a=>(hl k a).1
def bVR(o:Ok n L rk){a b:Nat}(ha:a<n)(hb:b<n)(h0:L a=none)(hne:tp L rk b≠a):Ok n (λi=>if i=a then some b else L i) (λi=>if tp L rk i=a then rk i+rk b+1 else rk i) where
 lt:=λi j hi h=>by
  by_cases e:i=a
  ·subst e
   rw[if_pos rfl]at h
   cases h
   rw[if_neg hne,if_pos (wM h0)]
   exact⟨hb,by omega⟩
  ·rw[if_neg e]at h
   obtain⟨hj,hr⟩:=o.lt i j hi h
   have et:=uW o hi h
   refine⟨hj,?_⟩
   rw[et]
   split<;> omega
def bZw(o:Ok n L rk)(a:Nat):Ok n (λi=>if i=a then none else L i) rk where
 lt:=λi j hi h=>by
  by_cases e:i=a
  ·rw[if_pos e]at h;cases h
  ·rw[if_neg e]at h;exact o.lt i j hi h
def bVs(rk:Nat->Nat):Option Nat->Nat
 |none=>0
 |some j=>rk j+1
def bZb(o:Ok n L rk)(l:Option Nat)(hl:∀j,l=some j->j<n):Ok (n+1) (λi=>if i=n then l else L i) (λi=>if i=n then bVs rk l else rk i) where
 lt:=λi j hi h=>by
  by_cases e:i=n
  ·rw[if_pos e]at h
   have hj:=hl j h
   rw[if_pos e,if_neg (by omega),h]
   exact⟨by omega,cX5 _⟩
  ·rw[if_neg e]at h
   obtain⟨hj,hr⟩:=o.lt i j (by omega) h
   rw[if_neg e,if_neg (by omega)]
   exact⟨by omega,hr⟩
def bKd(o:Ok n L rk){i:Nat}(a:i<n):tp L rk (tp L rk i)=tp L rk i:=wM (bXS o a).2
def Ok.congr{a:Nat->Option Nat}(o:Ok n L rk)(h:∀i,i<n->L i=a i):Ok n a rk:=⟨λi j b e=>o.lt i j b ((h i b).trans e)⟩
end
end Fm
namespace Dm
def opn(d:Int):Bool:=decide (d % 7<5)
def cts(a:List Int)(d:Int):Bool:=opn d && !(a.contains d)
def cnt(b:List Int)(a:Int):Nat->Nat
 |0=>0
 |n+1=>cnt b a n+(if cts b (a+n)then 1 else 0)
def place(d:Int):Int:=d / 7*5+(if 4<d % 7 then 4 else d % 7)
def wF(p:Int):Int:=p / 5*7+p % 5
def aKU(d:Int):place d=place (d - 1)+(if opn d then 1 else 0):=by
 unfold place opn;simp only[decide_eq_true_eq];split<;> split<;> split<;> omega
def bVG(b:List Int)(a:Int)(n m:Nat):cnt b a (n+m)=cnt b a n+cnt b (a+n) m:=by
 induction m with
 |zero=>rfl
 |succ m c=>have e:cnt b a (n+(m+1))=cnt b a (n+m)+(if cts b (a+((n+m:Nat):Int))then 1 else 0):=rfl;have d:cnt b (a+n) (m+1)=cnt b (a+n) m+(if cts b (a+n+(m:Int))then 1 else 0):=rfl;rw[e,d,c,show a+((n+m:Nat):Int)=a+n+(m:Int) by omega];omega
def uD(a b:Int)(d:Int):Bool:=decide (a<=d) && decide (d<=b)
def aVk{S:List Int}(j:S.Nodup)(a b:Int)(h:a<=b+1): (S.filter (uD a (b+1))).length=(S.filter (uD a b)).length+(if S.contains (b+1)then 1 else 0):=by
 induction S with
 |nil=>rfl
 |cons x r d=>
  have c:=cZr.mp j;have d:=d c.2;by_cases k:x=b+1
  ·subst k;have i:r.contains (b+1)=false:=by
    rw[<- Bool.not_eq_true,cZe];exact c.1
   rw[i]at d;have e:uD a (b+1) (b+1)=true:=by simp[uD,h]
   have g:uD a b (b+1)=false:=by simp[uD];omega
   rw[cXZ e,cXY (by rw[g];decide)];simp at d ⊢;omega
  ·have e:uD a (b+1) x=uD a b x:=by
    unfold uD;have:decide (x<=b+1)=decide (x<=b):=by rw[decide_eq_decide];omega
    rw[this]
   have g:(x::r).contains (b+1)=r.contains (b+1):=by
    rw[cZY];have:(b+1==x)=false:=by simp;omega
    rw[this,Bool.false_or]
   rw[g];by_cases f:uD a b x=true
   ·rw[cXZ (by rw[e];exact f),cXZ f];simp only[cXy];omega
   ·rw[cXY (by rw[e];exact f),cXY f];exact d
def aKd{b S:List Int}(h:S.Nodup)(e:∀d,d∈S↔d∈b/\opn d=true)(a:Int)(n:Nat): (cnt b a n:Int)=place (a+n - 1) - place (a - 1) - ((S.filter (uD a (a+n - 1))).length:Nat):=by
 induction n with
 |zero=>
  have:S.filter (uD a (a+(0:Nat) - 1))= []:=by rw[List.filter_eq_nil_iff];intro x _;simp[uD];omega
  rw[this];simp[cnt]
 |succ n j=>
  have f:=aVk h a (a+n - 1) (by omega);rw[show a+(n:Int) - 1+1=a+n by omega]at f;have p:=aKU (a+n);rw[show a+((n+1:Nat):Int) - 1=a+n by omega];show((cnt b a n+(if cts b (a+n)then 1 else 0):Nat):Int)=_;have c:(if cts b (a+n)then 1 else 0:Nat)+(if S.contains (a+n)then 1 else 0:Nat)=(if opn (a+n)then 1 else 0:Nat):=by
   have g:S.contains (a+n)=(b.contains (a+n) && opn (a+n)):=by rw[Bool.eq_iff_iff,cZe,Bool.and_eq_true,cZe];exact e _
   rw[g];unfold cts;cases opn (a+↑n)<;> cases b.contains (a+↑n)<;> rfl
  have i:place (a+n)=place (a+n - 1)+((if opn (a+n)then 1 else 0:Nat):Int):=by rw[p];cases opn (a+↑n)<;> rfl
  rw[i,f];push_cast;omega
def aVE(p:Int):place (wF p)=p:=by
 unfold place wF;split<;> omega
def aJE(p:Int):opn (wF p)=true:=by
 unfold opn wF;rw[decide_eq_true_eq];omega
def bX5{p q:Int}(h:p<q):wF p<wF q:=by
 unfold wF;omega
def bX4{p q:Int}(h:p<=q):wF p<=wF q:=by
 unfold wF;omega
def aVg(d:Int):d<wF (place d+1):=by
 unfold place wF;split<;> omega
def qD(date:Int)(p c:Int):Int:=if date<c/\c<=wF p then p+1 else p
def aZp(date:Int)(p:Int)(C:List Int):Int:=C.foldl (qD date) p
def uH(date e:Int)(c:Int):Bool:=decide (date<c) && decide (c<=e)
def aWe{date:Int}(f:Int):∀ (d b:List Int)(p:Int),(b++d).Pairwise (·<·)->
  p=f+((b.filter (uH date (wF p))).length:Nat)->(∀c∈b,date<c->c≠wF p)->f<=p->
  ∃q,aZp date p d=q/\q=f+(((b++d).filter (uH date (wF q))).length:Nat)/\(∀c∈b++d,date<c->c≠wF q)/\f<=q
 |[],b,p,_,h1,h2,h3=>⟨p,rfl,by rw[cXC];exact h1,by rw[cXC];exact h2,h3⟩
 |c::d,b,p,hs,h1,h2,h3=>by
  have g:((b++ [c])++d).Pairwise (·<·):=by rw[cXJ];exact hs
  have lt:∀x∈b,x<c:=λx a=>(cVz.mp hs).2.2 x a c (cQM ..);have fin:=aWe (date:=date) f d (b++ [c]);have step:aZp date p (c::d)=aZp date (qD date p c) d:=rfl;rw[step,show b++c::d=(b++ [c])++d by simp];by_cases i:date<c/\c<=wF p
  ·have e:qD date p c=p+1:=if_pos i;rw[e];have up:=bX5 (show p<p+1 by omega);refine fin (p+1) g ?_ ?_ (by omega)
   ·have k:b.filter (uH date (wF (p+1)))=b.filter (uH date (wF p)):=by
     refine cVb λx a=>?_;have:=lt x a;unfold uH;have q:decide (x<=wF (p+1))=decide (x<=wF p):=by rw[decide_eq_decide];omega
     rw[q]
    have h:uH date (wF (p+1)) c=true:=by simp[uH];omega
    rw[cXK,k,cXZ h,cQ0];simp only[List.filter_nil,cXy,cZI];omega
   ·intro x a j;rcases cQ4.mp a with a|a
    ·have:=lt x a;omega
    ·have:x=c:=by simpa using a
     omega
  ·have e:qD date p c=p:=if_neg i;rw[e];refine fin p g ?_ ?_ h3
   ·have h:uH date (wF p) c=false:=by simp[uH];omega
    rw[cXK,cXY (by rw[h];decide)];simpa using h1
   ·intro x a j;rcases cQ4.mp a with a|a
    ·exact h2 x a j
    ·have:x=c:=by simpa using a
     omega
structure Due(sh:List Int)(date term D:Int):Prop where
 later:date<D
 cts:cts sh D=true
 cnt:(cnt sh (date+1) (D - date).toNat:Int)=term
def bJ2{c C:List Int}{date term:Int}(o:1<=term)(b:C.Pairwise (·<·))(f:∀d,d∈C↔d∈c/\opn d=true): Due c date term (wF (aZp date (place date+term) C)):=by
 obtain⟨q,e,n,g,p⟩:=aWe (date:=date) (place date+term) C [] (place date+term) (by simpa using b) (by simp) (by simp) (Int.le_refl _);rw[e];rw[List.nil_append]at n g;have a:date<wF q:=Int.lt_of_lt_of_le (aVg date) (bX4 (by omega));refine⟨a,?_,?_⟩
 ·unfold Dm.cts;rw[aJE,Bool.true_and,Bool.not_eq_true'];rw[<- Bool.not_eq_true,cZe];exact λz=>g _ ((f _).mpr ⟨z,aJE q⟩) a rfl
 ·have j:C.Nodup:=b.imp λh=>by omega
  have k:=aKd j f (date+1) (wF q - date).toNat;have m:date+1+((wF q - date).toNat:Int) - 1=wF q:=by omega
  have i:date+1 - 1=date:=by omega
  rw[m,i,aVE]at k;have l:C.filter (uD (date+1) (wF q))=C.filter (uH date (wF q)):=by
   refine cVb λx _=>?_;unfold uD uH;have:decide (date+1<=x)=decide (date<x):=by rw[decide_eq_decide];omega
   rw[this]
  rw[l]at k;omega
def bX1(b:List Int)(a:Int){n m:Nat}(h:n<=m):cnt b a n<=cnt b a m:=by
 obtain⟨k,rfl⟩:=Nat.le.dest h;rw[bVG];omega
def Due.less{a:List Int}{date term D:Int}(u:Due a date term D){n:Nat}(h:date+n<D):(Dm.cnt a (date+1) n:Int)<term:=by
 have e:(D - date).toNat=((D - date).toNat - 1)+1:=by have:=u.later;omega
 have k:=u.cnt;rw[e]at k;have b:Dm.cnt a (date+1) (((D - date).toNat - 1)+1)=Dm.cnt a (date+1) ((D - date).toNat - 1)+(if Dm.cts a (date+1+(((D - date).toNat - 1:Nat):Int))then 1 else 0):=rfl;have c:date+1+(((D - date).toNat - 1:Nat):Int)=D:=by have:=u.later;omega
 rw[c,u.cts]at b;have m:=bX1 a (date+1) (show n<=(D - date).toNat - 1 by omega);simp only[if_true]at b;omega
def Due.uniq{d:List Int}{date term D c:Int}(u:Due d date term D)(v:Due d date term c):D=c:=by
 have a:=u.later;have b:=v.later;have e:¬D<c:=λh=>by have:=v.less (n:=(D - date).toNat) (by omega);have:=u.cnt;omega
 have f:¬c<D:=λh=>by have:=u.less (n:=(c - date).toNat) (by omega);have:=v.cnt;omega
 omega
end Dm
namespace Bk
open PySem (Str)
open Stree (Z6 qT vG)
structure Row where
 way:Str
 date:Int
 partner:Str
 term:Int
 link:Option Nat
 place:Str
 void:Bool
 copies:List Str
abbrev Rows:=List Row
def lk(R:Rows)(i:Nat):Option Nat:=(R[i]?).bind (·.link)
def dt(R:Rows)(i:Nat):Int:=((R[i]?).map (·.date)).getD 0
def vK(R:Rows)(m:Int):Bool:=decide (0<=m) && (match R[m.toNat]? with|some r=> !r.void|none=>false)
def vL{R:Rows}{m:Int}(h:vK R m=true):∃ (k:Nat)(r:Row),m=(k:Int)/\k<R.length/\R[k]? =some r/\r.void=false:=by
 unfold vK at h;rw[Bool.and_eq_true,decide_eq_true_eq]at h;obtain⟨c,a⟩:=h;cases e:R[m.toNat]? with
 |none=>rw[e]at a;cases a
 |some r=>rw[e]at a;refine⟨m.toNat,r,by omega,(cQK.mp e).1,e,?_⟩;have b:(!r.void)=true:=a;simpa using b
def qN(R:Rows):Prop:=∃a,Fm.Ok R.length (lk R) a
def vJ(R:Rows)(i:Nat)(l:List Nat):Prop:=∃a,Fm.Ok R.length (lk R) a/\(l.Pairwise λx y=>qT (Fm.rd (lk R) (dt R) a x) (Fm.rd (lk R) (dt R) a y)=true)/\∀k,k∈l↔k<R.length/\Fm.tp (lk R) a k=Fm.tp (lk R) a i
def vJ.uniq{R:Rows}{i:Nat}{l m:List Nat}(n:i<R.length)(j:vJ R i l)(f:vJ R i m):l=m:=by
 obtain⟨q,o,p,e⟩:=j;obtain⟨s,d,r,g⟩:=f;refine Stree.uniq (lt:=λx y=>qT (Fm.rd (lk R) (dt R) q x) (Fm.rd (lk R) (dt R) q y)=true) (λa h=>by rw[Stree.vX]at h;cases h) (λa b c j f=>Stree.aQe j f) p ?_ λk=>?_
 ·refine r.imp_of_mem λ{x y} hx hy h=>?_;rw[Fm.bQO o d ((g x).mp hx).1,Fm.bQO o d ((g y).mp hy).1];exact h
 ·rw[e k,g k];constructor
  ·rintro⟨a,b⟩;exact⟨a,by rw[<- Fm.Z3 o d a,<- Fm.Z3 o d n];exact b⟩
  ·rintro⟨a,b⟩;exact⟨a,by rw[Fm.Z3 o d a,Fm.Z3 o d n];exact b⟩
def vF(R:Rows)(i:Nat):List Nat:=(cQJ R.length).filter λk=>decide (lk R k=some i)
def aQM(R:Rows)(i:Nat)(d:Int):Bool:=match R[i]? with
 |none=>false
 |some r=> !r.void && decide (1<=r.term) && decide (r.date<=d) && (vF R i).all λk=>decide (d<dt R k)
def xW(R:Rows)(i:Nat)(f:Row->Row):Rows:=match R[i]? with
 |some r=>R.set i (f r)
 |none=>R
def wP(R:Rows)(i:Nat)(f:Row->Row):(xW R i f).length=R.length:=by unfold xW;split<;> simp
def wA(R:Rows)(i j:Nat)(f:Row->Row):(xW R i f)[j]? =if j=i then(R[j]?).map f else R[j]? :=by
 unfold xW;by_cases e:j=i
 ·subst e;rw[if_pos rfl];cases h:R[j]? with
  |none=>simp[h]
  |some r=>have a:j<R.length:=(cQK.mp h).1;simp[cZU a]
 ·rw[if_neg e];cases h:R[i]? with
  |none=>rfl
  |some r=>simp[cJR (cXg e)]
def laid(R:Rows)(l:List Nat)(name:Str):Rows:=l.foldl (λR k=>xW R k λr=>{r with place:=name}) R
def W7(R:Rows)(i:Nat)(f:Row->Row)(h:∀r,(f r).link=r.link):lk (xW R i f)=lk R:=by
 funext j;unfold lk;rw[wA];by_cases e:j=i
 ·rw[if_pos e];cases R[j]? with
  |none=>rfl
  |some r=>exact h r
 ·rw[if_neg e]
def wG(name:Str):∀ (l:List Nat)(R:Rows),(laid R l name).length=R.length
 |[],R=>rfl
 |k::l,R=>by show(laid (xW R k _) l name).length=_;rw[wG name l,wP]
def aXb(name:Str):∀ (l:List Nat)(R:Rows),lk (laid R l name)=lk R
 |[],R=>rfl
 |k::l,R=>by show lk (laid (xW R k _) l name)=_;rw[aXb name l,W7 R k (λr=>{r with place:=name}) λ_=>rfl]
def vV(name:Str):∀ (l:List Nat)(R:Rows)(j:Nat),(laid R l name)[j]? =if j∈l then(R[j]?).map (λr=>{r with place:=name})else R[j]?
 |[],R,j=>by simp[laid]
 |k::l,R,j=>by
  show(laid (xW R k _) l name)[j]? =_;rw[vV name l,wA];by_cases e:j=k
  ·subst e;rw[if_pos rfl,if_pos cQM];split
   ·cases R[j]? <;> rfl
   ·rfl
  ·rw[if_neg e];by_cases hl:j∈l
   ·rw[if_pos hl,if_pos (cQI _ hl)]
   ·rw[if_neg hl,if_neg (by simp[e,hl])]
def qN.laid{R:Rows}(t:qN R)(l:List Nat)(name:Str):qN (laid R l name):=by
 obtain⟨a,o⟩:=t;refine⟨a,?_⟩;rw[wG,aXb];exact o
def qN.same{R:Rows}(t:qN R)(i:Nat)(f:Row->Row)(h:∀r,(f r).link=r.link):qN (xW R i f):=by
 obtain⟨a,o⟩:=t;refine⟨a,?_⟩;rw[wP,W7 R i f h];exact o
def aWp(R:Rows){i:Nat}(a:i<R.length)(f:Row->Row)(l:Option Nat)(h:∀r,(f r).link=l):lk (xW R i f)=λj=>if j=i then l else lk R j:=by
 funext j;unfold lk;rw[wA];by_cases e:j=i
 ·subst e;rw[if_pos rfl,if_pos rfl,cQw a];exact h _
 ·rw[if_neg e,if_neg e]
def qN.loose{R:Rows}(t:qN R){i:Nat}(a:i<R.length)(f:Row->Row)(h:∀r,(f r).link=none):qN (xW R i f):=by
 obtain⟨b,o⟩:=t;refine⟨b,?_⟩;rw[wP,aWp R a f none h];exact Fm.bZw o i
def qN.hang{R:Rows}{rk:Nat->Nat}(o:Fm.Ok R.length (lk R) rk){i j:Nat}(b:i<R.length)(c:j<R.length)(h0:lk R i=none)(a:Fm.tp (lk R) rk j≠i)(f:Row->Row)(h:∀r,(f r).link=some j):qN (xW R i f):=by
 refine⟨λk=>if Fm.tp (lk R) rk k=i then rk k+rk j+1 else rk k,?_⟩;rw[wP,aWp R b f (some j) h];exact Fm.bVR o b c h0 a
def bV3(R:Rows)(r:Row):∀i,i<R.length+1->lk (R++ [r]) i=if i=R.length then r.link else lk R i:=λi a=>by
 unfold lk;by_cases e:i=R.length
 ·subst e;rw[if_pos rfl,cQX (cQE _)];simp
 ·rw[if_neg e,cXh (by omega)]
def qN.enter{R:Rows}(t:qN R)(r:Row)(h:∀j,r.link=some j->j<R.length):qN (R++ [r]):=by
 obtain⟨a,o⟩:=t;have z:=Fm.bZb o r.link h;refine⟨λi=>if i=R.length then Fm.bVs a r.link else a i,?_⟩;rw[cQ0,cXL];exact z.congr λi b=>(bV3 R r i b).symm
end Bk
namespace Bk
open PySem (Str)
open Stree (Z6 qT vG)
def bXr{n:Nat}{L:Nat->Option Nat}{D:Nat->Int}{rk:Nat->Nat}(o:Fm.Ok n L rk):∀l:List Nat,l.Nodup->(∀k∈l,k<n)->∃m:List Nat,m.Perm l/\m.Pairwise λx y=>qT (Fm.rd L D rk x) (Fm.rd L D rk y)=true
 |[],_,_=>⟨[],.refl _,.nil⟩
 |x::l,nd,h=>by
  obtain⟨m,i,r⟩:=bXr (D:=D) o l (cZr.mp nd).2 λk c=>h k (cQI _ c);have t:x<n:=h x cQM;have f:∀k∈m,k<n/\k≠x:=λk c=>⟨h k (cQI _ (i.mem_iff.mp c)),λz=>(cZr.mp nd).1 (by rw[<- z];exact i.mem_iff.mp c)⟩;have ins:∀m:List Nat,(∀k∈m,k<n/\k≠x)->(m.Pairwise λx y=>qT (Fm.rd L D rk x) (Fm.rd L D rk y)=true)->∃d:List Nat,d.Perm (x::m)/\d.Pairwise λx y=>qT (Fm.rd L D rk x) (Fm.rd L D rk y)=true:=by
   intro m;induction m with
   |nil=>intro _ _;exact⟨[x],.refl _,cX0 _ _⟩
   |cons y m s=>
    intro p j;obtain⟨a,b⟩:=cX2.mp j;have q:=p y cQM;rcases Stree.aZx (λz=>q.2 (Fm.bQN o q.1 t z):Fm.rd L D rk y≠Fm.rd L D rk x)with z|z
    ·obtain⟨d,e,g⟩:=s (λk c=>p k (cQI _ c)) b;refine⟨y::d,(List.Perm.cons _ e).trans (List.Perm.swap _ _ _),cX2.mpr ⟨λk c=>?_,g⟩⟩;rcases cQG.mp (e.mem_iff.mp c)with rfl|c
     ·exact z
     ·exact a k c
    ·refine⟨x::y::m,.refl _,cX2.mpr ⟨λk c=>?_,j⟩⟩;rcases cQG.mp c with rfl|c
     ·exact z
     ·exact Stree.aQe z (a k c)
  obtain⟨d,e,g⟩:=ins m f r;exact⟨d,e.trans (List.Perm.cons _ i),g⟩
def bXR{R:Rows}(t:qN R)(i:Nat):∃l,vJ R i l:=by
 obtain⟨a,o⟩:=t;obtain⟨m,c,d⟩:=bXr (D:=dt R) o ((cQJ R.length).filter λk=>decide (Fm.tp (lk R) a k=Fm.tp (lk R) a i)) (cJS.sublist cZp) λk b=>cQ5.mp (cXA.mp b).1;refine⟨m,a,o,d,λk=>?_⟩;rw[c.mem_iff,cXA,cQ5,decide_eq_true_eq]
open Classical in
noncomputable def thr (R:Rows) (i:Nat):List Nat:=if h:∃l,vJ R i l then choose h else []
def Q0{R:Rows}(t:qN R)(i:Nat):vJ R i (thr R i):=by
 have h:=bXR t i;unfold thr;rw[dif_pos h];exact Classical.choose_spec h
def aZj{R:Rows}{i:Nat}(a:i<R.length){l:List Nat}(h:vJ R i l):thr R i=l:=
 vJ.uniq a (by obtain⟨b,o,_⟩:=h;exact Q0 ⟨b,o⟩ i) h
open Classical in
noncomputable def due (shut:List Int) (d t:Int):Int:=if h:∃D,Dm.Due shut d t D then choose h else d
def bJ1{shut:List Int}{d t D:Int}(h:Dm.Due shut d t D):due shut d t=D:=by
 have a:∃D,Dm.Due shut d t D:=⟨D,h⟩;unfold due;rw[dif_pos a];exact(Classical.choose_spec a).uniq h
structure bJW(R:Rows)(shut:List Int)(d:Int)(late:Bool)(l:List Nat):Prop where
 mem:∀k,k∈l↔k<R.length/\aQM R k d=true/\(late=true->due shut (dt R k) (((R[k]?).map (·.term)).getD 0)<d)
 ord:l.Pairwise λx y=>vG (due shut (dt R x) (((R[x]?).map (·.term)).getD 0),(x:Int)) (due shut (dt R y) (((R[y]?).map (·.term)).getD 0),(y:Int))=true
def bJW.uniq{R:Rows}{shut:List Int}{d:Int}{e:Bool}{l m:List Nat}(f:bJW R shut d e l)(g:bJW R shut d e m):l=m:=
 Stree.uniq (lt:=λx y=>vG (due shut (dt R x) (((R[x]?).map (·.term)).getD 0),(x:Int)) (due shut (dt R y) (((R[y]?).map (·.term)).getD 0),(y:Int))=true) (λa h=>by rw[Stree.vW]at h;cases h) (λa b c f g=>Stree.aZw f g) f.ord g.ord λk=>by rw[f.mem k,g.mem k]
inductive Ans where
 |num (n:Int)|txt (x:Str)|nums (l:List Nat)|txts (l:List Str)|row (r:Row)
inductive xV where
 |enter (way:Str) (day:Int) (who:Str) (term:Int)|reply (m:Int) (day term:Int)|hang (m o:Int)|loose (m:Int)|date (m d:Int)|term (m t:Int)
 |copy (m:Int) (who:Str)|file (m:Int) (name:Str)|void (m:Int)|shut (d:Int)|state (m:Int)|thread (m:Int)|copies (m:Int)|letters (name:Str)|on (late:Bool) (d:Int)
def Y4(a:Str):Str:=if a="in" then "out" else "in"
inductive xZ(R:Rows)(S:List Int):xV->Ans->Rows->List Int->Prop
 |enter {way who:Str} {d t:Int} (h:0<=t):xZ R S (.enter way d who t) (.num R.length) (R++ [⟨way,d,who,t,none,"",false,[]⟩]) S
 |enterT {way who:Str} {d t:Int} (h:t<0):xZ R S (.enter way d who t) (.txt "no term") R S
 |replyN {m d t:Int} (h:vK R m=false):xZ R S (.reply m d t) (.txt "no letter") R S
 |replyT {m d t:Int} (h:vK R m=true) (ht:t<0):xZ R S (.reply m d t) (.txt "no term") R S
 |replyE {k:Nat} {d t:Int} {r:Row} (hk:R[k]? =some r) (h:r.void=false) (ht:0<=t) (hd:d<r.date):xZ R S (.reply k d t) (.txt "too early") R S
 |reply {k:Nat} {d t:Int} {r:Row} (hk:R[k]? =some r) (h:r.void=false) (ht:0<=t) (hd:r.date<=d):xZ R S (.reply k d t) (.num R.length) (R++ [⟨Y4 r.way,d,r.partner,t,some k,r.place,false,[]⟩]) S
 |hangN {m o:Int} (h:vK R m=false\/vK R o=false):xZ R S (.hang m o) (.txt "no letter") R S
 |hangH {i j:Nat} {r q:Row} (hi:R[i]? =some r) (hv:r.void=false) (hj:R[j]? =some q) (hw:q.void=false) (h:r.link≠none):xZ R S (.hang i j) (.txt "has one") R S
 |hangO {i j:Nat} {r q:Row} (hi:R[i]? =some r) (hv:r.void=false) (hj:R[j]? =some q) (hw:q.void=false) (h:r.link=none) (ho:(thr R j).head? =some i):xZ R S (.hang i j) (.txt "own thread") R S
 |hangW {i j:Nat} {r q:Row} (hi:R[i]? =some r) (hv:r.void=false) (hj:R[j]? =some q) (hw:q.void=false) (h:r.link=none) (ho:(thr R j).head? ≠some i) (h1:r.way=q.way):xZ R S (.hang i j) (.txt "same way") R S
 |hangP {i j:Nat} {r q:Row} (hi:R[i]? =some r) (hv:r.void=false) (hj:R[j]? =some q) (hw:q.void=false) (h:r.link=none) (ho:(thr R j).head? ≠some i) (h1:r.way≠q.way) (h2:r.partner≠q.partner):xZ R S (.hang i j) (.txt "other partner") R S
 |hangE {i j:Nat} {r q:Row} (hi:R[i]? =some r) (hv:r.void=false) (hj:R[j]? =some q) (hw:q.void=false) (h:r.link=none) (ho:(thr R j).head? ≠some i) (h1:r.way≠q.way) (h2:r.partner=q.partner) (h3:r.date<q.date):xZ R S (.hang i j) (.txt "too early") R S
 |hang {i j:Nat} {r q:Row} (hi:R[i]? =some r) (hv:r.void=false) (hj:R[j]? =some q) (hw:q.void=false) (h:r.link=none) (ho:(thr R j).head? ≠some i) (h1:r.way≠q.way) (h2:r.partner=q.partner) (h3:q.date<=r.date):
   xZ R S (.hang i j) (.txt "hung") (xW (laid R (thr R i) q.place) i λr=>{r with link:=some j}) S
 |oneN {m:Int} {e:xV} (h:vK R m=false) (he:e= .loose m\/(∃d,e= .date m d)\/(∃t,e= .term m t)\/(∃w,e= .copy m w)\/(∃w,e= .file m w)\/e= .void m\/e= .state m\/e= .thread m\/e= .copies m):xZ R S e (.txt "no letter") R S
 |looseN {k:Nat} {r:Row} (hk:R[k]? =some r) (hv:r.void=false) (h:r.link=none):xZ R S (.loose k) (.txt "has none") R S
 |loose {k:Nat} {r:Row} (hk:R[k]? =some r) (hv:r.void=false) (h:r.link≠none):xZ R S (.loose k) (.txt "loose") (xW R k λr=>{r with link:=none}) S
 |dateE {k:Nat} {r:Row} {d:Int} (hk:R[k]? =some r) (hv:r.void=false) (h:(∃j,r.link=some j/\d<dt R j)\/∃c∈vF R k,dt R c<d):xZ R S (.date k d) (.txt "too early") R S
 |date {k:Nat} {r:Row} {d:Int} (hk:R[k]? =some r) (hv:r.void=false) (h1:∀j,r.link=some j->dt R j<=d) (h2:∀c∈vF R k,d<=dt R c):xZ R S (.date k d) (.txt "dated") (xW R k λr=>{r with date:=d}) S
 |termN {k:Nat} {r:Row} {t:Int} (hk:R[k]? =some r) (hv:r.void=false) (h:t<0):xZ R S (.term k t) (.txt "no term") R S
 |term {k:Nat} {r:Row} {t:Int} (hk:R[k]? =some r) (hv:r.void=false) (h:0<=t):xZ R S (.term k t) (.txt "set") (xW R k λr=>{r with term:=t}) S
 |copyC {k:Nat} {r:Row} {w:Str} (hk:R[k]? =some r) (hv:r.void=false) (h:w=r.partner\/w∈r.copies):xZ R S (.copy k w) (.txt "copied") R S
 |copy {k:Nat} {r:Row} {w:Str} (hk:R[k]? =some r) (hv:r.void=false) (h:w≠r.partner) (h2:w∉r.copies):xZ R S (.copy k w) (.num (r.copies.length+1)) (xW R k λr=>{r with copies:=r.copies++ [w] }) S
 |file {k:Nat} {r:Row} {w:Str} (hk:R[k]? =some r) (hv:r.void=false):xZ R S (.file k w) (.num (thr R k).length) (laid R (thr R k) w) S
 |voidA {k:Nat} {r:Row} (hk:R[k]? =some r) (hv:r.void=false) (h:vF R k≠ []):xZ R S (.void k) (.txt "answered") R S
 |void {k:Nat} {r:Row} (hk:R[k]? =some r) (hv:r.void=false) (h:vF R k= []):xZ R S (.void k) (.txt "void") (xW R k λr=>{r with link:=none,void:=true}) S
 |shutN {d:Int} (h:Dm.cts S d=false):xZ R S (.shut d) (.txt "counts not") R S
 |shut {d:Int} (h:Dm.cts S d=true):xZ R S (.shut d) (.txt "shut") R (S++ [d])
 |state {k:Nat} {r:Row} (hk:R[k]? =some r) (hv:r.void=false):xZ R S (.state k) (.row r) R S
 |thread {k:Nat} {r:Row} (hk:R[k]? =some r) (hv:r.void=false):xZ R S (.thread k) (.nums (thr R k)) R S
 |copies {k:Nat} {r:Row} (hk:R[k]? =some r) (hv:r.void=false):xZ R S (.copies k) (.txts r.copies) R S
 |letters {w:Str}:xZ R S (.letters w) (.nums ((cQJ R.length).filter λk=>match R[k]? with|some r=> !r.void && decide (r.place=w)|none=>false)) R S
 |on {late:Bool} {d:Int} {l:List Nat} (h:bJW R S d late l):xZ R S (.on late d) (.nums l) R S
end Bk
namespace Bk
open PySem (Str)
open Stree (Z6 qT vG)
def vJ.head{R:Rows}{j:Nat}(f:j<R.length){l:List Nat}(h:vJ R j l):∃c,Fm.Ok R.length (lk R) c/\l.head? =some (Fm.tp (lk R) c j):=by
 obtain⟨c,o,p,e⟩:=h;refine⟨c,o,?_⟩;have i:=Fm.bXS o f;have k:Fm.tp (lk R) c j∈l:=(e _).mpr ⟨i.1,Fm.bKd o f⟩;cases l with
 |nil=>cases k
 |cons x r=>
  by_cases z:x=Fm.tp (lk R) c j
  ·rw[z];rfl
  ·exfalso;obtain⟨a,b⟩:=cX2.mp p;have d:=(e x).mp cQM;have q:Fm.tp (lk R) c j∈r:=by
    rcases cQG.mp k with w|w
    ·exact absurd w.symm z
    ·exact w
   have m:=a _ q;have n:Fm.Un (lk R) (dt R) c (Fm.tp (lk R) c j) x:=by have:=Fm.bYo (D:=dt R) o d.1;rw[d.2]at this;exact this
   have s:=Fm.bYn o i.1 d.1 n z;have g:=Stree.aQe m s;rw[Stree.vX]at g;cases g
def Y2{R:Rows}(t:qN R){j:Nat}(b:j<R.length):∃a,Fm.Ok R.length (lk R) a/\(thr R j).head? =some (Fm.tp (lk R) a j):=(Q0 t j).head b
def wU{R:Rows}{k:Nat}{r:Row}(h:R[k]? =some r):k<R.length:=(cQK.mp h).1
def uL{R:Rows}{k:Nat}{r:Row}(h:R[k]? =some r):lk R k=r.link:=by unfold lk;rw[h];rfl
def uK{R:Rows}{k:Nat}{r:Row}(h:R[k]? =some r):dt R k=r.date:=by unfold dt;rw[h];rfl
def xZ.tree{R m:Rows}{S p:List Int}{e:xV}{a:Ans}(t:qN R)(h:xZ R S e a m p):qN m:=by
 cases h with
 |enter h=>exact t.enter _ λj c=>nomatch c
 |reply b h x w=>exact t.enter _ λj c=>by cases c;exact wU b
 |@hang i j r q l d c hw h n s k v=>
  obtain⟨g,o,u⟩:=Y2 t (wU c);have f:Fm.tp (lk R) g j≠i:=λz=>n (by rw[u,z]);refine qN.hang (R:=laid R (thr R i) q.place) (rk:=g) (i:=i) (j:=j) ?_ ?_ ?_ ?_ ?_ _ λ_=>rfl
  ·rw[wG,aXb];exact o
  ·rw[wG];exact wU l
  ·rw[wG];exact wU c
  ·rw[aXb,uL l];exact h
  ·rw[aXb];exact f
 |loose b d h=>exact t.loose (wU b) _ λ_=>rfl
 |date b d s k=>exact t.same _ _ λ_=>rfl
 |term b d h=>exact t.same _ _ λ_=>rfl
 |copy b d h k=>exact t.same _ _ λ_=>rfl
 |file b d=>exact t.laid _ _
 |void b d h=>exact t.loose (wU b) _ λ_=>rfl
 |_=>exact t
def bJO:qN []:=⟨λ_=>0,⟨λi j a=>absurd a (cZg _)⟩⟩
end Bk
namespace Bk
open PySem (Str)
open Stree (Z6 qT vG)
def bKl(r q:Row):Prop:=r.void=false/\q.void=false/\r.way≠q.way/\r.partner=q.partner/\q.date<=r.date/\r.place=q.place
structure Z5(R:Rows):Prop where
 tree:qN R
 way:∀r∈R,r.way="in"\/r.way="out"
 ans:∀ (i j:Nat)(r:Row),R[i]? =some r->r.link=some j->∃q,R[j]? =some q/\bKl r q
def aZm:Z5 [] where
 tree:=bJO
 way:=λr h=>absurd h (by simp)
 ans:=λi j r h=>by simp at h
def aWt{w:Str}(h:w="in"\/w="out"):Y4 w≠w/\(Y4 w="in"\/Y4 w="out"):=by
 rcases h with rfl|rfl
 ·exact⟨by decide,.inr rfl⟩
 ·exact⟨by decide,.inl rfl⟩
def W9{R:Rows}{i:Nat}{f:Row->Row}{r:Row}(h:r∈xW R i f):r∈R\/∃q∈R,r=f q:=by
 unfold xW at h;split at h
 ·rename_i q a;rcases List.mem_or_eq_of_mem_set h with h|h
  ·exact .inl h
  ·exact .inr ⟨q,cQP a,h⟩
 ·exact .inl h
def aJ4{R:Rows}(h:∀r∈R,r.way="in"\/r.way="out")(i:Nat)(f:Row->Row)(c:∀r,(f r).way=r.way):∀r∈xW R i f,r.way="in"\/r.way="out":=λr a=>by
 rcases W9 a with a|⟨q,b,rfl⟩
 ·exact h r a
 ·rw[c];exact h q b
def aW2{name:Str}:∀ (l:List Nat) {R:Rows},(∀r∈R,r.way="in"\/r.way="out")->∀r∈laid R l name,r.way="in"\/r.way="out"
 |[],R,h=>h
 |k::l,R,h=>aW2 l (aJ4 h k (λr=>{r with place:=name}) λ_=>rfl)
def bV7{R:Rows}{k i:Nat}{r:Row}(h:vF R k= [])(a:R[i]? =some r):r.link≠some k:=λe=>by
 have:i∈vF R k:=cXA.mpr ⟨cQ5.mpr (wU a),decide_eq_true (by rw[uL a];exact e)⟩;rw[h]at this;cases this
def bZy{R:Rows}{k i:Nat}{r:Row}(a:R[i]? =some r)(e:r.link=some k):i∈vF R k:=
 cXA.mpr ⟨cQ5.mpr (wU a),decide_eq_true (by rw[uL a];exact e)⟩
def bJL{R:Rows}(t:qN R){i a b:Nat}{r:Row}(c:R[a]? =some r)(e:r.link=some b)(d:b<R.length):a∈thr R i↔b∈thr R i:=by
 obtain⟨f,o,_,h⟩:=Q0 t i;rw[h a,h b,Fm.uW o (wU c) (by rw[uL c];exact e)];exact⟨λz=>⟨d,z.2⟩,λz=>⟨wU c,z.2⟩⟩
def bJN{R:Rows}(t:qN R){i:Nat}(a:i<R.length):i∈thr R i:=by
 obtain⟨b,o,_,h⟩:=Q0 t i;exact(h i).mpr ⟨a,rfl⟩
def Z5.laid{R:Rows}(b:Z5 R)(i:Nat)(name:Str):Z5 (laid R (thr R i) name) where
 tree:=b.tree.laid _ _
 way:=aW2 _ b.way
 ans:=λx j r hx hl=>by
  rw[vV]at hx
  have back:∃r0,R[x]? =some r0/\r=(if x∈thr R i then {r0 with place:=name}else r0):=by
   by_cases hm:x∈thr R i
   ·rw[if_pos hm]at hx
    cases e:R[x]? with
    |none=>rw[e]at hx;cases hx
    |some r0=>rw[e]at hx;cases hx;exact⟨r0,rfl,by rw[if_pos hm]⟩
   ·rw[if_neg hm]at hx
    exact⟨r,hx,by rw[if_neg hm]⟩
  obtain⟨r0,h0,e0⟩:=back
  have hl0:r0.link=some j:=by rw[e0]at hl;split at hl<;> exact hl
  obtain⟨q0,hq0,f1,f2,f3,f4,f5,f6⟩:=b.ans x j r0 h0 hl0
  have hiff:=bJL (i:=i) b.tree h0 hl0 (wU hq0)
  refine⟨if j∈thr R i then {q0 with place:=name}else q0,by rw[vV,hq0];split<;> rfl,?_⟩
  by_cases hm:x∈thr R i
  ·rw[if_pos (hiff.mp hm),e0,if_pos hm]
   exact⟨f1,f2,f3,f4,f5,rfl⟩
  ·rw[if_neg (λz=>hm (hiff.mpr z)),e0,if_neg hm]
   exact⟨f1,f2,f3,f4,f5,f6⟩
def Z5.set{R:Rows}(b:Z5 R){k:Nat}{f:Row->Row}(t:qN (xW R k f))(hw:∀r,(f r).way=r.way)(h1:∀r j q,R[k]? =some r->(f r).link=some j->j≠k->R[j]? =some q->bKl (f r) q/\True)(h0:∀r j,R[k]? =some r->(f r).link=some j->j≠k/\j<R.length)
  (h2:∀r i q,R[k]? =some r->R[i]? =some q->i≠k->q.link=some k->bKl q (f r)):Z5 (xW R k f) where
 tree:=t
 way:=aJ4 b.way k f hw
 ans:=λi j r hi hl=>by
  rw[wA]at hi
  by_cases e:i=k
  ·subst e
   rw[if_pos rfl]at hi
   cases e0:R[i]? with
   |none=>rw[e0]at hi;cases hi
   |some r0=>
    rw[e0]at hi
    cases hi
    obtain⟨hjk,hjl⟩:=h0 r0 j e0 hl
    have hq:=cQw hjl
    exact⟨R[j],by rw[wA,if_neg hjk];exact hq,(h1 r0 j _ e0 hl hjk hq).1⟩
  ·rw[if_neg e]at hi
   obtain⟨q,hq,hf⟩:=b.ans i j r hi hl
   by_cases ej:j=k
   ·subst ej
    exact⟨f q,by rw[wA,if_pos rfl,hq];rfl,h2 q i r hq hi e hl⟩
   ·exact⟨q,by rw[wA,if_neg ej];exact hq,hf⟩
def aY9{R:Rows}(t:qN R){k j:Nat}{r:Row}(h:R[k]? =some r)(e:r.link=some j):j≠k:=λz=>by
 obtain⟨a,o⟩:=t;have:=(o.lt k j (wU h) (by rw[uL h];exact e)).2;rw[z]at this;omega
def xZ.book{R R':Rows}{S S':List Int}{e:xV}{a:Ans}(b:Z5 R)(hw:∀J d w t,e= .enter J d w t->J="in"\/J="out")(h:xZ R S e a R' S'):Z5 R':=by
 have A:=h.tree b.tree;have T:∀ (r:Row)(j:Nat) {i:Nat} {x:Row},R[i]? =some x->x.link=some j->∃q,(R++ [r])[j]? =some q/\bKl x q:=λr j {i x} m hl=>by obtain⟨q,n,B⟩:=b.ans i j x m hl;exact⟨q,by rw[cXh (wU n)];exact n,B⟩
 have snoc:∀r:Row,(r.way="in"\/r.way="out")->(∀j,r.link=some j->∃q,R[j]? =some q/\bKl r q)->qN (R++ [r])->Z5 (R++ [r]):=λr u p t=>⟨t,λx g=>by
   rcases cQ4.mp g with g|g
   ·exact b.way x g
   ·rw[cQL.mp g];exact u,λi j x m hl=>by
   by_cases a2:i<R.length
   ·rw[cXh a2]at m;exact T r j m hl
   ·have a1:i<(R++ [r]).length:=(cQK.mp m).1;rw[cQ0,cXL]at a1;have:i=R.length:=by omega
    subst this;rw[cQX (cQE _)]at m;simp at m;subst m;obtain⟨q,n,B⟩:=p j hl;exact⟨q,by rw[cXh (wU n)];exact n,B⟩⟩
 have plain:∀ (k:Nat)(f:Row->Row),(∀r,(f r).way=r.way/\(f r).date=r.date/\(f r).partner=r.partner/\(f r).link=r.link/\(f r).place=r.place/\(f r).void=r.void)->qN (xW R k f)->Z5 (xW R k f):=λk f B t=>by
  refine b.set t (λr=>(B r).1) (λr j q l hl a4 n=>?_) (λr j l hl=>?_) (λr i q l m a3 hl=>?_)
  ·obtain⟨g1,W,V,g4,g5,Z⟩:=B r;rw[g4]at hl;obtain⟨N,c,u,p,L,h4,Q,h6⟩:=b.ans k j r l hl;rw[n]at c;cases c;exact⟨⟨by rw[Z];exact u,p,by rw[g1];exact L,by rw[V];exact h4,by rw[W];exact Q,by rw[g5];exact h6⟩,trivial⟩
  ·rw[(B r).2.2.2.1]at hl;obtain⟨q,n,_⟩:=b.ans k j r l hl;exact⟨aY9 b.tree l hl,wU n⟩
  ·obtain⟨g1,W,V,g4,g5,Z⟩:=B r;obtain⟨N,c,u,p,L,h4,Q,h6⟩:=b.ans i k q m hl;rw[l]at c;cases c;exact⟨u,by rw[Z];exact p,by rw[g1];exact L,by rw[V];exact h4,by rw[W];exact Q,by rw[g5];exact h6⟩
 cases h with
 |enter h=>exact snoc _ (hw _ _ _ _ rfl) (λj C=>nomatch C) A
 |@reply k d t r l h ht hd=>have M:=b.way r (cQP l);exact snoc _ (aWt M).2 (λj C=>by cases C;exact⟨r,l,rfl,h,(aWt M).1,rfl,hd,rfl⟩) A
 |@hang i j r q m I C a0 h ho u p L=>
  have bl:=b.laid i q.place;obtain⟨rk,o,hh⟩:=Y2 b.tree (wU C);have P:Fm.tp (lk R) rk j≠i:=λz=>ho (by rw[hh,z]);have U:j∉thr R i:=λz=>by obtain⟨Y,o',_,hm⟩:=Q0 b.tree i;have z2:=((hm j).mp z).2;have z3:Fm.tp (lk R) Y i=i:=Fm.wM (by rw[uL m];exact h);rw[z3,Fm.Z3 o' o (wU C)]at z2;exact P z2
  have X:=bJN b.tree (wU m);have gi:(laid R (thr R i) q.place)[i]? =some {r with place:=q.place}:=by rw[vV,if_pos X,m];rfl
  have gj:(laid R (thr R i) q.place)[j]? =some q:=by rw[vV,if_neg U];exact C
  refine bl.set A (λ_=>rfl) (λx y z g hl s O=>?_) (λx y g hl=>?_) (λx y z g s v hl=>?_)
  ·rw[gi]at g;cases g;cases hl;rw[gj]at O;cases O;exact⟨⟨I,a0,u,p,L,rfl⟩,trivial⟩
  ·cases hl;exact⟨λz=>P (by rw[z,Fm.wM (by rw[uL m];exact h)]),by rw[wG];exact wU C⟩
  ·obtain⟨N,c,H,F,E,D,K,G⟩:=bl.ans y i z s hl;rw[g]at c;cases c;exact⟨H,F,E,D,K,G⟩
 |@loose k r l I h=>refine b.set A (λ_=>rfl) (λx y z g hl=>nomatch hl) (λx y g hl=>nomatch hl) (λx y z g s v hl=>?_);obtain⟨N,c,H,F,E,D,K,G⟩:=b.ans y k z s hl;rw[g]at c;cases c;exact⟨H,F,E,D,K,G⟩
 |@date k r d l I u p=>
  refine b.set A (λ_=>rfl) (λx y z g hl v O=>?_) (λx y g hl=>?_) (λx y z g s v hl=>?_)
  ·rw[l]at g;cases g;obtain⟨N,c,H,F,E,D,K,G⟩:=b.ans k y r l hl;rw[O]at c;cases c;exact⟨⟨H,F,E,D,by rw[<- uK O];exact u y hl,G⟩,trivial⟩
  ·obtain⟨q,n,_⟩:=b.ans k y x g hl;exact⟨aY9 b.tree g hl,wU n⟩
  ·obtain⟨N,c,H,F,E,D,K,G⟩:=b.ans y k z s hl;rw[g]at c;cases c;exact⟨H,F,E,D,by rw[<- uK s];exact p y (bZy s hl),G⟩
 |term l I h=>exact plain _ _ (λr=>⟨rfl,rfl,rfl,rfl,rfl,rfl⟩) A
 |copy l I h p=>exact plain _ _ (λr=>⟨rfl,rfl,rfl,rfl,rfl,rfl⟩) A
 |file l I=>exact b.laid _ _
 |void l I h=>exact b.set A (λ_=>rfl) (λx y z g hl=>nomatch hl) (λx y g hl=>nomatch hl) (λx y z g s v hl=>absurd hl (bV7 h s))
 |_=>exact b
end Bk
namespace Law
open PySem L2 PyProof.Rows
open Bk (Row Rows)
def aJo(x:Str):Stmt->Bool
 |.FunctionDef n _ _ _ _ _ _ _ _ _=>n==x
 |_=>false
def xM(x:Str):Stmt:=(PySem.Challenge.pw_letterdesk_k09_whole_files.main.body.find? (aJo x)).getD (.Pass ⟨0,0,0,0⟩)
abbrev bWC:Stmt:=xM "_law_good"
abbrev bJe:Stmt:=xM "_law_kids_of"
def xG:cXj "len"=some (.builtin "len"):=dk
structure uJ(mg:Str->Option cQx):Prop where
 b_len:mg "len"=none
 b_range:mg "range"=none
def zV:Option Nat->V
 |none=> .non
 |some j=> .int (j:Nat)
def bKq(H:Hp)(b:Nat)(r:Row):Prop:=∃a,H b=some (.lst [.str r.way,.int r.date,.str r.partner,.int r.term,zV r.link,.str r.place,.bl r.void,.ref a])/\H a=some (.lst (r.copies.map V.str))
structure xF(H:Hp)(ra:Nat)(rs:List Nat)(R:Rows):Prop where
 lst:H ra=some (.lst (rs.map V.ref))
 len:rs.length=R.length
 nd:rs.Nodup
 row:∀ (i:Nat)(b:Nat)(r:Row),rs[i]? =some b->R[i]? =some r->bKq H b r
def xF.get{H:Hp}{e:Nat}{a:List Nat}{R:Rows}(h:xF H e a R){i:Nat}{r:Row}(d:R[i]? =some r):∃b,(a.map V.ref)[i]? =some (.ref b)/\a[i]? =some b/\bKq H b r:=by
 have f:i<a.length:=by rw[h.len];exact Bk.wU d
 have c:=cQw f;exact⟨a[i],by rw[cQR,c];rfl,c,h.row i _ r c d⟩
def aQH:Sp:=λc H Q _=>∃ (a:Nat)(b:List Nat)(R:Rows)(m:Int),c= [.ref a,.int m]/\xF H a b R/\Q (.bl (Bk.vK R m)) H
section
variable {K:cQz}
def bWQ:yO ["_law_rows","_law_number"] ["_law_rows","_law_number"] (yH bWC):=scM
def bWd(T:uJ mg)(F:Fun K "_law_good" "_law_good" bWC f fd):xL P w K mg base CX0 1 f fd ["_law_rows","_law_number"] aQH:=by
 have n:=bWQ;refine F.ok (k:=0) n (λo A outer s H u Q E v h=>?_);obtain⟨g,i,R,m,rfl,c,q⟩:=h;refine⟨_,(yF (yP (aWw (wL bQA yG (pv 1)) (aWw (wL uM (pv 1) (yR yN rfl T.b_len xG (yA (pv 0) yD))) (aJF (bVe (yL yK (yL yK (pv 0) (pv 1)) yG))))))),?_⟩;refine⟨_,rfl,_,_,rfl,rfl,_,rfl,?_⟩;unfold Bk.vK at q;cases d:decide (0<=m)with
 |false=>rw[d,Bool.false_and]at q;exact onF rfl q
 |true=>
  rw[d,Bool.true_and]at q;have h0:0<=m:=of_decide_eq_true d;refine onT rfl ⟨_,rfl,_,rfl,g,_,rfl,.inl (SqL.of c.lst),_,_,rfl,rfl,_,rfl,?_⟩;have hl:(i.map V.ref).length=R.length:=by rw[cQB];exact c.len
  rw[hl];obtain⟨k,rfl⟩:∃k:Nat,m=(k:Int):=⟨m.toNat,by omega⟩;rw[cQ6]at q;cases e:decide ((k:Int)<(R.length:Nat))with
  |false=>
   have a:R.length<=k:=by have:=of_decide_eq_false e;omega
   rw[cXa a]at q;exact onF rfl q
  |true=>
   have a:k<R.length:=by have:=of_decide_eq_true e;omega
   obtain⟨b,j,r,p,l,t⟩:=c.get (cQw a);rw[cQw a]at q;refine onT rfl ⟨_,rfl,_,rfl,g,_,_,_,rfl,rfl,SqL.of c.lst,yT j,b,_,6,_,rfl,rfl,SqL.of l,rfl,_,rfl,q⟩
def bWT:yO ["_law_rows","_law_number"] ["_law_rows","_law_number"] (yH bJe):=scM
def bVX:xO ["_law_rows","_law_number"] (yH bJe) "_law_k" ["_law_number","_law_rows"] [1,0] (lsN [(".0",.local),("_law_k",.local),("_law_number",.free),("_law_rows",.free)]):=
 lcM
def aWQ:Sp:=λc H Q _=>∃ (a:Nat)(b:List Nat)(R:Rows)(m:Nat),c= [.ref a,.int (m:Nat)]/\xF H a b R/\R.length<=100/\∀r,H r=none->Q (.ref r) (upd H r (.lst ((Bk.vF R m).map λi=>V.int (i:Nat))))
def aVi{o:Option Nat}{m:Nat}:decide (zV o=V.int (m:Nat))=decide (o=some m):=by
 cases o with
 |none=>rfl
 |some j=>show decide (V.int (j:Nat)=V.int (m:Nat))=decide (some j=some m);rw[Bool.eq_iff_iff];simp;omega
def bWg(T:uJ mg)(F:Fun K "_law_kids_of" "_law_kids_of" bJe f fd):xL P w K mg base CX0 1 f fd ["_law_rows","_law_number"] aWQ:=by
 have r:=bWT;refine F.ok (k:=0) r (λv A outer s H B Q E C h=>?_);obtain⟨e,n,R,m,rfl,c,hR,q⟩:=h;refine⟨_,(yF (yP (aQj bVX rfl (zY rfl T.b_range (yA (yR yN rfl T.b_len xG (yA (pv 0) yD)) yD)) (λ_ _ _ _ _=>(vA (yM zR (yL ixK (yL ixK (pv 2) (pv 0)) yG) (pv 1)))) (λ_ _ _ _ _=>(pv 0))))),?_⟩;have hl:(n.map V.ref).length=R.length:=by rw[cQB];exact c.len
 refine⟨_,rfl,e,_,rfl,.inl (SqL.of c.lst),?_⟩;rw[hl];refine⟨_,rfl,by omega,by omega,λD d=>?_⟩;rw[cQ6];refine W6 (λk=>decide (Bk.lk R k=some m)) (λk=>V.int (k:Nat)) d (by rw[cQZ];omega) (λk i l u j a=>?_) (λk i _ l u j a=>⟨_,rfl,a⟩) (q D d);obtain⟨b,p,y,x,o,z⟩:=c.get (cQw i);have g:l e=some (.lst (n.map V.ref)):=by rw[j e (yI c.lst d)];exact c.lst
 have t:l b=_:=(j b (yI o d)).trans o;refine⟨_,rfl,_,rfl,e,_,_,_,rfl,rfl,SqL.of g,yT p,b,_,4,_,rfl,rfl,SqL.of t,rfl,_,rfl,?_,_,rfl,?_⟩
 ·cases R[k].link<;> rfl
 ·rw[aVi,<- Bk.uL (cQw i)];exact a
end
end Law
namespace L2
open PySem PySem.Spec PyProof.Rows
section
variable {X:Cx}
def aYy(M:X.calm=true):jX X (.builtin "min") (λB H Q=>∃ (p:Nat)(c:List Int),B= [.ref p]/\SqL X.K H p (c.map V.int)/\c≠ []/\∀m,m∈c->(∀x∈c,m<=x)->Q (.int m) H):=by
 intro D s σ H B Z Q I r h;obtain⟨p,c,rfl,T,w,q⟩:=h;obtain⟨u,rfl,E⟩:=aQs r;cases E;obtain⟨a,R,pl,U⟩:=I.list T;have C:cZT a c:=aQd R;have f:a.length=c.length:=C.length;have l:0<a.length:=by rw[f];exact cXM.mpr w
 obtain⟨o,G,_⟩:=id pl.isList;have n:p<s.heap.objs.size:=cQN G;have d:∀ (i:Nat)(v:cQx),a.toArray[i]? =some v->∃t,v=Value.int (c.getD i 0) t:=λi v y=>cJI C i v (by simpa using y);refine call_min_walk (cVg pl.isList ?_);refine⟨s.heap.objs.size,[s.heap.objs.size,p],[s.heap.objs.size],a.toArray.size,_,_,_,rfl,Walks.list (A:=X.A.in1) (by simpa using I.ok.hd M) _ p (cQV n) a.toArray,⟨⟨_,cQY _ rfl,rfl,rfl⟩,pl.isList.push _⟩,λb g=>?_,by rw[cQQ];exact l,CmpOf.ints_lt (λi=>c.getD i 0) d,λv Y tk y F=>?_⟩
 ·show b<(s.heap.push _).objs.size;rw[cX1];rcases cQG.mp g with rfl|g
  ·exact cX5 _
  ·rw[cQL.mp g];exact cXF n
 ·obtain⟨t,rfl⟩:=d _ _ y;obtain⟨W,J⟩:=argBest_lt (λi=>c.getD i 0) (a.toArray.size - 1);have P:a.toArray.size=c.length:=by rw[cQQ];exact f
  have g:argBest (λi j=>decide (c.getD i 0<c.getD j 0)) (a.toArray.size - 1)<c.length:=by omega
  refine⟨.int _,H,I.kept (t':=tk) λb N e=>F b N (λz=>by rw[cQL.mp z]at e;exact cXG _ (cQN e)) (cQD _ e),⟨t,rfl⟩,q _ ?_ λx S=>?_⟩
  ·generalize argBest (λi j=>decide (c.getD i 0<c.getD j 0)) (a.toArray.size - 1)=k at g;simp[cXk,cQw g]
  ·obtain⟨j,L,e⟩:=cXq S;have:=J j (by omega);have O:c.getD j 0=x:=by simp[cXk,cQw L,e]
   rw[O]at this;exact this
end
end L2
namespace Law
open PySem L2 PyProof.Rows
open Bk (Row Rows)
abbrev aWF:Stmt:=xM "_law_waits_on"
def aYv:cXj "min"=some (.builtin "min"):=dk
def bKq.same{H a:Hp}{b:Nat}{r:Row}(h:bKq H b r)(k:xJ H a):bKq a b r:=let ⟨cp,e1,e2⟩:=h;⟨cp,k _ _ e1,k _ _ e2⟩
def xF.same{H d:Hp}{a:Nat}{c:List Nat}{R:Rows}(h:xF H a c R)(k:xJ H d):xF d a c R:=
 ⟨k _ _ h.lst,h.len,h.nd,λi b r e f=>(h.row i b r e f).same k⟩
def bXH:Sp:=λe H Q _=>∃ (a:Nat)(c:List Nat)(R:Rows)(k:Nat)(d:Int),e= [.ref a,.int (k:Nat),.int d]/\xF H a c R/\R.length<=100/\k<R.length/\∀b,xJ H b->Q (.bl (Bk.aQM R k d)) b
section
variable {K:cQz}
def bJz:yO ["_law_rows","_law_number","_law_date","_law_one","_law_dates"] ["_law_rows","_law_number","_law_date"] (yH aWF):=scM
def bZt:xO ["_law_rows","_law_number","_law_date","_law_one","_law_dates"] (yH aWF) "_law_k" ["_law_rows"] [0] (lsN [(".0",.local),("_law_k",.local),("_law_rows",.free)]):=
 lcM
def dtV(R:Rows):V->V
 |.int n=> .int (Bk.dt R n.toNat)
 |_=> .non
def bZX(T:uJ mg)(p:mg "min"=none)(a:FnG P w K mg base 1 "_law_kids_of" ["_law_rows","_law_number"] aWQ)(F:Fun K "_law_waits_on" "_law_waits_on" aWF f fd):xL P w K mg base CX0 2 f fd ["_law_rows","_law_number","_law_date"] bXH:=by
 have sc:=bJz;refine F.ok (k:=1) sc (λa1 A outer s H0 vs Q E Z h=>?_);obtain⟨u,U,R,k,d,rfl,C,hR,hk,q⟩:=h;refine⟨_,(yC (yU (i:=3) (yL yK (pv 0) (pv 1))) (yC (xA (PW.pt (Y5 (zA (yL yK (pv 3) yG)) (Y5 (yM uM (yL yK (pv 3) yG) yG) (uR (yM aXY (yL yK (pv 3) yG) (pv 2)))))) (yF (yP vQ)) yS) (yC (aXZ (i:=4) bZt rfl sc.nd rfl rfl (xN (xU a Z rfl (yA (pv 0) (yA (pv 1) yD)))) (λ_ _ _ _ _=>wQ) (λ_ _ _ _ _=>(yL ixK (yL ixK (pv 1) (pv 0)) yG))) (yF (yP (bKV (wL (aZA Z.units0) (pv 4) (xB yD)) (aJF (wL aXY (yR (aYy rfl) rfl p aYv (yA (pv 4) yD)) (pv 2))))))))),?_⟩;have x:=cQw hk;obtain⟨b,g1,g2,cp,H,g4⟩:=C.get x;have qw:Bk.aQM R k d=(!R[k].void && decide (1<=R[k].term) && decide (R[k].date<=d) && (Bk.vF R k).all λj=>decide (d<Bk.dt R j)):=by unfold Bk.aQM;rw[x]
 rw[qw]at q;refine⟨_,rfl,_,rfl,u,_,_,_,rfl,rfl,SqL.of C.lst,yT g1,?_⟩;dsimp only[yW];refine⟨_,rfl,b,_,6,_,rfl,rfl,SqL.of H,rfl,_,rfl,?_⟩;cases y:R[k].void with
 |true=>rw[y]at q;exact onT rfl (onT rfl (q _ (xJ.refl _)))
 |false=>
  rw[y]at q;refine onF rfl ⟨_,rfl,b,_,3,_,rfl,rfl,SqL.of H,rfl,_,_,rfl,rfl,_,rfl,?_⟩;cases Y:decide (R[k].term<1)with
  |true=>have:decide (1<=R[k].term)=false:=decide_eq_false (by have:=of_decide_eq_true Y;omega);rw[this]at q;exact onT rfl (onT rfl (q _ (xJ.refl _)))
  |false=>
   have:decide (1<=R[k].term)=true:=decide_eq_true (by have:=of_decide_eq_false Y;omega);rw[this]at q;refine onF rfl ⟨_,rfl,b,_,1,_,rfl,rfl,SqL.of H,rfl,_,rfl,_,_,rfl,rfl,_,rfl,?_⟩;cases W:decide (R[k].date > d)with
   |true=>have:decide (R[k].date<=d)=false:=decide_eq_false (by have:=of_decide_eq_true W;omega);rw[this]at q;exact onT rfl (q _ (xJ.refl _))
   |false=>
    have:decide (R[k].date<=d)=true:=decide_eq_true (by have:=of_decide_eq_false W;omega);rw[this]at q;refine onF rfl ?_;refine⟨_,rfl,_,rfl,u,U,R,k,rfl,C,hR,λr G=>⟨r,rfl,⟨_,SqL.of yB⟩,λD B=>?_⟩⟩;have k1:=yE G (.lst ((Bk.vF R k).map λi=>V.int (i:Nat)));have c:=C.same k1;have a0:(Bk.vF R k).length<=R.length:=by have:=cXu (λj=>decide (Bk.lk R j=some k)) (cQJ R.length);rw[cXp]at this;exact this
    refine aXd (λ_=>true) (dtV R) (SqL.of yB) B (zn (by rw[cQB];omega)) (λv y X R' _ h=>h) (λv y _ X R' hH t=>?_) ?_
    ·obtain⟨j,hj,rfl⟩:=cXr.mp y;have N:j<R.length:=cQ5.mp (cXA.mp hj).1;have o:=cQw N;obtain⟨bj,j1,j2,cj,j3,j4⟩:=c.get o;have J:X u=some (.lst (U.map V.ref)):=by rw[hH u (yI c.lst B)];exact c.lst
     have S:=(hH bj (yI j3 B)).trans j3;have e:dtV R (V.int (j:Nat))=V.int R[j].date:=by show V.int (Bk.dt R (j:Int).toNat)=_;rw[cQ6,Bk.uK o]
     rw[e]at t;exact⟨_,rfl,_,rfl,u,_,_,_,rfl,rfl,SqL.of J,yT j1,bj,_,1,_,rfl,rfl,SqL.of S,rfl,t⟩
    ·have ff:((Bk.vF R k).map λi=>V.int (i:Nat)).filter (λ_=>true)=(Bk.vF R k).map λi=>V.int (i:Nat):=cZS.mpr λ_ _=>rfl;have em:((Bk.vF R k).map λi=>V.int (i:Nat)).map (dtV R)=((Bk.vF R k).map (Bk.dt R)).map V.int:=by
      rw[cZf,cZf];refine cJo λj _=>?_;show V.int (Bk.dt R (j:Int).toNat)=V.int (Bk.dt R j);rw[cQ6]
     rw[ff,em];dsimp only[yW];have k2:=yE B (.lst (((Bk.vF R k).map (Bk.dt R)).map V.int));have g:upd (upd H0 r (.lst ((Bk.vF R k).map λi=>V.int (i:Nat)))) D (.lst (((Bk.vF R k).map (Bk.dt R)).map V.int)) D=some (.lst (((Bk.vF R k).map (Bk.dt R)).map V.int)):=yB;have kA:=k1.trans k2;generalize upd (upd H0 r (.lst ((Bk.vF R k).map λi=>V.int (i:Nat)))) D (.lst (((Bk.vF R k).map (Bk.dt R)).map V.int))=H2 at g kA ⊢;refine⟨_,rfl,z0,λpn L=>?_⟩;have M:=yE L (.lst []);refine⟨D,pn,_,rfl,rfl,SqL.of (M _ _ g),SqL.of yB,_,rfl,?_⟩;have z:=q _ (kA.trans M);cases n:Bk.vF R k with
     |nil=>rw[n]at z;exact onT rfl z
     |cons j l=>
      rw[n]at z;refine onF rfl ⟨_,rfl,D,(j::l).map (Bk.dt R),rfl,SqL.of (by rw[<- n];exact M _ _ g),by simp,λm hm I=>?_⟩;refine⟨_,rfl,_,_,rfl,rfl,?_⟩;have e:((!false && true && true && (j::l).all λj=>decide (d<Bk.dt R j)):Bool)=decide (m > d):=by
       rw[Bool.eq_iff_iff];simp only[Bool.not_false,Bool.true_and,cJP,decide_eq_true_eq];constructor
       ·intro h;obtain⟨i,O,rfl⟩:=cXr.mp hm;exact h i O
       ·intro h i O;have:=I _ (cXr.mpr ⟨i,O,rfl⟩);omega
      rw[e]at z;exact z
end
end Law
namespace Bk
def aJg:∀shut:List Int,∃C:List Int,C.Pairwise (·<·)/\∀d,d∈C↔d∈shut/\Dm.opn d=true
 |[]=>⟨[],.nil,λd=>by simp⟩
 |x::l=>by
  obtain⟨C,n,o⟩:=aJg l;have ins:∀C:List Int,C.Pairwise (·<·)->∃g:List Int,g.Pairwise (·<·)/\∀d,d∈g↔d=x\/d∈C:=by
   intro C;induction C with
   |nil=>intro _;exact⟨[x],cX0 _ _,λd=>by simp⟩
   |cons y C p=>
    intro h;obtain⟨a,b⟩:=cX2.mp h;by_cases e:x=y
    ·subst e;exact⟨x::C,h,λd=>by simp⟩
    ·by_cases k:x<y
     ·refine⟨x::y::C,cX2.mpr ⟨λd f=>?_,h⟩,λd=>by simp⟩;rcases cQG.mp f with rfl|f
      ·exact k
      ·have:=a d f;omega
     ·obtain⟨g,j,i⟩:=p b;refine⟨y::g,cX2.mpr ⟨λd f=>?_,j⟩,λd=>?_⟩
      ·rcases(i d).mp f with rfl|f
       ·omega
       ·exact a d f
      ·rw[cQG,i d,cQG];constructor
       ·rintro(h|h|h)
        ·exact .inr (.inl h)
        ·exact .inl h
        ·exact .inr (.inr h)
       ·rintro(h|h|h)
        ·exact .inr (.inl h)
        ·exact .inl h
        ·exact .inr (.inr h)
  by_cases m:Dm.opn x=true
  ·obtain⟨g,j,i⟩:=ins C n;refine⟨g,j,λd=>?_⟩;rw[i d,o d,cQG];constructor
   ·rintro(rfl|⟨h,c⟩)
    ·exact⟨.inl rfl,m⟩
    ·exact⟨.inr h,c⟩
   ·rintro⟨h|h,c⟩
    ·exact .inl h
    ·exact .inr ⟨h,c⟩
  ·refine⟨C,n,λd=>?_⟩;rw[o d,cQG];constructor
   ·rintro⟨h,c⟩;exact⟨.inr h,c⟩
   ·rintro⟨h|h,c⟩
    ·rw[h]at c;exact absurd c m
    ·exact⟨h,c⟩
def bKA(shut:List Int)(d:Int){t:Int}(b:1<=t):Dm.Due shut d t (due shut d t):=by
 obtain⟨C,a,c⟩:=aJg shut;have h:=Dm.bJ2 (date:=d) b a c;rw[bJ1 h];exact h
end Bk
namespace Law
open PySem L2 PyProof.Rows
open Bk (Row Rows)
abbrev bQY:Stmt:=xM "_law_due_by"
abbrev aZM:Stmt:=xM "_law_list_on"
def wW:cXj "sorted"=some (.builtin "sorted"):=dk
def bXz(K:cQz):Sp:=λc H Q _=>∃ (a:Nat)(b:List Int)(d t D:Int),c= [.ref a,.int d,.int t]/\SqL K H a (b.map V.int)/\Dm.Due b d t D/\Q (.int D) H
section
variable {K:cQz}
def qR(d:Int):∀ns:List Int,inV (.int d) (ns.map V.int)=ns.contains d
 |[]=>rfl
 |n::r=>by have a:=qR d r;unfold inV at a ⊢;rw[cXb,cZP,a,cZY];congr 1;show(n==d)=(d==n);rw[Bool.eq_iff_iff,beq_iff_eq,beq_iff_eq];exact eq_comm
def qF:∀ns:List Int,(ns.map V.int).all aQK=true
 |[]=>rfl
 |n::r=>by rw[cXb,cJV,qF r];rfl
def bJo:yO ["_law_shut","_law_date","_law_term","_law_many"] ["_law_shut","_law_date","_law_term"] (yH bQY):=scM
def bZM(T:uJ mg)(F:Fun K "_law_due_by" "_law_due_by" bQY f fd):xL P w K mg base CX0 1 f fd ["_law_shut","_law_date","_law_term"] (bXz K):=by
 have G:=bJo;refine F.ok (k:=0) G (λL A outer s C M Q E N h=>?_);obtain⟨a,g,d,t,D,rfl,J,p,q⟩:=h;refine⟨_,(yC (yU (i:=3) yG) (yC (jO cXo (yM uM (pv 3) (pv 2)) (yC (yU (i:=1) (yV zT (pv 1) yG)) (yF (xA (PW.pt (jE (yM uM (yV xD (pv 1) yG) yG) (uG (yM aQF (pv 1) (pv 0))))) (yF (yU (i:=3) (yV zT (pv 3) yG))) yS)))) (yF (yP (pv 1))))),?_⟩;refine⟨λm σ H=>∃n:Nat,σ= [some (.ref a),some (.int (d+n)),some (.int t),some (.int (Dm.cnt g (d+1) n))]/\H=C/\d+n<=D/\m=(D - (d+n)).toNat,⟨(D - d).toNat,0,?_,rfl,by have:=p.later;omega,by simp⟩,?_⟩
 ·rw[show d+((0:Nat):Int)=d by simp];rfl
 rintro m σ H ⟨n,rfl,rfl,r,rfl⟩;refine⟨_,rfl,_,rfl,_,_,rfl,rfl,_,rfl,?_⟩;refine X2 (λc=>?_) (λc=>?_)
 ·have B:((Dm.cnt g (d+1) n:Nat):Int)<t:=of_decide_eq_true c;have I:d+n<D:=by
   by_cases e:d+n=D
   ·have:=p.cnt;rw[<- e,show(d+n - d).toNat=n by omega]at this;omega
   ·omega
  refine⟨λo y=>∃x,x<(D - (d+n)).toNat/\∃n:Nat,o= [some (.ref a),some (.int (d+n)),some (.int t),some (.int (Dm.cnt g (d+1) n))]/\y=H/\d+n<=D/\x=(D - (d+n)).toNat,λo y z=>z,?_⟩;refine⟨_,rfl,_,_,rfl,rfl,?_⟩;dsimp only[yW];have l:Dm.cnt g (d+1) (n+1)=Dm.cnt g (d+1) n+(if Dm.cts g (d+1+n)then 1 else 0):=rfl;have j:d+((n+1:Nat):Int)=d+n+1:=by omega
  refine⟨_,rfl,_,_,rfl,rfl,(show(0:Int)<7 by decide),_,_,rfl,rfl,_,rfl,?_⟩;have b:Dm.cts g (d+1+n)=(decide ((d+n+1) % 7<5) && !(g.contains (d+n+1))):=by rw[show d+1+(n:Int)=d+n+1 by omega];rfl
  cases u:decide ((d+(n:Int)+1) % 7<5)with
  |false=>rw[u,Bool.false_and]at b;rw[b]at l;refine onF rfl (onF rfl ⟨(D - (d+(n+1:Nat))).toNat,by omega,n+1,?_,rfl,by omega,rfl⟩);rw[l,j];rfl
  |true=>
   rw[u,Bool.true_and]at b;refine onT rfl ⟨_,rfl,_,rfl,a,_,rfl,.inl J,rfl,qF g,_,rfl,?_⟩;rw[if_pos rfl,qR];cases v:g.contains (d+(n:Int)+1)with
   |true=>rw[v]at b;rw[b]at l;refine onF rfl ⟨(D - (d+(n+1:Nat))).toNat,by omega,n+1,?_,rfl,by omega,rfl⟩;rw[l,j];rfl
   |false=>rw[v]at b;rw[b]at l;refine onT rfl ⟨_,rfl,_,_,rfl,rfl,(D - (d+(n+1:Nat))).toNat,by omega,n+1,?_,rfl,by omega,rfl⟩;rw[l,j];simp
 ·have B:¬ ((Dm.cnt g (d+1) n:Nat):Int)<t:=of_decide_eq_false (Bool.eq_false_iff.mpr c);have e:d+n=D:=by
   refine Int.le_antisymm r (Int.not_lt.mp λz=>B (p.less z))
  refine⟨_,rfl,?_⟩;rw[e];exact q
noncomputable def Y7 (R:Rows) (shut:List Int) (k:Nat):Int:=Bk.due shut (Bk.dt R k) (((R[k]?).map (·.term)).getD 0)
noncomputable def Q1 (R:Rows) (shut:List Int) (d:Int) (a:Bool) (k:Nat):Bool:=Bk.aQM R k d && (!a || decide (Y7 R shut k<d))
def aWR:Sp:=λg H Q _=>∃ (c e:Nat)(f:List Nat)(R:Rows)(shut:List Int)(d:Int)(a:Bool),g= [.ref c,.ref e,.int d,.bl a]/\xF H c f R/\H e=some (.lst (shut.map V.int))/\R.length<64/\
 ∀ (r:Nat)(b:Hp)(l:List Nat),xJ H b->H r=none->b r=some (.lst (l.map λi=>V.int (i:Nat)))->Bk.bJW R shut d a l->Q (.ref r) b
def aYp(H:Hp)(g:Nat->Int)(k:Nat)(x:V):Prop:=∃p,x= .ref p/\H p=some (.tup [.int (g k),.int (k:Nat)])
def aYp.tk{H c:Hp}{g:Nat->Int}(t:∀a b,H a=some (.tup b)->c a=some (.tup b)){k:Nat}{x:V}(h:aYp H g k x):aYp c g k x:=let ⟨p,e,a⟩:=h;⟨p,e,t _ _ a⟩
def aZl{R:Rows}{k:Nat}{d:Int}(a:k<R.length)(h:Bk.aQM R k d=true):1<=R[k].term:=by
 unfold Bk.aQM at h;rw[cQw a]at h;simp only[Bool.and_eq_true,decide_eq_true_eq]at h;exact h.1.1.2
def bXk:yO ["_law_rows","_law_shut","_law_date","_law_late","_law_made","_law_k","_law_last"] ["_law_rows","_law_shut","_law_date","_law_late"] (yH aZM):=scM
def aY4:xO ["_law_rows","_law_shut","_law_date","_law_late","_law_made","_law_k","_law_last"] (yH aZM) "_law_pair" [] [] (lsN [(".0",.local),("_law_pair",.local)]):=
 lcM
def bXV{α β:Type}{F:α->β->Prop}:∀ {l:List α} {m:List β} {i:Nat} {y:β},cXn F l m->m[i]? =some y->∃x,l[i]? =some x/\F x y
 |_,_,0,_,.cons r _,h=>by simp at h;subst h;exact⟨_,rfl,r⟩
 |_,_,i+1,_,.cons _ t,h=>by simpa using bXV (i:=i) t (by simpa using h)
 |_,_,i,_,.nil,h=>by simp at h
def aZa{α β:Type}{F:α->β->Prop}{x:α}{y:β}(r:F x y):∀ {l:List α} {m:List β},cXn F l m->cXn F (l++ [x]) (m++ [y])
 |_,_,.nil=> .cons r .nil
 |_,_,.cons a t=> .cons a (aZa r t)
def aXO{a H:Hp}{c:Nat}{o:HO}(k:xJ a H)(h:a c=none):xJ a (upd H c o):=λb u q=>by rw[yJ (yI q h)];exact k b u q
def bYv(H:Hp):V->V
 |.ref p=>match H p with
  |some (.tup [_,y])=>y
  |_=> .non
 |_=> .non
def aWH{H:Hp}{p:Nat}{x y:V}(h:H p=some (.tup [x,y])):bYv H (.ref p)=y:=by
 show(match H p with|some (.tup [_,y])=>y|_=>V.non)=y;rw[h]
def bQu(T:uJ mg)(I:mg "sorted"=none)(o:FnG P w K mg base 2 "_law_waits_on" ["_law_rows","_law_number","_law_date"] bXH)(C:FnG P w K mg base 2 "_law_due_by" ["_law_shut","_law_date","_law_term"] (bXz K)) (F:Fun K "_law_list_on" "_law_list_on" aZM f fd):xL P w K mg base CX0 3 f fd ["_law_rows","_law_shut","_law_date","_law_late"] aWR:=by
 have sc:=bXk;refine F.ok (k:=2) sc (λc0 A outer s H0 vs Q E hr h=>?_);obtain⟨U,sa,rs,R,shut,d,c,rfl,hB,b4,hR,q⟩:=h;refine⟨_,(yC (yU (i:=4) (xB yD)) (yC (wT cXo rfl (zY rfl T.b_range (yA (yR yN rfl T.b_len xG (yA (pv 0) yD)) yD)) (xI (i:=5)) (yF (xA (zA (xU o hr rfl (yA (pv 0) (yA (pv 5) (yA (pv 2) yD))))) (yC (yU (i:=6) (xU C hr rfl (yA (pv 1) (yA (yL yK (yL yK (pv 0) (pv 5)) yG) (yA (yL yK (yL yK (pv 0) (pv 5)) yG) yD))))) (yF (xA (PW.pt (Y5 (vH (zA (pv 3))) (uR (yM uM (pv 6) (pv 2))))) (yF (yZ (jC cQ3 cXc cXd xR (pv 4) (yA (xK (yA (pv 6) (yA (pv 5) yD))) yD)))) yS))) yS))) (yF (yP (aQj aY4 rfl (xN (yR jU rfl I wW (yA (pv 4) yD))) (λ_ _ _ _ _=>wQ) (λ_ _ _ _ _=>(yL ixT (pv 0) yG))))))),?_⟩;refine⟨z0,λJ a2=>?_⟩;dsimp only[yW];have k1:=yE a2 (.lst []);have hl:(rs.map V.ref).length=R.length:=by rw[cQB];exact hB.len
 refine⟨_,rfl,U,_,rfl,.inl (SqL.of (k1 _ _ hB.lst)),?_⟩;rw[hl];refine⟨_,rfl,by omega,by omega,?_⟩;rw[cQ6];refine vO (λt σ H=>∃ (g:List V)(S O:Option V),σ= [some (.ref U),some (.ref sa),some (.int d),some (.bl c),some (.ref J),S,O]/\xJ H0 H/\H J=some (.lst g)/\
  cXn (aYp H (Y7 R shut)) ((cQJ t).filter (Q1 R shut d c)) g) ?_ ?_ ?_
 ·exact⟨[],none,none,rfl,k1,yB,.nil⟩
 ·rintro k σ H hk ⟨g,S,O,rfl,u,B,W⟩;rw[cZX];dsimp only[yW];have a9:=hB.same u;have a1:=cQw hk;rw[cZ2,cXK];have stay:∀X S O,xJ H X->Q1 R shut d c k=false->∃ (g:List V)(p5 p6:Option V),[some (V.ref U),some (V.ref sa),some (V.int d),some (V.bl c),some (V.ref J),S,O]= [some (.ref U),some (.ref sa),some (.int d),some (.bl c),some (.ref J),p5,p6]/\xJ H0 X/\X J=some (.lst g)/\
    cXn (aYp X (Y7 R shut)) ((cQJ k).filter (Q1 R shut d c)++ [k].filter (Q1 R shut d c)) g:=λX S O kk e=>by
   have e3: [k].filter (Q1 R shut d c)= []:=by simp[e]
   rw[e3,cXC]
   exact⟨g,S,O,rfl,u.trans kk,kk _ _ B,Paired.mapP W λ_ _ z=>z.tk λa xs e=>kk _ _ e⟩
  refine⟨_,rfl,_,rfl,_,rfl,U,rs,R,k,d,rfl,a9,by omega,hk,λH2 L=>⟨_,rfl,?_⟩⟩;cases hw:Bk.aQM R k d with
  |false=>exact onF rfl (stay H2 _ _ L (by unfold Q1;rw[hw];rfl))
  |true=>
   have b5:=aZl hk hw;have Z:=a9.same L;obtain⟨b,g1,g2,cp,g3,g4⟩:=Z.get a1;have hD:=Bk.bKA shut (Bk.dt R k) b5;have eD:Y7 R shut k=Bk.due shut (Bk.dt R k) R[k].term:=by unfold Y7;rw[a1];rfl
   rw[<- eD,Bk.uK a1]at hD;refine onT rfl ?_;refine⟨_,rfl,_,rfl,_,rfl,U,_,_,_,rfl,rfl,SqL.of Z.lst,yT g1,b,_,1,_,rfl,rfl,SqL.of g3,rfl,_,rfl,_,rfl,U,_,_,_,rfl,rfl,SqL.of Z.lst,yT g1,b,_,3,_,rfl,rfl,SqL.of g3,rfl,?_⟩;refine⟨sa,shut,_,_,Y7 R shut k,rfl,SqL.of (L _ _ (u _ _ b4)),hD,?_⟩;dsimp only[yW];have a6:Q1 R shut d c k=true->aV7 (tBM K "list" bQM (bKa 4) (aYk (cQb (aYk (bKa 6) (aYk (bKa 5) bXO))) bXO)) {nx:=λσ H=>∃ (g:List V)(S O:Option V),σ= [some (.ref U),some (.ref sa),some (.int d),some (.bl c),some (.ref J),S,O]/\xJ H0 H/\H J=some (.lst g)/\cXn (aYp H (Y7 R shut)) ((cQJ k).filter (Q1 R shut d c)++ [k].filter (Q1 R shut d c)) g,rt:=Q} [some (.ref U),some (.ref sa),some (.int d),some (.bl c),some (.ref J),some (.int (k:Nat)),some (.int (Y7 R shut k))] H2:=λe=>by
    have a8:=L _ _ B;refine⟨_,rfl,.inl ⟨rfl,_,SqL.of a8⟩,_,rfl,_,rfl,z2,λq3 b7=>?_⟩;have k5:=yE b7 (.tup [V.int (Y7 R shut k),V.int (k:Nat)]);have a3:=k5 _ _ a8;have il:g.length<=k:=by rw[<- W.length];exact cQ7 (cXu _ _) (by simp)
    have t6:∀a xs,upd H2 q3 (.tup [V.int (Y7 R shut k),V.int (k:Nat)]) a=some (.tup xs)->upd (upd H2 q3 (.tup [V.int (Y7 R shut k),V.int (k:Nat)])) J (.lst (g++ [V.ref q3])) a=some (.tup xs):=λa xs e=>by rw[yJ (aXU e a3 (by intro z;cases z))];exact e
    have e3: [k].filter (Q1 R shut d c)= [k]:=by simp[e]
    refine⟨J,g,.ref q3,rfl,rfl,a3,zlt (by omega),g++ [.ref q3],_,_,rfl,aXO (u.trans (L.trans k5)) a2,yB,?_⟩;rw[e3];exact aZa ⟨q3,rfl,t6 _ _ yB⟩ (Paired.mapP W λ_ _ z=>z.tk λa xs e=>t6 _ _ (k5 _ _ (L _ _ e)))
   refine⟨_,rfl,_,rfl,?_⟩;by_cases n:c=true
   ·refine onF (by rw[n];rfl) ⟨_,rfl,_,rfl,_,_,rfl,rfl,_,rfl,?_⟩;cases a5:decide (Y7 R shut k<d)with
    |true=>exact onT rfl (a6 (by unfold Q1;rw[hw,n,a5];rfl))
    |false=>exact onF rfl (stay H2 _ _ L (by unfold Q1;rw[hw,n,a5];rfl))
   ·have hf:c=false:=by simpa using n
    exact onT (by rw[hf];rfl) (onT rfl (a6 (by unfold Q1;rw[hw,hf];rfl)))
 ·rintro σ H1 ⟨g,S,O,rfl,u,B,W⟩;generalize M:(cQJ R.length).filter (Q1 R shut d c)=fam at W;have b1:fam.length=g.length:=W.length;have fn:fam.length<=R.length:=by rw[<- M];exact cQ7 (cXu _ _) (by simp)
  have b2:∀k,k∈fam↔k<R.length/\Q1 R shut d c k=true:=λk=>by rw[<- M,cXA,cQ5]
  have b3:fam.Nodup:=by rw[<- M];exact cJS.sublist cZp
  refine⟨_,rfl,J,g,λm=>(Y7 R shut (fam.getD m 0),((fam.getD m 0:Nat):Int)),rfl,B,by omega,λa b ha hb e=>?_,λm x hx=>?_,λl j hl a0 b6=>?_⟩
  ·have G:fam.getD a 0=fam.getD b 0:=by have:=congrArg Prod.snd e;simp only at this;omega
   have a7:a<fam.length:=by omega
   have a4:b<fam.length:=by omega
   simp[cXk,cQw a7,cQw a4]at G;exact(cZs (h₀:=a7) (h₁:=a4) b3).mp G
  ·obtain⟨k,hk,p,e1,G⟩:=bXV W hx;have:fam.getD m 0=k:=by simp[cXk,hk]
   show ∃a,x=V.ref a/\H1 a=some (.tup [V.int (Y7 R shut (fam.getD m 0)),V.int ((fam.getD m 0:Nat):Int)]);rw[this];exact⟨p,e1,G⟩
  ·have hm:∀m∈j,m<g.length:=λm hm=>cQ5.mp (a0.mem_iff.mp hm);have L:=yE hl (.lst (j.map λi=>g.getD i .non));refine⟨l,rfl,⟨_,SqL.of yB⟩,λr N=>?_⟩;have b9:j.length=g.length:=by rw[a0.length_eq,cXp]
   have b0:∀m∈j,∃p,g.getD m .non= .ref p/\H1 p=some (.tup [.int (Y7 R shut (fam.getD m 0)),.int ((fam.getD m 0:Nat):Int)]):=λm y=>by
    have D:=hm m y;have hg:g[m]? =some (g.getD m .non):=by simp[cXk,cQw D]
    obtain⟨k,hk,p,e1,G⟩:=bXV W hg;have:fam.getD m 0=k:=by simp[cXk,hk]
    rw[this];exact⟨p,e1,G⟩
   refine aXd (λ_=>true) (bYv H1) (SqL.of yB) N (zn (by rw[cQB];omega)) (λv hv X R' _ h=>h) (λv hv _ X R' hH Y=>?_) ?_
   ·obtain⟨m,y,rfl⟩:=cXr.mp hv;obtain⟨p,e1,G⟩:=b0 m y;rw[e1]at Y ⊢;have e4:=L _ _ G;have e5:=(hH p (yI e4 N)).trans e4;rw[aWH G]at Y;exact⟨_,rfl,p,_,1,_,rfl,rfl,SqT.of e5,rfl,Y⟩
   ·have ff:(j.map λi=>g.getD i .non).filter (λ_=>true)=j.map λi=>g.getD i .non:=cZS.mpr λ_ _=>rfl;have e6:((j.map λi=>g.getD i .non).map (bYv H1))=(j.map λm=>fam.getD m 0).map λi=>V.int (i:Nat):=by
     rw[cZf,cZf];refine cJo λm y=>?_;obtain⟨p,e1,G⟩:=b0 m y;show bYv H1 (g.getD m .non)=V.int (fam.getD m 0:Nat);rw[e1];exact aWH G
    rw[ff,e6];refine q r _ (j.map λm=>fam.getD m 0) (u.trans (L.trans (yE N _))) ((u.trans L).fresh N) yB ⟨λk=>?_,?_⟩
    ·have b8:k∈j.map (λm=>fam.getD m 0)↔k∈fam:=by
      constructor
      ·intro h;obtain⟨m,y,rfl⟩:=cXr.mp h;have D:m<fam.length:=by rw[b1];exact hm m y
       simp[cXk,cQw D]
      ·intro h;obtain⟨m,D,e⟩:=cXq h;refine cXr.mpr ⟨m,a0.mem_iff.mpr (cQ5.mpr (by omega)),?_⟩;simp[cXk,cQw D,e]
     rw[b8,b2 k];unfold Q1;rw[Bool.and_eq_true,Bool.or_eq_true,decide_eq_true_eq];refine and_congr Iff.rfl (and_congr Iff.rfl ?_);cases c<;> simp[Y7]
    ·rw[cZ7];exact b6
end
end Law
namespace Law
open PySem L2 PyProof.Rows
open Bk (Row Rows)
open Stree (Z6 qT vG)
abbrev aZK:Stmt:=xM "_law_family"
def zZ{a H:Hp}{c:Nat}{o:HO}(k:xJ a H)(h:a c=none):xJ a (upd H c o):=λb u q=>by rw[yJ (yI q h)];exact k b u q
def vS{H:Hp}{p:Nat}{c:List V}{o:HO}(h:H p=some (.lst c)):∀a b,H a=some (.tup b)->upd H p o a=some (.tup b):=λa b e=>by rw[yJ (aXU e h (by intro z;cases z))];exact e
structure bJX(H:Hp)(ra:Nat)(rs:List Nat)(n:Nat)(L:Nat->Option Nat)(D:Nat->Int):Prop where
 lst:H ra=some (.lst (rs.map V.ref))
 len:rs.length=n
 row:∀i b,rs[i]? =some b->∃xs,H b=some (.lst xs)/\xs[1]? =some (.int (D i))/\xs[4]? =some (zV (L i))
def qZ:Sp:=λf H Q _=>∃ (d:Nat)(e:List Nat)(n:Nat)(L:Nat->Option Nat)(b:Nat->Nat)(D:Nat->Int)(i:Nat),f= [.ref d,.int (i:Nat)]/\bJX H d e n L D/\Fm.Ok n L b/\n<=60/\i<n/\
 ∀ (c:Hp)(r:Nat)(a:List Nat),xJ H c->H r=none->c r=some (.lst (a.map λi=>V.int (i:Nat)))->(a.Pairwise λx y=>qT (Fm.rd L D b x) (Fm.rd L D b y)=true)->(∀k,k∈a↔k<n/\Fm.tp L b k=Fm.tp L b i)->Q (.ref r) c
def Tk(H c:Hp):Prop:=∀a b,H a=some (.tup b)->c a=some (.tup b)
def xJ.tk{H b:Hp}(k:xJ H b):Tk H b:=λa c e=>k a _ e
def Tk.trans{H g f:Hp}(a:Tk H g)(b:Tk g f):Tk H f:=λc d e=>b c d (a c d e)
def Q5.tk{H d:Hp}(k:Tk H d){b:Nat}{a:Z6}(h:Q5 H b a):Q5 d b a:=let ⟨xs,e,z⟩:=h;⟨xs,k _ _ e,Paired.mapP z λ_ _ ⟨c,w1,w2⟩=>⟨c,w1,k _ _ w2⟩⟩
def bYr(H:Hp)(rd:Nat->Z6)(k:Nat)(x:V):Prop:=∃p b,x= .ref p/\H p=some (.tup [.ref b,.int (k:Nat)])/\Q5 H b (rd k)
def bYr.tk{H d:Hp}{rd:Nat->Z6}(t:Tk H d){k:Nat}{x:V}(h:bYr H rd k x):bYr d rd k x:=let ⟨p,b,e,a,c⟩:=h;⟨p,b,e,t _ _ a,Q5.tk t c⟩
def J8{α β:Type}{F:α->β->Prop}:∀ {l:List α} {m:List β} {i:Nat} {y:β},cXn F l m->m[i]? =some y->∃x,l[i]? =some x/\F x y
 |_,_,0,_,.cons r _,h=>by simp at h;subst h;exact⟨_,rfl,r⟩
 |_,_,i+1,_,.cons _ t,h=>by simpa using J8 (i:=i) t (by simpa using h)
 |_,_,i,_,.nil,h=>by simp at h
def aXk{α β:Type}{F:α->β->Prop}{x:α}{y:β}(r:F x y):∀ {l:List α} {m:List β},cXn F l m->cXn F (l++ [x]) (m++ [y])
 |_,_,.nil=> .cons r .nil
 |_,_,.cons a t=> .cons a (aXk r t)
section
variable {K:cQz}
def bXj:yO ["_law_rows","_law_number","_law_root","_law_keys","_law_k","_law_key","_law_top"] ["_law_rows","_law_number"] (yH aZK):=scM
def aY3:xO ["_law_rows","_law_number","_law_root","_law_keys","_law_k","_law_key","_law_top"] (yH aZK) "_law_pair" [] [] (lsN [(".0",.local),("_law_pair",.local)]):=
 lcM
def bYf(H:Hp):V->V
 |.ref p=>match H p with
  |some (.tup [_,y])=>y
  |_=> .non
 |_=> .non
def aWI{H:Hp}{p:Nat}{x y:V}(h:H p=some (.tup [x,y])):bYf H (.ref p)=y:=by
 show(match H p with|some (.tup [_,y])=>y|_=>V.non)=y;rw[h]
def bQt(T:uJ mg)(a4:mg "sorted"=none)(F:Fun K "_law_family" "_law_family" aZK f fd):xL P w K mg base CX0 2 f fd ["_law_rows","_law_number"] qZ:=by
 have sc:=bXj;refine F.ok (k:=1) sc (λf5 A outer s H0 vs Q E hr h=>?_);obtain⟨X,rs,n,L,g,D,i,rfl,hR,ho,hn,hi,q⟩:=h;refine⟨_,(yC (yU (i:=2) (pv 1)) (yC (jO cXo (yM wZ (yL yK (yL yK (pv 0) (pv 2)) yG) zL) (yF (yU (i:=2) (yL yK (yL yK (pv 0) (pv 2)) yG)))) (yC (yU (i:=3) (xB yD)) (yC (wT cXo rfl (zY rfl T.b_range (yA (yR yN rfl T.b_len xG (yA (pv 0) yD)) yD)) (xI (i:=4)) (yC (yU (i:=5) (xK (yA (xK (yA (yL yK (yL yK (pv 0) (pv 4)) yG) (yA (pv 4) yD))) yD))) (yC (yU (i:=6) (pv 4)) (yC (jO cXo (yM wZ (yL yK (yL yK (pv 0) (pv 6)) yG) zL) (yC (yU (i:=6) (yL yK (yL yK (pv 0) (pv 6)) yG)) (yF (yU (i:=5) (yV bQz (xK (yA (xK (yA (yL yK (yL yK (pv 0) (pv 6)) yG) (yA (pv 6) yD))) yD)) (pv 5)))))) (yF (xA (yM zR (pv 6) (pv 2)) (yF (yZ (jC cQ3 cXc cXd xR (pv 3) (yA (xK (yA (pv 5) (yA (pv 4) yD))) yD)))) yS)))))) (yF (yP (aQj aY3 rfl (xN (yR (aQJ hr) rfl a4 wW (yA (pv 3) yD))) (λ_ _ _ _ _=>wQ) (λ_ _ _ _ _=>(yL ixT (pv 0) yG))))))))),?_⟩;have row:∀ {H:Hp} {t:Nat},xJ H0 H->t<n->∃b I,(rs.map V.ref)[t]? =some (.ref b)/\H b=some (.lst I)/\I[1]? =some (.int (D t))/\I[4]? =some (zV (L t)):=λ{H t} k ht=>by
  have d9:t<rs.length:=by rw[hR.len];exact ht
  have hb:=cQw d9;obtain⟨I,h1,h2,h3⟩:=hR.row t _ hb;exact⟨rs[t],I,by rw[cQR,hb];rfl,k _ _ h1,h2,h3⟩
 refine⟨_,rfl,?_⟩;dsimp only[yW];refine⟨λm σ H=>∃t:Nat,σ= [some (.ref X),some (.int (i:Nat)),some (.int (t:Nat)),none,none,none,none]/\H=H0/\t<n/\Fm.tp L g t=Fm.tp L g i/\m=g t,⟨g i,i,rfl,rfl,hi,rfl,rfl⟩,?_⟩;rintro m σ H ⟨t,rfl,rfl,ht,c0,rfl⟩;obtain⟨b,I,g1,g2,g3,g4⟩:=row (xJ.refl H) ht;refine⟨_,rfl,_,rfl,X,_,_,_,rfl,rfl,SqL.of hR.lst,yT g1,b,I,4,_,rfl,rfl,SqL.of g2,yT (j:=4) g4,rfl,_,rfl,?_⟩;cases hl:L t with
 |some j=>obtain⟨hj,b5⟩:=ho.lt t j ht hl;refine onT rfl ⟨λσ' H'=>∃m',m'<g t/\∃t:Nat,σ'= [some (.ref X),some (.int (i:Nat)),some (.int (t:Nat)),none,none,none,none]/\H'=H/\t<n/\Fm.tp L g t=Fm.tp L g i/\m'=g t,λσ' H' z=>z,?_⟩;refine⟨_,rfl,_,rfl,X,_,_,_,rfl,rfl,SqL.of hR.lst,yT g1,b,I,4,_,rfl,rfl,SqL.of g2,yT (j:=4) g4,?_⟩;rw[hl];exact⟨g j,b5,j,rfl,rfl,hj,by rw[<- c0,Fm.uW ho ht hl],rfl⟩
 |none=>
  have c4:t=Fm.tp L g i:=by rw[<- c0,Fm.wM hl]
  subst c4;refine onF rfl ?_;refine⟨z0,λka c6=>?_⟩;dsimp only[yW];have k1:=yE c6 (.lst []);have c1:(rs.map V.ref).length=n:=by rw[cQB];exact hR.len
  refine⟨_,rfl,X,_,rfl,.inl (SqL.of (k1 _ _ hR.lst)),?_⟩;rw[c1];refine⟨_,rfl,by omega,by omega,?_⟩;rw[cQ6];refine vO (λt σ H'=>∃ (d:List V)(o4 o5 o6:Option V),σ= [some (.ref X),some (.int (i:Nat)),some (.int (Fm.tp L g i:Nat)),some (.ref ka),o4,o5,o6]/\xJ H H'/\H' ka=some (.lst d)/\
   cXn (bYr H' (Fm.rd L D g)) ((cQJ t).filter λk=>decide (Fm.tp L g k=Fm.tp L g i)) d) ?_ ?_ ?_
  ·exact⟨[],none,none,none,rfl,k1,yB,.nil⟩
  ·rintro k σ N hk ⟨d,o4,o5,o6,rfl,y,J,hP⟩;rw[cZX];dsimp only[yW];obtain⟨b,I,g1,g2,g3,g4⟩:=row y hk;have d2:=y _ _ hR.lst;refine⟨_,rfl,_,rfl,X,_,_,_,rfl,rfl,SqL.of d2,yT g1,b,I,1,_,rfl,rfl,SqL.of g2,yT (j:=1) g3,_,rfl,z2,λp1 a5=>⟨z1,λp2 b6=>?_⟩⟩;dsimp only[yW];have d5:=yE a5 (.tup [V.int (D k),V.int (k:Nat)]);have c9:=yE b6 (.tup [V.ref p1]);have a8:Q5 (upd (upd N p1 (.tup [V.int (D k),V.int (k:Nat)])) p2 (.tup [V.ref p1])) p2 [(D k,(k:Int))]:=⟨[.ref p1],yB,.cons ⟨p1,rfl,c9 _ _ yB⟩ .nil⟩;have c7:xJ N (upd (upd N p1 (.tup [V.int (D k),V.int (k:Nat)])) p2 (.tup [V.ref p1])):=d5.trans c9;generalize upd (upd N p1 (.tup [V.int (D k),V.int (k:Nat)])) p2 (.tup [V.ref p1])=H2 at a8 c7 ⊢;refine⟨_,rfl,?_⟩;dsimp only[yW];refine⟨λm σ U=>∃ (o:Nat)(S:Z6)(Z:Nat),σ= [some (.ref X),some (.int (i:Nat)),some (.int (Fm.tp L g i:Nat)),some (.ref ka),some (.int (k:Nat)),some (.ref Z),some (.int (o:Nat))]/\xJ N U/\o<n/\
     Q5 U Z ((D o,(o:Int))::S)/\Fm.rd L D g k=Fm.rd L D g o++S/\Fm.tp L g o=Fm.tp L g k/\m=g o,⟨g k,k,[],p2,rfl,c7,hk,a8,by rw[cXC],rfl,rfl⟩,?_⟩
   rintro m σ U ⟨o,S,Z,rfl,C,b0,a0,b4,c8,rfl⟩;have B:=y.trans C;obtain⟨b,I,g1,g2,g3,g4⟩:=row B b0;refine⟨_,rfl,_,rfl,X,_,_,_,rfl,rfl,SqL.of (B _ _ hR.lst),yT g1,b,I,4,_,rfl,rfl,SqL.of g2,yT (j:=4) g4,rfl,_,rfl,?_⟩;cases O:L o with
   |some j=>
    obtain⟨hj,b5⟩:=ho.lt o j b0 O;refine onT rfl ⟨λσ U=>∃m',m'<g o/\∃ (o:Nat)(S:Z6)(Z:Nat),σ= [some (.ref X),some (.int (i:Nat)),some (.int (Fm.tp L g i:Nat)),some (.ref ka),some (.int (k:Nat)),some (.ref Z),some (.int (o:Nat))]/\xJ N U/\o<n/\
     Q5 U Z ((D o,(o:Int))::S)/\Fm.rd L D g k=Fm.rd L D g o++S/\Fm.tp L g o=Fm.tp L g k/\m'=g o,λσ' H' z=>z,?_⟩
    refine⟨_,rfl,_,rfl,X,_,_,_,rfl,rfl,SqL.of (B _ _ hR.lst),yT g1,b,I,4,_,rfl,rfl,SqL.of g2,yT (j:=4) g4,?_⟩;rw[O];dsimp only[yW,zV];obtain⟨b',e9,d4,f1,d7,f4⟩:=row B hj;refine⟨_,rfl,_,rfl,X,_,_,_,rfl,rfl,SqL.of (B _ _ hR.lst),yT d4,b',e9,1,_,rfl,rfl,SqL.of f1,yT (j:=1) d7,_,rfl,z2,λM e0=>⟨z1,λq2 e8=>?_⟩⟩;have f0:=yE e0 (.tup [V.int (D j),V.int (j:Nat)]);have c5:=yE e8 (.tup [V.ref M]);have b9:xJ U (upd (upd U M (.tup [V.int (D j),V.int (j:Nat)])) q2 (.tup [V.ref M])):=f0.trans c5;have e1:upd (upd U M (.tup [V.int (D j),V.int (j:Nat)])) q2 (.tup [V.ref M]) M=some (.tup [V.int (D j),V.int (j:Nat)]):=c5 _ _ yB;have W:upd (upd U M (.tup [V.int (D j),V.int (j:Nat)])) q2 (.tup [V.ref M]) q2=some (.tup [V.ref M]):=yB;generalize upd (upd U M (.tup [V.int (D j),V.int (j:Nat)])) q2 (.tup [V.ref M])=H4 at b9 e1 W ⊢;obtain⟨ys,y1,y2⟩:=Q5.tk (xJ.tk b9) a0;have b1:ys.length=S.length+1:=by have:=y2.length;simpa using this.symm
    have c2:(Fm.rd L D g k).length<=n:=Fm.bK3 ho hk;rw[b4,cQ0]at c2;have d6:ys≠ []:=λz=>by rw[z]at b1;simp at b1
    refine⟨_,rfl,q2,Z,_,ys,rfl,rfl,SqT.of W,SqT.of y1,by simp,by rw[cQZ];show 1+ys.length<=_;omega,λz=>absurd z d6,λ_ q3 b8=>?_⟩;have u:=yE b8 (.tup ([V.ref M]++ys));refine⟨g j,b5,j,(D o,(o:Int))::S,q3,rfl,C.trans (b9.trans u),hj,⟨_,yB,.cons ⟨M,rfl,u _ _ e1⟩ (Paired.mapP y2 λ_ _ ⟨c,w1,w2⟩=>⟨c,w1,u _ _ w2⟩)⟩,?_,?_,rfl⟩
    ·rw[b4,Fm.jP ho b0 O,cXJ];rfl
    ·rw[<- c8,Fm.uW ho b0 O]
   |none=>
    have b7:o=Fm.tp L g k:=by rw[<- c8,Fm.wM O]
    have e7:Fm.rd L D g k=(D o,(o:Int))::S:=by rw[b4,Fm.aQk O];rfl
    refine onF rfl ?_;refine⟨_,rfl,_,rfl,rfl,_,rfl,?_⟩;rw[cZ2,cXK];by_cases ec:Fm.tp L g k=Fm.tp L g i
    ·have hd:decide ((V.int (o:Nat))=V.int (Fm.tp L g i:Nat))=true:=by rw[b7,ec];simp
     refine onT (by rw[b7,ec];simp) ?_;have b2:=C _ _ J;refine⟨_,rfl,.inl ⟨rfl,_,SqL.of b2⟩,_,rfl,_,rfl,z2,λq3 b8=>?_⟩;have u:=yE b8 (.tup [V.ref Z,V.int (k:Nat)]);have b3:=u _ _ b2;have il:d.length<=k:=by have:=hP.length;rw[<- this];exact cQ7 (cXu _ _) (by simp)
     have t6:Tk (upd U q3 (.tup [V.ref Z,V.int (k:Nat)])) (upd (upd U q3 (.tup [V.ref Z,V.int (k:Nat)])) ka (.lst (d++ [V.ref q3]))):=λa I e=>vS b3 a I e;refine⟨ka,d,.ref q3,rfl,rfl,b3,zlt (by omega),d++ [.ref q3],_,_,_,rfl,zZ (y.trans (C.trans u)) c6,yB,?_⟩;have e3: [k].filter (λk=>decide (Fm.tp L g k=Fm.tp L g i))= [k]:=by simp[ec]
     rw[e3];refine aXk ⟨q3,Z,rfl,t6 _ _ yB,?_⟩ (Paired.mapP hP λ_ _ z=>z.tk ((xJ.tk (C.trans u)).trans t6));rw[e7];exact Q5.tk ((xJ.tk u).trans t6) a0
    ·refine onF ?_ ⟨d,_,_,_,rfl,y.trans C,C _ _ J,?_⟩
     ·rw[b7];simp;omega
     ·have e3: [k].filter (λk=>decide (Fm.tp L g k=Fm.tp L g i))= []:=by simp[ec]
      rw[e3,cXC];exact Paired.mapP hP λ_ _ z=>z.tk (xJ.tk C)
  ·rintro σ N ⟨d,o4,o5,o6,rfl,y,J,hP⟩;generalize a6:(cQJ n).filter (λk=>decide (Fm.tp L g k=Fm.tp L g i))=fam at hP;have f3:fam.length=d.length:=hP.length;have fn:fam.length<=n:=by rw[<- a6];exact cQ7 (cXu _ _) (by simp)
   have a7:∀k,k∈fam↔k<n/\Fm.tp L g k=Fm.tp L g i:=λk=>by rw[<- a6,cXA,cQ5,decide_eq_true_eq]
   have d1:fam.Nodup:=by rw[<- a6];exact cJS.sublist cZp
   have a3:∀m,m<d.length->fam.getD m 0∈fam:=λm hm=>by
    have d8:m<fam.length:=by omega
    simp[cXk,cQw d8]
   refine⟨_,rfl,ka,d,λm=>Fm.rd L D g (fam.getD m 0),λm=>((fam.getD m 0:Nat):Int),rfl,J,by omega,λa b ha hb e=>?_,λm x hx=>?_,λl G hl a5 b6=>?_⟩
   ·have W:=Fm.bQN ho ((a7 _).mp (a3 a ha)).1 ((a7 _).mp (a3 b hb)).1 e;have d0:a<fam.length:=by omega
    have c3:b<fam.length:=by omega
    simp[cXk,cQw d0,cQw c3]at W;exact(cZs (h₀:=d0) (h₁:=c3) d1).mp W
   ·obtain⟨k,hk,p,b,e1,W,e3⟩:=J8 hP hx;have:fam.getD m 0=k:=by simp[cXk,hk]
    show ∃a b,x=V.ref a/\N a=some (.tup [V.ref b,V.int ((fam.getD m 0:Nat):Int)])/\Q5 N b (Fm.rd L D g (fam.getD m 0));rw[this];exact⟨p,b,e1,W,e3⟩
   ·have hm:∀m∈G,m<d.length:=λm hm=>cQ5.mp (a5.mem_iff.mp hm);have k2:=yE hl (.lst (G.map λi=>d.getD i .non));refine⟨l,rfl,⟨_,SqL.of yB⟩,λr a9=>?_⟩;have f2:G.length=d.length:=by rw[a5.length_eq,cXp]
    refine aXd (λ_=>true) (bYf N) (SqL.of yB) a9 (zn (by rw[cQB];omega)) ?_ ?_ ?_
    ·intro v hv H' R hH a1;exact a1
    ·intro v hv _ H' R hH a1;obtain⟨m,a2,rfl⟩:=cXr.mp hv;have Y:=hm m a2;have hg:d[m]? =some (d.getD m .non):=by simp[cXk,cQw Y]
     obtain⟨k,hk,p,b,e1,W,e3⟩:=J8 hP hg;rw[e1]at a1 ⊢;have e4:=k2 _ _ W;have d3:p≠r:=yI e4 a9;have e5:H' p=some (.tup [.ref b,.int (k:Nat)]):=by rw[hH p d3];exact e4
     refine⟨_,rfl,p,_,1,.int (k:Nat),rfl,rfl,SqT.of e5,rfl,?_⟩;have:bYf N (.ref p)= .int (k:Nat):=aWI W;rw[this]at a1;exact a1
    ·have ff:(G.map λi=>d.getD i .non).filter (λ_=>true)=G.map λi=>d.getD i .non:=cZS.mpr λ_ _=>rfl;rw[ff,cZf];have e6:(G.map (bYf N∘λi=>d.getD i .non))=(G.map λm=>fam.getD m 0).map λi=>V.int (i:Nat):=by
      rw[cZf];refine cJo λm a2=>?_;have Y:=hm m a2;have hg:d[m]? =some (d.getD m .non):=by simp[cXk,cQw Y]
      obtain⟨k,hk,p,b,e1,W,e3⟩:=J8 hP hg;show bYf N (d.getD m .non)=V.int (fam.getD m 0:Nat);have:fam.getD m 0=k:=by simp[cXk,hk]
      rw[e1,this];exact aWI W
     rw[e6];refine q _ r (G.map λm=>fam.getD m 0) (y.trans (k2.trans (yE a9 _))) ((y.trans k2).fresh a9) yB ?_ λk=>?_
     ·rw[cZ7];exact b6
     ·rw[<- a7 k];constructor
      ·intro h;obtain⟨m,a2,rfl⟩:=cXr.mp h;exact a3 m (hm m a2)
      ·intro h;obtain⟨m,Y,e⟩:=cXq h;refine cXr.mpr ⟨m,a5.mem_iff.mpr (cQ5.mpr (by omega)),?_⟩;simp[cXk,cQw Y,e]
end
def xF.rows{H:Hp}{c:Nat}{d:List Nat}{R:Rows}(h:xF H c d R):bJX H c d R.length (Bk.lk R) (Bk.dt R):=
 ⟨h.lst,h.len,λi b e=>by
  have g:i<R.length:=by rw[<- h.len];exact(cQK.mp e).1
  have a:=cQw g;obtain⟨k,f,j⟩:=h.row i b _ e a;exact⟨_,f,by rw[Bk.uK a];rfl,by rw[Bk.uL a];rfl⟩⟩
end Law
namespace Law
open PySem L2 PyProof.Rows
open Bk (Row Rows)
def jW(r:Row)(a:Nat):List V:= [.str r.way,.int r.date,.str r.partner,.int r.term,zV r.link,.str r.place,.bl r.void,.ref a]
def X9{r:Row}{a:Nat}{l:List Str}:HO.lst (jW r a)≠HO.lst (l.map V.str):=λz=>by
 injection z with z
 match l,z with
 |[],z=>cases z
 |[_],z=>injection z with _ z;cases z
 |_::_::_,z=>injection z with _ z;injection z with z _;cases z
def aXr{r:Row}{a:Nat}{l:List Nat}:HO.lst (jW r a)≠HO.lst (l.map V.ref):=λz=>by
 injection z with z
 match l,z with
 |[],z=>cases z
 |_::_,z=>injection z with z _;cases z
def xF.upd{H:Hp}{p:Nat}{j:List Nat}{R:Rows}{k:Nat}{b:Nat}{r:Row}(h:xF H p j R)(s:j[k]? =some b)(w:R[k]? =some r)(f:Row->Row){l:Nat}(a:H l=some (.lst ((f r).copies.map V.str))):xF (upd H b (.lst (jW (f r) l))) p j (Bk.xW R k f):=by
 obtain⟨A,o,_⟩:=h.row k b r s w;have m:p≠b:=aXU h.lst o (cXg aXr);refine⟨by rw[yJ m];exact h.lst,by rw[Bk.wP];exact h.len,h.nd,λi c q g d=>?_⟩;rw[Bk.wA]at d;by_cases e:i=k
 ·subst e;rw[s]at g;cases g;rw[if_pos rfl,w]at d;cases d;exact⟨l,yB,by rw[yJ (aXU a o (cXg X9))];exact a⟩
 ·rw[if_neg e]at d;obtain⟨y,x,v⟩:=h.row i c q g d;have n:c≠b:=λz=>by
   have u:=cQK.mp g;have t:=cQK.mp s;exact e ((cZs (h₀:=u.1) (h₁:=t.1) h.nd).mp (by rw[u.2,t.2];exact z))
  exact⟨y,by rw[yJ n];exact x,by rw[yJ (aXU v o (cXg X9))];exact v⟩
def NoC(a:List Nat)(H:Hp)(s:Nat):Prop:=∀b∈a,∀l,H b=some (.lst l)->l[7]? ≠some (.ref s)
def But(a:List Nat)(H c:Hp):Prop:=(∀b o,b∉a->H b=some o->c b=some o)/\(∀b∈a,∃o,c b=some o)/\∀s u,H s=some u->NoC a H s->NoC a c s
def xF.dom{H:Hp}{f:Nat}{a:List Nat}{R:Rows}(h:xF H f a R):∀b∈a,∃o,H b=some o:=λb g=>by
 obtain⟨i,c,e⟩:=cXq g;have j:=cQw (show i<R.length by rw[<- h.len];exact c);obtain⟨k,d,_⟩:=h.row i b _ (by rw[cQw c,e]) j;exact⟨_,d⟩
def But.of{c:List Nat}{H f:Hp}(g:∀b∈c,∃o,H b=some o)(k:xJ H f):But c H f:=⟨λb o _ e=>k b o e,λb a=>let ⟨o,e⟩:=g b a;⟨o,k _ _ e⟩,λs u e n b a l h=>by
 obtain⟨o,d⟩:=g b a;have:=k _ _ d;rw[h]at this;cases this;exact n b a l d⟩
def But.trans{d:List Nat}{H h g:Hp}(a:But d H h)(b:But d h g):But d H g:=⟨λc o n e=>b.1 c o n (a.1 c o n e),b.2.1,λs u e n=>by
 by_cases f:s∈d
 ·obtain⟨o,i⟩:=a.2.1 s f;exact b.2.2 s o i (a.2.2 s u e n)
 ·exact b.2.2 s u (a.1 s u f e) (a.2.2 s u e n)⟩
def But.upd{d:List Nat}{H:Hp}{k:Nat}{b:Nat}{l l':List V}(g:∀b∈d,∃o,H b=some o)(h:d[k]? =some b)(hl:H b=some (.lst l))(f:l'[7]? =l[7]?):But d H (upd H b (.lst l')):=
 ⟨λc u n e=>by rw[yJ (λz=>n (by rw[z];exact cQP h))];exact e,λc a=>by
  by_cases z:c=b
  ·rw[z];exact⟨_,yB⟩
  ·rw[yJ z];exact g c a,λs u e n c a x ex=>by
  by_cases z:c=b
  ·subst z;rw[yB]at ex;cases ex;rw[f];exact n c a l hl
  ·rw[yJ z]at ex;exact n c a x ex⟩
abbrev bWG:Stmt:=xM "_law_lost"
def bVl:Sp:=λf H Q _=>∃ (b:Nat)(c:List Nat)(R:Rows)(k:Nat)(r:Row),f= [.ref b,.int (k:Nat)]/\xF H b c R/\R.length<=100/\R[k]? =some r/\
 ∀ (d:Hp)(a:Str)(e:Rows),But c H d->xF d b c e->((Bk.vF R k≠ []/\a="answered"/\e=R)\/(Bk.vF R k= []/\a="void"/\e=Bk.xW R k λr=>{r with link:=none,void:=true}))->Q (.str a) d
section
variable {K:cQz}
def bWU:yO ["_law_rows","_law_number","_law_one"] ["_law_rows","_law_number"] (yH bWG):=scM
def bWh(a:FnG P w K mg base 1 "_law_kids_of" ["_law_rows","_law_number"] aWQ)(F:Fun K "_law_lost" "_law_lost" bWG f fd):xL P w K mg base CX0 2 f fd ["_law_rows","_law_number"] bVl:=by
 have D:=bWU;refine F.ok (k:=1) D (λI A outer s H L Q E x h=>?_);obtain⟨u,y,R,k,r,rfl,d,hR,o,q⟩:=h;refine⟨_,(yC (yU (i:=2) (yL yK (pv 0) (pv 1))) (yC (xA (yM (jM x.units0) (xU a x rfl (yA (pv 0) (yA (pv 1) yD))) (xB yD)) (yF (yP yQ)) yS) (yC (uQ zL (X0 (pv 2) yG wR)) (yC (uQ vQ (X0 (pv 2) yG wR)) (yF (yP yQ)))))),?_⟩;obtain⟨b,z,p,J,B,G⟩:=d.get o;refine⟨_,rfl,_,rfl,u,_,_,_,rfl,rfl,SqL.of d.lst,yT z,?_⟩;dsimp only[yW];refine⟨_,rfl,_,rfl,u,y,R,k,rfl,d,hR,λv n=>⟨z0,λpn m=>?_⟩⟩;have C:=yE n (.lst ((Bk.vF R k).map λi=>V.int (i:Nat)));have t:=yE m (.lst []);refine⟨v,pn,_,rfl,rfl,SqL.of (t _ _ yB),SqL.of yB,_,rfl,?_⟩;have kA:=C.trans t;generalize upd (upd H v (.lst ((Bk.vF R k).map λi=>V.int (i:Nat)))) pn (.lst [])=H2 at kA ⊢;have c:=d.same kA;cases e:Bk.vF R k with
 |cons j l=>exact onT rfl (q H2 _ R (But.of d.dom kA) c (.inl ⟨by rw[e];simp,rfl,rfl⟩))
 |nil=>refine onF rfl ?_;have g:=kA _ _ B;refine⟨_,rfl,b,_,4,4,rfl,rfl,g,rfl,?_⟩;refine⟨_,rfl,b,_,6,6,rfl,rfl,yB,rfl,?_⟩;rw[qM];exact q _ _ _ ((But.of d.dom kA).trans (But.upd c.dom p g rfl)) (c.upd p o (λr=>{r with link:=none,void:=true}) (kA _ _ G)) (.inr ⟨e,rfl,rfl⟩)
end
end Law
namespace Law
open PySem L2 PyProof.Rows
open Bk (Row Rows)
abbrev bQV:Stmt:=xM "_law_dated"
def aYs(R:Rows)(k:Nat)(r:Row)(d:Int):Prop:=(∃j,r.link=some j/\d<Bk.dt R j)\/∃c∈Bk.vF R k,Bk.dt R c<d
def bXx:Sp:=λg H Q _=>∃ (b:Nat)(c:List Nat)(R:Rows)(k:Nat)(r:Row)(d:Int),g= [.ref b,.int (k:Nat),.int d]/\xF H b c R/\R.length<=100/\R[k]? =some r/\(∀j,r.link=some j->j<R.length)/\
 ∀ (e:Hp)(a:Str)(f:Rows),But c H e->xF e b c f->((aYs R k r d/\a="too early"/\f=R)\/(¬aYs R k r d/\a="dated"/\f=Bk.xW R k λr=>{r with date:=d}))->Q (.str a) e
section
variable {K:cQz}
def bJl:yO ["_law_rows","_law_number","_law_date","_law_one","_law_k"] ["_law_rows","_law_number","_law_date"] (yH bQV):=scM
def bZJ(g:FnG P w K mg base 1 "_law_kids_of" ["_law_rows","_law_number"] aWQ)(F:Fun K "_law_dated" "_law_dated" bQV f fd):xL P w K mg base CX0 2 f fd ["_law_rows","_law_number","_law_date"] bXx:=by
 have sc:=bJl;refine F.ok (k:=1) sc (λa0 A outer s H vs Q E hr h=>?_);obtain⟨z,rs,R,k,r,d,rfl,n,hR,hk,Z,q⟩:=h;refine⟨_,(yC (yU (i:=3) (yL yK (pv 0) (pv 1))) (yC (xA (PW.pt (jE (yM wZ (yL yK (pv 3) yG) zL) (uG (yM uM (pv 2) (yL yK (yL yK (pv 0) (yL yK (pv 3) yG)) yG))))) (yF (yP yQ)) yS) (yC (wT cXo rfl (xN (xU g hr rfl (yA (pv 0) (yA (pv 1) yD)))) (xI (i:=4)) (yF (xA (yM uM (yL yK (yL yK (pv 0) (pv 4)) yG) (pv 2)) (yF (yP yQ)) yS))) (yC (uQ (pv 2) (X0 (pv 3) yG wR)) (yF (yP yQ)))))),?_⟩;obtain⟨b,g1,g2,cp,U,g4⟩:=n.get hk;refine⟨_,rfl,_,rfl,z,_,_,_,rfl,rfl,SqL.of n.lst,yT g1,?_⟩;dsimp only[yW];refine zU (λG N=>G= [some (.ref z),some (.int (k:Nat)),some (.int d),some (.ref b),none]/\N=H/\∀j,r.link=some j->Bk.dt R j<=d) ?X8 (λo=>?_);case X8=>
  rintro G N ⟨rfl,rfl,h1⟩;refine⟨_,rfl,_,rfl,z,rs,R,k,rfl,n,hR,λS X=>⟨S,rfl,⟨_,SqL.of yB⟩,?_⟩⟩;have kA:=yE X (.lst ((Bk.vF R k).map λi=>V.int (i:Nat)));have p:upd N S (.lst ((Bk.vF R k).map λi=>V.int (i:Nat))) S=some (.lst ((Bk.vF R k).map λi=>V.int (i:Nat))):=yB;generalize upd N S (.lst ((Bk.vF R k).map λi=>V.int (i:Nat)))=H2 at kA p ⊢;have m:=n.same kA;refine zS (xs:=(Bk.vF R k).map λi=>V.int (i:Nat)) (λt σ M=>∃O,σ= [some (.ref z),some (.int (k:Nat)),some (.int d),some (.ref b),O]/\M=H2/\∀u j,u<t->(Bk.vF R k)[u]? =some j->d<=Bk.dt R j) ?_ ?_ ?_ ?_
  ·exact⟨_,rfl,rfl,λu j I=>absurd I (cZg _)⟩
  ·rintro t σ M _ ⟨O,rfl,rfl,_⟩;exact SqL.of p
  ·rintro t x σ M J ⟨O,rfl,rfl,l⟩;rw[cQR]at J;cases L:(Bk.vF R k)[t]? with
   |none=>rw[L]at J;cases J
   |some j=>
    rw[L]at J;cases J;have B:=cQP L;have v:j<R.length:=cQ5.mp (cXA.mp B).1;have a:=cQw v;obtain⟨T,W,j2,cj,Y,j4⟩:=m.get a;dsimp only[yW];refine⟨_,rfl,_,rfl,z,_,_,_,rfl,rfl,SqL.of m.lst,yT W,T,_,1,_,rfl,rfl,SqL.of Y,rfl,_,rfl,_,_,rfl,rfl,_,rfl,?_⟩;cases C:decide (R[j].date<d)with
    |true=>exact onT rfl (q _ _ R (But.of n.dom kA) m (.inl ⟨.inr ⟨j,B,by rw[Bk.uK a];exact of_decide_eq_true C⟩,rfl,rfl⟩))
    |false=>
     refine onF rfl ⟨_,rfl,rfl,λu i I y=>?_⟩;by_cases e:u=t
     ·subst e;rw[L]at y;cases y;rw[Bk.uK a];have:=of_decide_eq_false C;omega
     ·exact l u i (by omega) y
  ·rintro σ M ⟨O,rfl,rfl,l⟩;rw[cQB]at l;have D:=kA _ _ U;refine⟨_,rfl,_,rfl,b,_,1,1,rfl,rfl,D,rfl,?_⟩;refine q _ _ _ ((But.of n.dom kA).trans (But.upd m.dom g2 D rfl)) (m.upd g2 hk (λr=>{r with date:=d}) (kA _ _ g4)) (.inr ⟨?_,rfl,rfl⟩);rintro(⟨j,e1,e2⟩|⟨c,hc,e2⟩)
   ·have:=h1 j e1;omega
   ·obtain⟨u,I,e⟩:=cXq hc;have:=l u c I (by rw[cQw I,e]);omega
 refine⟨_,rfl,b,_,4,_,rfl,rfl,SqL.of U,rfl,rfl,_,rfl,?_⟩;cases hl:r.link with
 |none=>exact onF rfl (onF rfl (o _ _ ⟨rfl,rfl,λj hj=>by rw[hl]at hj;cases hj⟩))
 |some j=>
  have v:=Z j hl;have a:=cQw v;obtain⟨T,W,j2,cj,Y,j4⟩:=n.get a;refine onT rfl ⟨_,rfl,_,rfl,_,rfl,b,_,4,_,rfl,rfl,SqL.of U,rfl,?_⟩;rw[hl];refine⟨z,_,_,_,rfl,rfl,SqL.of n.lst,yT W,T,_,1,_,rfl,rfl,SqL.of Y,rfl,_,_,rfl,rfl,_,rfl,?_⟩;cases C:decide (d<R[j].date)with
  |true=>exact onT rfl (q _ _ R (But.of n.dom (xJ.refl _)) n (.inl ⟨.inl ⟨j,hl,by rw[Bk.uK a];exact of_decide_eq_true C⟩,rfl,rfl⟩))
  |false=>exact onF rfl (o _ _ ⟨rfl,rfl,λi y=>by rw[hl]at y;cases y;rw[Bk.uK a];have:=of_decide_eq_false C;omega⟩)
end
end Law
namespace Law
open PySem L2 PyProof.Rows
open Bk (Row Rows xZ xV Ans)
abbrev bWE:Stmt:=xM "_law_hung"
def bVk:Sp:=λf H Q _=>∃ (b:Nat)(c:List Nat)(R:Rows)(m o:Int),f= [.ref b,.int m,.int o]/\xF H b c R/\R.length<=60/\Bk.qN R/\
 ∀ (d:Hp)(a:Str)(e:Rows),But c H d->xF d b c e->(∀S,xZ R S (.hang m o) (.txt a) e S)->Q (.str a) d
def aXq{r:Row}{b:Nat}{l:List Nat}:HO.lst (jW r b)≠HO.lst (l.map λi=>V.int (i:Nat)):=λz=>by
 injection z with z
 cases l with
 |nil=>cases z
 |cons a l=>cases z
def aXc(R:Rows)(l:List Nat)(k:Nat)(name:Str):Bk.laid R (l++ [k]) name=Bk.xW (Bk.laid R l name) k λr=>{r with place:=name}:=by
 unfold Bk.laid;rw[cVX];rfl
def vY{a b:Str}:decide (V.str a=V.str b)=decide (a=b):=by rw[Bool.eq_iff_iff];simp
def aKf{a b:Nat}:decide (V.int (a:Nat)=V.int (b:Nat))=decide (a=b):=by rw[Bool.eq_iff_iff];simp;omega
section
variable {K:cQz}
def aWl{K:cQz}{H:Hp}{m l:Nat}{d:List Nat}{R:Rows}{a:List Nat}{name:Str}{t:Nat}{k:Nat}(g:xF H m d (Bk.laid R (a.take t) name))(o:a[t]? =some k)(e:k<R.length)(hl:H l=some (.lst (a.map λi=>V.int (i:Nat)))): ∃ (b c:Nat)(r:Row),(d.map V.ref)[k]? =some (.ref b)/\H b=some (.lst (jW r c))/\xF (upd H b (.lst (jW {r with place:=name} c))) m d (Bk.laid R (a.take (t+1)) name)/\But d H (upd H b (.lst (jW {r with place:=name} c)))/\upd H b (.lst (jW {r with place:=name} c)) l=some (.lst (a.map λi=>V.int (i:Nat)))/\b∈d:=by
 have j:k<(Bk.laid R (a.take t) name).length:=by rw[Bk.wG];exact e
 have n:=cQw j;obtain⟨b,p,h,c,f,q⟩:=g.get n;refine⟨b,c,_,p,f,?_,But.upd g.dom h f rfl,?_,cQP h⟩
 ·rw[show a.take (t+1)=a.take t++ [k]from by rw[cXx,o];rfl,aXc];exact g.upd h n (λr=>{r with place:=name}) q
 ·rw[yJ (aXU hl f (cXg aXq))];exact hl
def bWS:yO ["_law_rows","_law_number","_law_goal","_law_one","_law_other","_law_k","_law_row"] ["_law_rows","_law_number","_law_goal"] (yH bWE):=scM
def bWf(y:FnG P w K mg base 2 "_law_good" ["_law_rows","_law_number"] aQH)(a:FnG P w K mg base 2 "_law_family" ["_law_rows","_law_number"] qZ)(F:Fun K "_law_hung" "_law_hung" bWE f fd):xL P w K mg base CX0 3 f fd ["_law_rows","_law_number","_law_goal"] bVk:=by
 have sc:=bWS;refine F.ok (k:=2) sc (λb9 A outer s H vs Q E hr h=>?_);obtain⟨I,M,R,m,o,rfl,C,hR,hT,q⟩:=h;refine⟨_,(yC (xA (PW.pt (Y5 (vH (zA (xU y hr rfl (yA (pv 0) (yA (pv 1) yD))))) (uR (vH (zA (xU y hr rfl (yA (pv 0) (yA (pv 2) yD)))))))) (yF (yP yQ)) yS) (yC (yU (i:=3) (yL yK (pv 0) (pv 1))) (yC (yU (i:=4) (yL yK (pv 0) (pv 2))) (yC (xA (yM wZ (yL yK (pv 3) yG) zL) (yF (yP yQ)) yS) (yC (xA (yM zR (yL yK (xU a hr rfl (yA (pv 0) (yA (pv 2) yD))) yG) (pv 1)) (yF (yP yQ)) yS) (yC (xA (yM zR (yL yK (pv 3) yG) (yL yK (pv 4) yG)) (yF (yP yQ)) yS) (yC (xA (yM J7 (yL yK (pv 3) yG) (yL yK (pv 4) yG)) (yF (yP yQ)) yS) (yC (xA (yM uM (yL yK (pv 3) yG) (yL yK (pv 4) yG)) (yF (yP yQ)) yS) (yC (wT cXo rfl (xN (xU a hr rfl (yA (pv 0) (yA (pv 1) yD)))) (xI (i:=5)) (yC (yU (i:=6) (yL yK (pv 0) (pv 5))) (yF (uQ (yL yK (pv 4) yG) (X0 (pv 6) yG wR))))) (yC (uQ (pv 2) (X0 (pv 3) yG wR)) (yF (yP yQ)))))))))))),?_⟩;have v:But M H H:=But.of C.dom (xJ.refl _);refine⟨_,rfl,_,rfl,I,M,R,m,rfl,C,_,rfl,?_⟩;cases h1:Bk.vK R m with
 |false=>exact onT rfl (onT rfl (q H _ R v C λS=> .hangN (.inl h1)))
 |true=>
 refine onF rfl ⟨_,rfl,_,rfl,I,M,R,o,rfl,C,_,rfl,?_⟩;cases h2:Bk.vK R o with
 |false=>exact onT rfl (q H _ R v C λS=> .hangN (.inr h2))
 |true=>
 obtain⟨i,r,rfl,J,L,hv⟩:=Bk.vL h1;obtain⟨j,p,rfl,D,N,hw⟩:=Bk.vL h2;obtain⟨b,g1,g2,cp,g3,g4⟩:=C.get L;obtain⟨Y,f1,f2,b6,f3,f4⟩:=C.get N;refine onF rfl ⟨_,rfl,_,rfl,I,_,_,_,rfl,rfl,SqL.of C.lst,yT g1,?_⟩;dsimp only[yW];refine⟨_,rfl,_,rfl,I,_,_,_,rfl,rfl,SqL.of C.lst,yT f1,?_⟩;dsimp only[yW];refine⟨_,rfl,b,_,4,_,rfl,rfl,SqL.of g3,rfl,rfl,_,rfl,?_⟩;cases n:r.link with
 |some x=>exact onT rfl (q H _ R v C λS=> .hangH L hv N hw (by rw[n];simp))
 |none=>
 obtain⟨rk,ok⟩:=hT;have hT:Bk.qN R:=⟨rk,ok⟩;refine onF rfl ⟨_,rfl,_,rfl,I,M,R.length,Bk.lk R,rk,Bk.dt R,j,rfl,C.rows,ok,hR,D,λH1 l c0 k1 nl hl hp hm=>?_⟩;have et:=Bk.aZj D ⟨rk,ok,hp,hm⟩;subst et;obtain⟨_,_,b3⟩:=Bk.Y2 hT D;obtain⟨hd,X⟩:∃hd,(Bk.thr R j).head? =some hd:=⟨_,b3⟩;have e0:(((Bk.thr R j).map λi=>V.int (i:Nat)))[0]? =some (.int (hd:Nat)):=by rw[cQR,<- List.head?_eq_getElem?,X];rfl
 have u:=C.same k1;have U:=k1 _ _ g3;have O:=k1 _ _ f3;have g:But M H H1:=But.of C.dom k1;refine⟨l,_,0,_,rfl,rfl,SqL.of hl,yT e0,_,rfl,rfl,_,rfl,?_⟩;rw[aKf];refine X2 (λc=>?_) (λc=>?_)
 ·have e:hd=i:=of_decide_eq_true c;exact q H1 _ R g u λS=> .hangO L hv N hw n (by rw[X,e])
 have B:(Bk.thr R j).head? ≠some i:=λz=>c (decide_eq_true (by rw[X]at z;exact cQS z));refine⟨_,rfl,b,_,0,_,rfl,rfl,SqL.of U,rfl,_,rfl,Y,_,0,_,rfl,rfl,SqL.of O,rfl,rfl,_,rfl,?_⟩;rw[vY];refine X2 (λc1=>?_) (λc1=>?_)
 ·exact q H1 _ R g u λS=> .hangW L hv N hw n B (of_decide_eq_true c1)
 have h3:=of_decide_eq_false (Bool.eq_false_iff.mpr c1);refine⟨_,rfl,b,_,2,_,rfl,rfl,SqL.of U,rfl,_,rfl,Y,_,2,_,rfl,rfl,SqL.of O,rfl,rfl,_,rfl,?_⟩;rw[vY];cases a0:decide (r.partner=p.partner)with
 |false=>exact onT rfl (q H1 _ R g u λS=> .hangP L hv N hw n B h3 (of_decide_eq_false a0))
 |true=>
 have h4:=of_decide_eq_true a0;refine onF rfl ⟨_,rfl,b,_,1,_,rfl,rfl,SqL.of U,rfl,_,rfl,Y,_,1,_,rfl,rfl,SqL.of O,rfl,_,_,rfl,rfl,_,rfl,?_⟩;refine X2 (λc2=>?_) (λc2=>?_)
 ·exact q H1 _ R g u λS=> .hangE L hv N hw n B h3 h4 (of_decide_eq_true c2)
 have h5:p.date<=r.date:=by have:=of_decide_eq_false (Bool.eq_false_iff.mpr c2);omega
 refine⟨_,rfl,_,rfl,I,M,R.length,Bk.lk R,rk,Bk.dt R,i,rfl,u.rows,ok,hR,J,λH2 l2 b4 k2 b8 a1 a7 W=>⟨l2,rfl,⟨_,SqL.of a1⟩,?_⟩⟩;have a5:=Bk.aZj J ⟨rk,ok,a7,W⟩;subst a5;have b5:i≠j:=λz=>by subst z;have e1:=Bk.Y2 hT J;obtain⟨a3,o2,T⟩:=e1;rw[Fm.wM (by rw[Bk.uL L];exact n)]at T;exact B T
 have a6:j∉Bk.thr R i:=λz=>by have e1:=(W j).mp z;rw[Fm.wM (i:=i) (by rw[Bk.uL L];exact n)]at e1;obtain⟨a3,o2,T⟩:=Bk.Y2 hT D;rw[Fm.Z3 o2 ok D,e1.2]at T;exact B T
 refine zS (xs:=(Bk.thr R i).map λi=>V.int (i:Nat)) (λt σ Z=>∃o5 o6:Option V,σ= [some (.ref I),some (.int (i:Nat)),some (.int (j:Nat)),some (.ref b),some (.ref Y),o5,o6]/\xF Z I M (Bk.laid R ((Bk.thr R i).take t) p.place)/\But M H2 Z/\Z l2=some (.lst ((Bk.thr R i).map λi=>V.int (i:Nat)))) ?_ ?_ ?_ ?_
 ·exact⟨none,none,rfl,u.same k2,But.of (u.same k2).dom (xJ.refl _),a1⟩
 ·rintro t σ Z ht ⟨o5,o6,rfl,d,k3,G⟩;exact SqL.of G
 ·rintro t x σ Z hx ⟨o5,o6,rfl,d,k3,G⟩;rw[cQR]at hx;cases hc:(Bk.thr R i)[t]? with
  |none=>rw[hc]at hx;cases hx
  |some k=>
   rw[hc]at hx;cases hx;have a8:k<R.length:=((W k).mp (cQP hc)).1;obtain⟨bk,ck,b7,e1,T,e3,e4,e5,e6⟩:=aWl (K:=K) d hc a8 G;have a9:(Bk.laid R ((Bk.thr R i).take t) p.place)[j]? =some p:=by rw[Bk.vV,if_neg (λz=>a6 (List.mem_of_mem_take z))];exact N
   obtain⟨b0,d1,d2,b1,d3,d4⟩:=d.get a9;obtain rfl:Y=b0:=cQS (f2.symm.trans d2);dsimp only[yW];refine⟨_,rfl,_,rfl,I,_,_,_,rfl,rfl,SqL.of d.lst,yT e1,?_⟩;dsimp only[yW];exact⟨_,rfl,Y,_,5,_,rfl,rfl,SqL.of d3,rfl,_,rfl,bk,_,5,5,rfl,rfl,T,rfl,_,_,rfl,e3,k3.trans e4,e5⟩
 ·rintro σ Z ⟨o5,o6,rfl,d,k3,G⟩;rw[cQB,cXs]at d;have a4:i<(Bk.laid R (Bk.thr R i) p.place).length:=by rw[Bk.wG];exact J
  have a2:=cQw a4;obtain⟨b',d1,d2,b1,d3,d4⟩:=d.get a2;obtain rfl:b=b':=cQS (g2.symm.trans d2);refine⟨_,rfl,_,rfl,b,_,4,4,rfl,rfl,d3,rfl,?_⟩;refine q _ _ _ ((g.trans ((But.of u.dom k2).trans k3)).trans (But.upd d.dom d2 d3 rfl)) (d.upd d2 a2 (λr=>{r with link:=some j}) d4) λS=> .hang L hv N hw n B h3 h4 h5
end
end Law
namespace L2
open PySem
def tbV:Option Nat->cQx
 |none=> .none
 |some T=> .ref T
structure Q2(h:Heap)(e:Nat)(cls:cQx)(dx:Option Nat)(tb:Option Nat):Prop where
 obj:∃oe vs,h.get? e=some oe/\oe.cls=cls/\oe.dict=dx/\oe.data= .fields vs/\vs[1]? =some (tbV tb)
 ent:∀T,tb=some T->T≠e/\∃oT ts,h.get? T=some oT/\oT.data= .fields ts/\ts[3]? =some .none
def Q2.keeps{h h':Heap}{e:Nat}{cls:cQx}{dx tb:Option Nat}(x:Q2 h e cls dx tb)(k:∀b o,(b=e\/tb=some b)->h.get? b=some o->h'.get? b=some o):Q2 h' e cls dx tb:=by
 obtain⟨a,r,m,f,i,q,g⟩:=x.obj;refine⟨⟨a,r,k e a (.inl rfl) m,f,i,q,g⟩,λT d=>?_⟩;obtain⟨ne,c,n,j,p,l⟩:=x.ent T d;exact⟨ne,c,n,k T c (.inr d) j,p,l⟩
structure bYC(fs:List Nat)(e:Nat)(tb:Option Nat)(h h':Heap):Prop where
 keep:∀b o,b≠e->tb≠some b->b∉fs->h.get? b=some o->h'.get? b=some o
 slot:∀b o,b≠e->tb≠some b->h.get? b=some o->∃sl,h'.get? b=some {o with slots:=sl}
 there:∀b o,h.get? b=some o->∃o',h'.get? b=some o'
def aXT(f:Array cQx->Array cQx)(o:Obj):(o.mapFields f).dict=o.dict:=by
 obtain⟨c,d,dt,a⟩:=o;cases dt<;> rfl
section
variable {M:Model}{A:cXi}{E:cQx->cQA->Prop}{s:cQA}{base:Heap}{env:Env}{outer:List Env}{L e:Nat}{cls:cQx}{dx tb:Option Nat}
def bQh{a:Obj}{vs:Array cQx}(hl:s.heap.FunFrames base (env::outer))(c:s.heap.get? e=some a)(d:a.data= .fields vs):e∉(env::outer).filterMap (·.frame):=λg=>by
 obtain⟨_,o,b,f⟩:=hl.mem g;rw[c]at b;cases b;exact f vs d
def aJh{head:cQx}{m:Bool}{Q:Unit->cQA->Prop}{i:Obj}{vs:Array cQx}(v:A.frames=some (env::outer))(hl:s.heap.FunFrames base (env::outer))(H:env.frame=some L)
  (B:s.heap.get? e=some i) (p:i.data= .fields vs) (hz:1<vs.size)
  (h:∀t T,Q2 t e i.cls i.dict (some T)->s.heap.objs.size<=T->bYC ((env::outer).filterMap (·.frame)) e none s.heap t->Q () {s with heap:=t}):
  cQF M A (do let fr <- frameOf env;let place <- entryPlaceOf L m;let en <- EntryCells.newEntry head fr .none (cXR L) .none place;setField (.ref e) 1 en) (λ_ G=>cQF M A (cJO (.ref e) none) Q E G) E s:=by
 have u:=bQh hl B p
 refine cQy (wpAny_frameOf_fun v hl H λa d=>?_)
 refine cQy (wpAny_entryPlaceOf λplace J=>?_)
 unfold EntryCells.newEntry newFields
 refine cQy (cXT ?_ (J.sizeOk5 _ _ _ _ _))
 have F:a.get? e=some i:=(d.2.1 e u).trans B
 generalize n:({cls:= .type "traceback",dict:=none,data:= .fields ([head,.ref L,.none,cXR L,.none]++(if place.isEmpty then cJd 6 Value.none else place)).toArray}:Obj)=ob
 have c:ob.data= .fields ([head,.ref L,.none,cXR L,.none]++(if place.isEmpty then cJd 6 Value.none else place)).toArray:=by rw[<- n]
 have k:ob.isFreed=false:=cXX c
 have z:(a.push ob).get? e=some i:=cQD ob F
 have l:a.objs.size≠e:=cZZ (cQN F)
 refine cZG z p hz ?_
 have d3:=cX3 p (·.setIfInBounds 1 (Value.ref a.objs.size))
 have w:=cXE (cXO (·.setIfInBounds 1 (Value.ref a.objs.size))) z (cXX d3)
 have C:=(cQ9 (a.push ob) (cXO (·.setIfInBounds 1 (Value.ref a.objs.size))) (cXg l)).trans (cQY a k)
 have j:3<([head,.ref L,.none,cXR L,.none]++(if place.isEmpty then cJd 6 Value.none else place)).toArray.size:=by simp
 unfold cJO
 refine cQy (cVk w d3 (x:= .ref a.objs.size) (by simp[hz]) ?_)
 rw[if_pos (show(Value.ref a.objs.size !=Value.none)=true from by simp)]
 refine cZG C c j (h _ a.objs.size ?_ ?_ ?_)
 ·refine⟨⟨_,_,(cQ9 _ _ l).trans w,Obj.cls_mapFields _ _,aXT _ _,d3,by simp[tbV,hz]⟩,λT I=>?_⟩;cases I;refine⟨l,_,_,cXE _ C (cXX (cX3 c _)),cX3 c _,?_⟩;rw[Array.getElem?_setIfInBounds_self_of_lt j];rfl
 ·exact cJi d.1.symm
 ·have r:∀b o,b≠e->a.get? b=some o->(((a.push ob).update e (cXO (·.setIfInBounds 1 (Value.ref a.objs.size)))).update a.objs.size (cXO (·.setIfInBounds 3 ((none:Option Nat).elim Value.none λf=>cXR f)))).get? b=some o:=λb o g q=>by
   rw[cQ9 _ _ (cZZ (cQN q)),cQ9 _ _ (cXg g)];exact cQD _ q
  refine⟨λb o g _ K q=>r b o g ((d.2.1 b K).trans q),λb o g _ q=>?_,λb o q=>?_⟩
  ·obtain⟨D,y⟩:=d.2.2 b o q;exact⟨D,r b _ g y⟩
  ·by_cases g:b=e
   ·subst g;exact⟨_,(cQ9 _ _ l).trans w⟩
   ·obtain⟨D,y⟩:=d.2.2 b o q;exact⟨_,r b _ g y⟩
def aWr{Q:Unit->cQA->Prop}(i:A.frames=some (env::outer))(hl:s.heap.FunFrames base (env::outer))(n:env.frame=some L)(x:Q2 s.heap e cls dx tb) (h:∀g T,Q2 g e cls dx (some T)->s.heap.objs.size<=T->bYC ((env::outer).filterMap (·.frame)) e tb s.heap g->Q () {s with heap:=g}): cQF M A (cJ9 (.ref e) env) (λ_ G=>cQF M A (cJO (.ref e) none) Q E G) E s:=by
 obtain⟨K,B,m,D,F,u,v⟩:=x.obj;subst D F;have C:=(cZ4.mp v).1;unfold cJ9;simp only[n];refine cQy (cVk m u v ?_);cases tb with
 |none=>rw[if_neg (by decide)];exact aJh i hl n m u C h
 |some T=>
  obtain⟨ne,N,I,j,k,w⟩:=x.ent T rfl;rw[if_pos (show(tbV (some T) !=Value.none)=true from by simp[tbV])];refine cQy (cVk j k w ?_);rw[if_neg (show ¬ ((Value.none==cXR L)=true)from by simp[cXR])];refine cQy (cZG j k (cZ4.mp w).1 ?_);have f:∀b,b≠T->(s.heap.update T (cXO (·.setIfInBounds 3 Value.none))).get? b=s.heap.get? b:=λb l=>cQ9 _ _ (cXg l);have r:∀b o,s.heap.get? b=some o->(∀B,o.data≠ .fields B)->b≠T:=λb o q t z=>by rw[z,j]at q;cases q;exact t I k
  refine aJh (s:={s with heap:=s.heap.update T (cXO (·.setIfInBounds 3 Value.none)) }) i (hl.of_keeps λb o q t=>⟨o,(f b (r b o q t)).trans q,rfl⟩) n ((f e (cXg ne)).trans m) u C λg H y J p=>h g H y ?_ ⟨λb o a c d q=>?_,λb o a c q=>?_,λb o q=>?_⟩
  ·rw[<- Heap.size_after_update s.heap T (cXO (·.setIfInBounds 3 Value.none))];exact J
  ·exact p.keep b o a (by simp) d ((f b λz=>c (by rw[z])).trans q)
  ·exact p.slot b o a (by simp) ((f b λz=>c (by rw[z])).trans q)
  ·by_cases l:b=T
   ·subst l;exact p.there _ _ (cXE _ j (cXX (cX3 k _)))
   ·exact p.there b o ((f b l).trans q)
def aY6{Q:Unit->cQA->Prop}(b:A.frames=some (env::outer))(hl:s.heap.FunFrames base (env::outer))(c:env.frame=some L)(x:Q2 s.heap e cls dx tb) (h:∀a T,Q2 a e cls dx (some T)->s.heap.objs.size<=T->bYC ((env::outer).filterMap (·.frame)) e tb s.heap a->Q () {s with heap:=a}):cQF M A (leaving env (.ref e)) Q E s:=by
 unfold leaving;exact cQy (aWr b hl c x h)
def bZn{T:Nat}{Q:Unit->cQA->Prop}(x:Q2 s.heap e cls dx (some T)) (h:∀d,Q2 d e cls dx (some T)->(∀b o,b≠T->s.heap.get? b=some o->d.get? b=some o)->(∀b o,s.heap.get? b=some o->∃w,d.get? b=some w)->Q () {s with heap:=d}):cQF M A (cJO (.ref e) none) Q E s:=by
 obtain⟨n,v,j,p,r,l,g⟩:=x.obj;obtain⟨ne,y,B,i,f,t⟩:=x.ent T rfl;have m:=(cZ4.mp t).1;have k:=cXE (cXO (·.setIfInBounds 3 Value.none)) i (cXX (cX3 f _));have a:∀b,b≠T->(s.heap.update T (cXO (·.setIfInBounds 3 Value.none))).get? b=s.heap.get? b:=λb c=>cQ9 _ _ (cXg c);refine wpAny_setFlight_none j l g i f m (h _ ⟨⟨n,v,(a e (cXg ne)).trans j,p,r,l,g⟩,λz u=>?_⟩ (λb o c q=>(a b c).trans q) λb o q=>?_)
 ·cases u;exact⟨ne,_,_,k,cX3 f _,by simp[m]⟩
 ·by_cases c:b=T
  ·subst c;exact⟨_,k⟩
  ·exact⟨o,(a b c).trans q⟩
end
end L2
namespace L2
open PySem PySem.W PySem.Calls PyProof.Rows Builtin Builtin.ObjectAttr
def Y8:List cQx:= [.type "Exception",.type "BaseException",.type "object"]
def aVj:List cQx->Bool
 |.ref _::r=>aVj r
 |l=>l==Y8
def aYl:∀l:List cQx,aVj l=true->∃a:List Nat,l=a.map Value.ref++Y8:=by
 intro l;induction l with
 |nil=>intro e;cases e
 |cons v r b=>
  intro e;cases v with
  |ref c=>obtain⟨a,h⟩:=b e;exact⟨c::a,by rw[h];rfl⟩
  |_=>exact⟨[],beq_iff_eq.mp e⟩
def aXN(self:cQx):∀rs:List Nat,refuseLoop self "__setattr__" (rs.map Value.ref++Y8)=pure ()
 |[]=>PySem.F.store_Exception.passes self
 |c::rs=>by rw[cXb,cVn,refuseLoop_ref];exact aXN self rs
def aW0{T:String}{b:Bool}(h:Y8.contains (.type T)=b):∀rs:List Nat,(rs.map Value.ref++Y8).contains (.type T)=b
 |[]=>h
 |c::rs=>by rw[cXb,cVn,cZY,aW0 h rs];rfl
def bZc(K:Frag)(C:Nat):Bool:=match K.lookup C with
 |some ⟨_,_,.cls cd,sl⟩=> !cd.hasDel && cd.hasDict && (sl.toList[4]?).join==some (.builtin "Exception.__new__") && aVj cd.mro && cd.mro.contains (.ref C) &&
   specialIn K (.ref C) "__call__"==some (some (.builtin "type.__call__")) && instIn K (.ref C) (.type "type")==some true && typeIn K (.ref C)==some (.type "type") &&
   findIn K (.ref C) "__setattr__"==some (some (.builtin "object.__setattr__")) && findIn K (.ref C) "__getattribute__"==some (some (.builtin "BaseException.__getattribute__")) &&
   findIn K (.ref C) "__getattr__"==some none && findIn K (.ref C) "words"==some none
 |_=>false
structure jI(K:Frag)(C:Nat):Prop where
 cls:∃oc od cd sl,K.lookup C=some ⟨oc,od,.cls cd,sl⟩/\cd.hasDel=false/\cd.hasDict=true/\(sl.toList[4]?).join=some (.builtin "Exception.__new__")/\(∃rs:List Nat,cd.mro=rs.map Value.ref++Y8)/\cd.mro.contains (.ref C)=true
 call:specialIn K (.ref C) "__call__"=some (some (.builtin "type.__call__"))
 typ:instIn K (.ref C) (.type "type")=some true
 ty:typeIn K (.ref C)=some (.type "type")
 sa:findIn K (.ref C) "__setattr__"=some (some (.builtin "object.__setattr__"))
 ga:findIn K (.ref C) "__getattribute__"=some (some (.builtin "BaseException.__getattribute__"))
 gh:findIn K (.ref C) "__getattr__"=some none
 wd:findIn K (.ref C) "words"=some none
def aYK{K:Frag}{C:Nat}(e:bZc K C=true):jI K C:=by
 unfold bZc at e;split at e
 ·rename_i r g m n f;simp only[Bool.and_eq_true,Bool.not_eq_true',beq_iff_eq]at e;obtain⟨⟨⟨⟨⟨⟨⟨⟨⟨⟨⟨o,i⟩,p⟩,d⟩,l⟩,k⟩,j⟩,q⟩,h⟩,c⟩,b⟩,a⟩:=e;exact⟨⟨r,g,m,n,f,o,i,p,aYl _ d,l⟩,k,j,q,h,c,b,a⟩
 ·cases e
abbrev vN(C t:Nat)(dx:Option Nat):Obj:={cls:= .ref C,dict:=dx,data:= .fields #[.ref t,.none,.none,.none,.bool false,.none] }
abbrev aQE:Obj:={cls:= .type "tuple",data:= .seq #[] }
section
variable {M:Model}{K:Frag}{C:Nat}{h:Heap}
def jI.sub(X:K.In h)(c:jI K C){T:String}{b:Bool}(e:Y8.contains (.type T)=b):Looks M h (cJM (.ref C) (.type T)) b:=by
 obtain⟨p,n,g,m,d,i,k,o,⟨j,a⟩,l⟩:=c.cls;have f:clsIn K C=some g:=by unfold clsIn;rw[d]
 refine looks_mroIn X ?_;unfold mroIn;rw[f,Option.bind_some,a,if_neg (by simp[Y8]),aW0 e]
def jI.self(X:K.In h)(c:jI K C):Looks M h (cJM (.ref C) (.ref C)) true:=by
 obtain⟨n,l,f,k,d,g,j,m,⟨i,a⟩,b⟩:=c.cls;have e:clsIn K C=some f:=by unfold clsIn;rw[d]
 refine looks_mroIn X ?_;unfold mroIn;rw[e,Option.bind_some,if_neg (by rw[a];simp[Y8]),b]
def jI.made(X:K.In h)(c:jI K C):Looks M h (Bind.madeBy (.ref C)) (some "Exception.__new__"):=by
 obtain⟨r,m,a,o,b,p,n,g,⟨j,i⟩,d⟩:=c.cls;have e:clsIn K C=some a:=by unfold clsIn;rw[b]
 have f:Looks M h (mroOf (.ref C)) a.mro:=(looks_clsIn X e).andThen .now;obtain⟨v,l,hl⟩:∃v l,a.mro=v::l:=by
  cases q:a.mro with
  |nil=>rw[q]at d;cases d
  |cons v l=>exact⟨v,l,rfl⟩
 intro A Q E s k q;unfold Bind.madeBy;refine cQy (f A _ E s k ?_);rw[hl,cVy];refine cQy (cQy (cQy (cQy (wpAny_loadPart (k _ _ (X _ _ b)) (cQC ?_)))));dsimp only;rw[<- cZd,g];exact cQC (cQC (cQC q))
def jI.base(X:K.In h)(c:jI K C):Looks M h (Bind.staticBase (.ref C)) (.ref C):=by
 have made:=c.made (M:=M) X;obtain⟨r,j,a,n,d,p,m,o,⟨i,g⟩,b⟩:=c.cls;have e:clsIn K C=some a:=by unfold clsIn;rw[d]
 have f:Looks M h (mroOf (.ref C)) a.mro:=(looks_clsIn X e).andThen .now;obtain⟨v,l,hl⟩:∃v l,a.mro=v::l:=by
  cases q:a.mro with
  |nil=>rw[q]at b;cases b
  |cons v l=>exact⟨v,l,rfl⟩
 intro A Q E s k q;unfold Bind.staticBase;refine cQy (f A _ E s k ?_);rw[hl,cVy];exact cQy (cQy (cQy (made A _ E s k (cQC (cQC (cQC q))))))
def jI.here(X:K.In h)(c:jI K C):Looks M h (Bind.madeHere "BaseException.__new__" (.ref C)) ():=
 (c.base X).andThen ((c.made X).andThen (Looks.of_pure (by simp only[Option.map_some,cV4.canon,bne_self_eq_false,Bool.false_eq_true,if_false])))
end
section
variable {prog:cQT}{w:cQ2}{A:cXi}{R:Result->cQA->Prop}{K:Frag}{C f:Nat}{h:Heap}{g:Array GenState}{d:Drawn}{t:Nat}{os:OsState}
def bVL(X:K.In h)(c:jI K C)(n:R (.ok (.ret (.ref (h.objs.size+1)))) ⟨(h.push aQE).push (vN C h.objs.size none),g,d,t,os⟩): cZO (cQH prog w) A (.call (.builtin "Exception.__new__") ⟨[.ref C],[]⟩) R ⟨h,g,d,t,os⟩:=by
 have F:=cV4;have made:=c.made (M:=cQH prog w) X;have o:=c.base (M:=cQH prog w) X;have here:=c.here (M:=cQH prog w) X;have x:Looks (cQH prog w) h (cJM (.ref C) (.type "Exception")) true:=c.sub X dk;have y:Looks (cQH prog w) h (cJM (.ref C) (.type "AttributeError")) false:=c.sub X dk;have z:Looks (cQH prog w) h (cJM (.ref C) (.type "NameError")) false:=c.sub X dk;obtain⟨i,f,k,l,e,m,s,v,⟨r,q⟩,u⟩:=c.cls;have j:h.get? C=some ⟨i,f,.cls k,l⟩:=X _ _ e;refine codeAny_call_builtin_code (cVR _ F.quiet) ?_;simp only[checkBuiltinCall,F.newKind,F.newSplit,F.newRow];have args:Bind.checkArgs "Exception.__new__" ⟨.any,"Exception","Exception",.cls,[⟨"args",.varPos,false⟩,⟨"kwargs",.varKw,false⟩]⟩ ⟨[.ref C],[]⟩=pure ():=by kernel_rfl
 rw[args];repeat (first|simp only[bne_self_eq_false,Bool.false_eq_true,if_false]|lk)
 have a:=F.ends;refine codeAny_builtinAt F.entry ?_;unfold cZm.«BaseException.__new__»;refine PySem.wpAt_bind ?_;show PySem.wpAt _ _ _ (stack >>=_) _ _ _;refine PySem.wpAt_bind (PySem.wpAt_stack λp b=>PySem.wpAt_of_wpAny ?_);wp_walk;refine PySem.wpAt_of_wpAny ?_;rw[F.owner];repeat (first|simp only[Bool.not_true,Bool.false_eq_true,if_false]|lk)
 refine nd_load (cQD _ (cQD _ j)) (cQC ?_);dsimp only;refine cQC ?_;rw[m];refine cQC (cQC ?_);show R _ _;rw[cX1];exact n
def bZd(X:K.In h)(c:jI K C)(q:findIn K (.ref C) "__init__"=some (some (.ref f)))(s:typeIn K (.ref f)=some (.type "function")) (y:cZO (cQH prog w) (A.under (.builtin "type.__call__" ⟨[.ref C],[]⟩)) (.call (.ref f) ⟨[.ref (h.objs.size+1)],[]⟩) (InitBack (h.objs.size+1) R) ⟨(h.push aQE).push (vN C h.objs.size none),g,d,t,os⟩): cZO (cQH prog w) A (.call (.ref C) ⟨[],[]⟩) R ⟨h,g,d,t,os⟩:=by
 obtain⟨D,p,j,u,n,P,H,O,⟨E,m⟩,L⟩:=c.cls;have l:h.get? C=some ⟨D,p,.cls j,u⟩:=X _ _ n;have call:=looks_specialIn (M:=cQH prog w) X c.call;have i:=looks_instIn (M:=cQH prog w) X c.typ;have made:=c.made (M:=cQH prog w) X;have x:j.mro.isEmpty=false:=by rw[m];simp[Y8]
 refine codeAny_of_tree ?_;show cQF _ _ (callAny (.ref C) _) _ _ _;refine nd_load l ?_;show cQF _ _ (callAny.viaDunder (.ref C) _) _ _ _;unfold callAny.viaDunder;refine cQy (call.at ?_);dsimp only;rw[tc_bind];refine cQy (cQC (cQy (cQC ?_)));refine cQC (a:=Fin.again (.call (.builtin "type.__call__") ⟨[.ref C],[]⟩)) (And.intro rfl ?_);refine codeAny_call_builtin_at (cVR _ dk) entry_typeCall (check_slot tc_kind tc_split i (tc_args _ _ _) ?_);unfold cZm.«type.__call__»;have N:Looks (cQH prog w) h (mroOf (.ref C)) j.mro:=((Looks.ld (part:=none) l).andThen .now).andThen .now;repeat (first|simp only[x,Bool.false_eq_true,if_false]|with_reducible refine cJU ?_|lk)
 refine bVL X c ?_;have k:∀b o,h.get? b=some o->((h.push aQE).push (vN C h.objs.size none)).get? b=some o:=λb o e=>cQD _ (cQD _ e);have B:((h.push aQE).push (vN C h.objs.size none)).get? (h.objs.size+1)=some (vN C h.objs.size none):=by heap_get
 have G:Looks (cQH prog w) ((h.push aQE).push (vN C h.objs.size none)) (typeOf (.ref (h.objs.size+1))) (.ref C):=(Looks.ld B).andThen .now;have I:=(c.self (M:=cQH prog w) X).keeps k;have J:=(looks_findIn (M:=cQH prog w) X q).keeps k;have b1:=(bind_fn (M:=cQH prog w) X (.ref (h.objs.size+1)) s).keeps k;unfold cVF callSpecial? specialOf;repeat (first|with_reducible refine cJU ?_|lk)
 refine cZv y λr F z=>?_;rcases r with e|(v|_|_|_)<;> first|exact z|exact z.elim|skip
 obtain⟨rfl,z⟩:=z;exact cQC (cQC z)
end
section
variable {prog:cQT}{w:cQ2}{A:cXi}{E:cQx->cQA->Prop}{K:Frag}{C e tp:Nat}{s:cQA}{v:cQx}
def bVM{Q:Unit->cQA->Prop}(X:K.In s.heap)(c:jI K C)(k:s.heap.get? e=some (vN C tp none)) (N:∀d tk,d.get? e=some (vN C tp (some s.heap.objs.size))->d.Ns1 s.heap.objs.size (λy=>if y="words" then some v else none)->(∀b o,b≠e->s.heap.get? b=some o->d.get? b=some o)->Q () {s with heap:=d,toks:=tk}): cQF (cQH prog w) A (setAttr (.ref e) "words" v) Q E s:=by
 have I:InstAt s.heap e (vN C tp none) C none:=⟨k,rfl,rfl,cXQ⟩;refine set_plain X I c.sa ?_;have j:=PySem.F.store_object;obtain⟨Y,S,z,U,D,W,G,V,⟨P,B⟩,T⟩:=c.cls;have x:clsIn K C=some z:=by unfold clsIn;rw[D]
 have sub:Looks (cQH prog w) s.heap (cVF (.ref e) (.type "object")) true:=I.type.andThen (c.sub X dk);have L:Looks (cQH prog w) s.heap (mroOf (.ref C)) z.mro:=(looks_clsIn X x).andThen .now;refine cVD j.slot.plain j.entry (@check_slot (cQH prog w) _ _ {s with toks:=s.toks+1} "object.__setattr__" "object" "__setattr__" (.ref e) [.str "words" s.toks,v] [] _ j.kind j.split sub (j.args (.ref e) (.str "words" s.toks) v) ?_);rw[osa_eq,refuse_eq];have h:∀ (b:Nat)(o:Obj),s.heap.get? b=some o->s.heap.get? b=some o:=λ_ _ e=>e;refine cQy (cQy (I.type _ _ _ _ h (cQy (L _ _ _ _ h ?_))));rw[B,aXN];refine cQC (cQy (I.type _ _ _ _ h (cQy ((looks_findIn X c.wd) _ _ _ _ h (cQy (cQC ?_))))));have g:e≠s.heap.objs.size:=cQV (cQN k);have f:(s.heap.push emptyDict).get? e=some (vN C tp none):=cQD _ k;refine cQy (cQC (cQy (cQy (wpAny_loadPart k (cQy ((looks_clsIn X x) _ _ _ _ h ?_))))));rw[G];refine cQy (wpAny_alloc ?_);refine cQy (wpAny_update f ?_);refine cQC (a:=some s.heap.objs.size) ?_;show cQF _ _ (storeInDict s.heap.objs.size (.str "words" s.toks) "words" v) _ _ _;have t:((s.heap.push emptyDict).update e λo=>{o with dict:=some s.heap.objs.size}).get? s.heap.objs.size=some emptyDict:=(cVK _ _ _ _ g.symm).trans (Heap.get?_push_at rfl rfl);have n:((s.heap.push emptyDict).update e λo=>{o with dict:=some s.heap.objs.size}).Ns s.heap.objs.size (λ_=>none):=⟨_, #[],_,t,rfl,λe H=>absurd H (by simp),λ_=>rfl⟩;have l:=cXE (λo=>{o with dict:=some s.heap.objs.size}) f rfl;unfold storeInDict newKeyGuard;refine cQy (cQC (cQy (wpAny_nsSet1 (Heap.Ns1.of_empty n) λd i u=>?_)));obtain⟨R,J,O,m,p,r⟩:=i.count (Within.cons "words" v Within.nil);refine cQy (wpAny_lookBehind m (by rw[p];exact pastItsLine_dict (cQ7 r (by rw[cXy,cZI,cQZ];omega))) ?_);refine cQC ?_;refine N d _ ((u.2 e g).trans l) i λb o M q=>?_;exact(u.2 b (cQV (cQN q))).trans ((cVK _ _ _ _ M).trans (cQD _ q))
def bga:Slot "Exception" "__getattribute__" "BaseException.__getattribute__":=
 .of (owner:="BaseException") (n:="__getattribute__") (by rw[typeLookup_type,cVu];kernel_rfl) dk dk dk (by first|exact .inl dk|exact .inr dk) (by rw[isSubtype_type];kernel_rfl)
def bVK{a:Bool}{Q:cQx->cQA->Prop}{b d:Obj}{dx:Nat}(X:K.In s.heap)(c:jI K C)(x:s.heap.get? e=some b)(j:b.cls= .ref C)(l:b.dict=some dx)(r:notCls b=true)(i:s.heap.get? dx=some d) (hl:lookIn "words" d=some (some v)) (q:handedIn v=true) (u:Q v {s with toks:=s.toks+1}):cQF (cQH prog w) A (getAttr (.ref e) "words" a) Q E s:=by
 have I:InstAt s.heap e b C (some d):=⟨x,j,r,by rw[l];exact i⟩;obtain⟨J,m,o,D,g,H,n,G,⟨z,y⟩,B⟩:=c.cls;have f:clsIn K C=some o:=by unfold clsIn;rw[g]
 have p:findObj K C (some d) "words"=some (.value v):=by unfold findObj;rw[f,Option.bind_some,c.wd];simp only[Option.bind_some];unfold W.ownOf;rw[n,if_pos rfl];dsimp only;rw[hl];rfl
 have h:=I.type (M:=cQH prog w);have k:=looks_find (M:=cQH prog w) X I p;have sub:Looks (cQH prog w) s.heap (cVF (.ref e) (.type "BaseException")) true:=I.type.andThen (c.sub X dk);refine cQy (wpAny_mkText (cXP (cQy (h _ _ _ _ (λ_ _ e=>e) (cQy (looks_findIn X c.ga _ _ _ _ (λ_ _ e=>e) ?_))))));dsimp only;rw[show(onTheHeap (Value.ref C) && Value.builtin "BaseException.__getattribute__"==Value.builtin "object.__getattribute__")=false from by rw[show(Value.builtin "BaseException.__getattribute__"==Value.builtin "object.__getattribute__")=false from dk,Bool.and_false],if_neg (by decide)];have t:Looks (cQH prog w) s.heap (hookBefore (.ref C)) none:=looks_hook (mc:= .ref C) X (by rw[if_pos (show onTheHeap (Value.ref C)=true from rfl)];exact c.gh);refine cQy (t _ _ _ _ (λ_ _ e=>e) (cQy (cJZ (cXP ?_))));unfold callGetattribute;rw[show(a && onTheHeap (Value.builtin "BaseException.__getattribute__"))=false from Bool.and_false _,if_neg (by decide)];unfold boundAndCalled;rw[bga.bind];refine cQy (cQC ?_);show cQF _ _ (call (.builtin "BaseException.__getattribute__") [.ref e,.str "words" s.toks]) _ _ _;refine cJU (cVD bga.plain F.entry_bexc_ga ?_);refine @check_slot (cQH prog w) _ _ {s with toks:=s.toks+1} "BaseException.__getattribute__" "BaseException" "__getattribute__" (.ref e) [.str "words" s.toks] [] _ dk dk sub (F.args_bexc_ga (.ref e) (.str "words" s.toks)) ?_;unfold cZm.«object.__getattribute__»;refine cQy (cQC (cQy (cQC ?_)));refine cQy (h _ _ _ _ (λ_ _ e=>e) (cQy (k _ _ _ _ (λ_ _ e=>e) (cQC ?_))));show cQF _ _ (handedOut v) _ _ _;rw[handedOut_of q];exact cQC u
def aYL{M:Model}{Q:Bool->cQA->Prop}{f:Obj}{Rf:Nat}(X:K.In s.heap)(c:jI K C)(b:jI K Rf)(i:mroIn K C (.ref Rf)=some true)(h:s.heap.get? e=some f)(k:f.cls= .ref C)(o:Q true s): cQF M A (excMatches (.ref e) (.ref Rf)) Q E s:=by
 obtain⟨a,g,d,t,os⟩:=s;dsimp only at X h;have v:Looks M a (typeOf (.ref e)) (.ref C):=k ▸ (Looks.ld h).andThen .now;have r:Looks M a (cJM (.ref C) (.ref Rf)) true:=looks_mroIn X i;have z:Looks M a (cVF (.ref Rf) (.type "tuple")) false:=(looks_typeIn X b.ty).andThen (Looks.of_pure tc_notTuple);have F:Looks M a (cJM (.ref Rf) (.type "BaseException")) true:=b.sub X dk;have x:Looks M a (typeOf (.ref Rf)) (.type "type"):=looks_typeIn X b.ty;have D:Looks M a (cJM (.type "type") (.type "type")) true:=Looks.of_pure tc_sub;obtain⟨p,l,m,n,j,H,w,G,⟨u,q⟩,B⟩:=b.cls;have y:a.get? Rf=some ⟨p,l,.cls m,n⟩:=X _ _ j;unfold excMatches isExcClass;repeat (first|simp only[Bool.not_true,Bool.false_eq_true,if_false,if_true]|lk)
 exact o
def aYM{M:Model}{env:Env}{x:Sem cQx}{Q:Flow->cQA->Prop}(l:A.handled=none) (h:cQF M A x (λv a=>∃e tp i C,v= .ref e/\K.In a.heap/\jI K C/\a.heap.get? e=some (vN C tp i)/\E (.ref e) a) E s):cQF M A (raiseStmt env (some x) none) Q E s:=by
 unfold raiseStmt;refine cQy (cXD h (λv a k=>?_) λ_ _ x=>x);obtain⟨e,tp,i,C,rfl,X,c,f,j⟩:=k;obtain⟨b,g,d,tk,os⟩:=a;dsimp only at X f;have n:Looks M b (typeOf (.ref e)) (.ref C):=(Looks.ld f).andThen .now;have m:Looks M b (cJM (.ref C) (.type "BaseException")) true:=c.sub X dk;have o:Looks M b (typeOf (.ref C)) (.type "type"):=looks_typeIn X c.ty;unfold excFromValue isExcClass cVF;repeat (first|simp only[Bool.false_eq_true,if_false,if_true]|lk)
 show cQF M A handled _ _ _;refine wpAny_handled ?_;rw[l];exact wpAny_throw j
end
end L2
namespace L2
open PySem PySem.Spec PyProof.Rows
def CXR(P:cQT)(w:cQ2):CXT:=λouter H s E d b=>∃ (e C c tb:Nat)(a:Hp),d= .ref e/\b.os=s.os/\AllBare b.gens/\Un (frs outer) [] H a s.heap b.heap/\HOk P w a b.heap/\
 Q2 b.heap e (.ref C) (some c) (some tb)/\a e=none/\a tb=none/\s.heap.objs.size<=e/\s.heap.objs.size<=tb/\E (.ref C) (some c) a
section
variable {P:cQT}{w:cQ2}{K:cQz}{mg:Str->Option cQx}{base:Heap}{N:List Str}{qual:Str}{scope:cZL}{f:Nat}{cd:cQx}{A:cXi}{outer:List Env}{s₀:cQA}{H₀:Hp}{E:XK}
 {pins:List (Nat×Obj)} {σ:St} {H:Hp} {s:cQA}
def bYq{e C dx:Nat}{tb:Option Nat}(I:Inv (aZo (CXR P w) P w K mg base N qual scope f cd A outer s₀ H₀ E) pins σ H s)(x:Q2 s.heap e (.ref C) (some dx) tb)(m:H e=none)(B:s₀.heap.objs.size<=e) (t:∀T,tb=some T->H T=none/\s₀.heap.objs.size<=T) (q:E (.ref C) (some dx) H):(aZo (CXR P w) P w K mg base N qual scope f cd A outer s₀ H₀ E).xe (.ref e) s:=by
 have ne:∀b o,s₀.heap.get? b=some o->b≠e:=λb o a=>cQV (cQ1 (cQN a) B);have l:∀b o,s₀.heap.get? b=some o->tb≠some b:=λb o a z=>absurd (cQ1 (cQN a) (t b z).2) (cXG _);have M:∀b,b∈(cZy qual scope s₀.heap.objs.size f cd::outer).filterMap (·.frame)->b=s₀.heap.objs.size\/b∈frs outer:=λb d=>by rw[cJn,show(cZy qual scope s₀.heap.objs.size f cd).frame=some s₀.heap.objs.size from rfl]at d;exact cQG.mp d
 have j:∀b o,s₀.heap.get? b=some o->b∉frs outer->b∉(cZy qual scope s₀.heap.objs.size f cd::outer).filterMap (·.frame):=λb o a d z=>
  (M b z).elim (cQV (cQN a)) d
 show cQF (cQH P w) (A.deeper (cZy qual scope s₀.heap.objs.size f cd)) (leaving (cZy qual scope s₀.heap.objs.size f cd) (.ref e)) _ _ s;refine aY6 (base:=base) (outer:=outer) (L:=s₀.heap.objs.size) I.ok.frames I.stack rfl x λO T y D p=>?_;refine⟨e,C,dx,T,H,rfl,I.os,I.bare,?_,?_,y,m,I.hok.fresh D,B,cQ7 I.sz D,q⟩
 ·refine⟨λb o a n d h=>?_,λb o a n d h=>?_,λb o a n h=>I.base.free b o a n h,λb o a h=>?_,I.base.tups,I.base.frzs,I.base.tbls⟩
  ·exact p.keep b o (ne b o a) (l b o a) (j b o a d) (I.base.keep b o a n d h)
  ·obtain⟨Q,i⟩:=I.base.slot b o a n d h;obtain⟨k,J⟩:=p.slot b _ (ne b o a) (l b o a) i;exact⟨k,J⟩
  ·obtain⟨G,i⟩:=I.base.there b o a h;exact p.there b G i
 ·refine λb u a=>(I.hok b u a).stay (λc v F r=>?_) (λ_ r=>r) λ_ _ r=>r;have g:H c≠none:=by
   rcases F with z|z
   ·rw[z,a];simp
   ·rw[z];simp
  refine p.keep c v (λz=>g (by rw[z];exact m)) (λz=>g (t c z).1) (λz=>g (I.stkFree c z)) r
def wV:uB (CXR P w) (aZo (CXR P w) P w K mg base N qual scope f cd A outer s₀ H₀ E) E:=by
 intro a σ H s q k I h;obtain⟨e,C,p,tb,m,rfl,n,bare,un,g,x,l,o,d,c,j⟩:=h;have i:Inv (aZo (CXR P w) P w K mg base N qual scope f cd A outer s₀ H₀ E) a σ m k:=I.call' n un g bare λb z=>absurd z (by simp);exact bYq i x l (cQ7 I.sz d) (λT z=>by cases z;exact⟨o,cQ7 I.sz c⟩) j
def Fun.okX{x:Str}{st:Stmt}{e:cZz}{ps:List Str}{k:Nat}{sp:Sp}(F:Fun K x qual st f e)(S:yO N ps (yH st)) (b:∀ (a:cQx)(A:cXi)(outer:List Env)(s:cQA)(H:Hp)(vs:List V)(Q:VK)(E:XK),uS k (A.deeper (cZy qual (yH st) s.heap.objs.size f a))->sp vs H Q E-> ∃t,PSs (aZo (CXR P w) P w K mg base N qual (yH st) f a A outer s H E) (zW st) t/\t {nx:=λ_ i=>Q .non i,rt:=Q} (start N vs) H) (len:∀vs H Q E,sp vs H Q E->vs.length=ps.length:=by intro _ _ _ _ h;repeat (first|(obtain⟨rfl,_⟩:=h;exact rfl)|(obtain⟨_,h⟩:=h))):xL P w K mg base (CXR P w) (k+1) f e ps sp:=by
 obtain⟨p,m,kV,g,o,n,a,ct,j,rfl,lk,d⟩:=F.ex;exact bVO lk d S len λA outer s H vs Q E l c=>b a A outer s H vs Q E l c
end
structure FnX(P:cQT)(w:cQ2)(K:cQz)(mg:Str->Option cQx)(base:Heap)(k:Nat)(x:Str)(ps:List Str)(sp:Sp):Prop where
 ex:∃f fd,xL P w K mg base (CXR P w) k f fd ps sp/\uX K fd ps []/\cXv K (.ref f)=true/\mg x=some (.ref f)
def FnX.mono{P:cQT}{w:cQ2}{K:cQz}{mg:Str->Option cQx}{base:Heap}{j k:Nat}{x:Str}{ps:List Str}{sp:Sp}(G:FnX P w K mg base j x ps sp)(h:j<=k):FnX P w K mg base k x ps sp:=
 let ⟨f,fd,a,b⟩:=G.ex;⟨f,fd,a.mono h,b⟩
structure MG(P:cQT)(w:cQ2)(K:cQz)(mg:Str->Option cQx)(base:Heap)(CX:CXT)(k:Nat)(C:Nat)(m:Str)(ps:List Str)(sp:Sp):Prop where
 ex:∃f fd,xL P w K mg base CX k f fd ps sp/\uX K fd ps []/\bKf K C m f
 cl:Cls K C
def MG.mono{P:cQT}{w:cQ2}{K:cQz}{mg:Str->Option cQx}{base:Heap}{CX:CXT}{j k:Nat}{C:Nat}{m:Str}{ps:List Str}{sp:Sp}(G:MG P w K mg base CX j C m ps sp)(h:j<=k):MG P w K mg base CX k C m ps sp:=
 let ⟨f,fd,a,b⟩:=G.ex;⟨⟨f,fd,a.mono h,b⟩,G.cl⟩
structure MkG(P:cQT)(w:cQ2)(K:cQz)(mg:Str->Option cQx)(base:Heap)(k:Nat)(x:Str)(C:Nat)(ps:List Str)(sp:Sp):Prop where
 ex:∃f fd,xL P w K mg base CX0 k f fd ps sp/\uX K fd ps []/\Mk K C f/\mg x=some (.ref C)
def MkG.mono{P:cQT}{w:cQ2}{K:cQz}{mg:Str->Option cQx}{base:Heap}{j k:Nat}{x:Str}{C:Nat}{ps:List Str}{sp:Sp}(G:MkG P w K mg base j x C ps sp)(h:j<=k):MkG P w K mg base k x C ps sp:=
 let ⟨f,fd,a,b⟩:=G.ex;⟨f,fd,a.mono h,b⟩
section
variable {X:Cx}{k:Nat}{x m:Str}{C:Nat}{ps:List Str}{sp:Sp}{e o:Expr}{es:List Expr}{ta:TE}{t:TA}{p pos apos:Pos}{E:XK}{CX:CXT}
def aXm{P:cQT}{w:cQ2}{K:cQz}{mg:Str->Option cQx}{base:Heap}{N:List Str}{qual:Str}{scope:cZL}{f:Nat}{cd:cQx}{A:cXi}{outer:List Env}{s₀:cQA}{H₀:Hp}
  (G:FnX P w K mg base k x ps sp) (m:uS k (A.deeper (cZy qual scope s₀.heap.objs.size f cd))) (d:Gl (aZo (CXR P w) P w K mg base N qual scope f cd A outer s₀ H₀ E) x) (j:PA (aZo (CXR P w) P w K mg base N qual scope f cd A outer s₀ H₀ E) (e::es) t)
  (c:(x==("__debug__":Str))=false:=by decide) (i:cXe (e::es) (cZy qual scope s₀.heap.objs.size f cd)=(false,eval e (cZy qual scope s₀.heap.objs.size f cd))::cXe es (cZy qual scope s₀.heap.objs.size f cd):=by rfl)
  (a:(cZj pos (cXe es (cZy qual scope s₀.heap.objs.size f cd))).any (·.1)=false:=by rfl):
  PE (aZo (CXR P w) P w K mg base N qual scope f cd A outer s₀ H₀ E) (.Call (.Name x p) (e::es) [] pos) (aYj sp [] E t):=by
 obtain⟨g,n,F,b,h,l⟩:=G.ex
 exact bQG F m d l h b .nil wV j c i a
def jD{pl:Sem Bool}(G:MG X.prog X.w X.K X.mg X.base CX k C m ps sp)(i:uS k X.A)(j:uB CX X E)(h:PE X o ta)(n:PA X (e::es) t)
  (c:cXe (e::es) X.env=(false,eval e X.env)::cXe es X.env:=by rfl) (a:(cZj pos (cXe es X.env)).any (·.1)=false:=by rfl)
  (d:eval (.Call (.Attribute o m apos) (e::es) [] pos) X.env=(do
   let ov <- eval o X.env
   standAt apos.atName
   let (f,first) <- cJ1 [ov] (cJ8 ov m pl)
   callWith pos f first (cZj pos (cXe (e::es) X.env)) (cJT pos (cZW [] X.env))):=by rfl):
  PE X (.Call (.Attribute o m apos) (e::es) [] pos) (bJG C m sp [] E ta t):=by
 obtain⟨g,p,F,b,l⟩:=G.ex
 exact bWt h G.cl l F i b .nil j n c a d
def bZ3{pl:Sem Bool}(G:MG X.prog X.w X.K X.mg X.base CX k C m ps sp)(d:uS k X.A)(e:uB CX X E)(c:PE X o ta)
  (a:eval (.Call (.Attribute o m apos) [] [] pos) X.env=(do
   let ov <- eval o X.env
   standAt apos.atName
   let (f,first) <- cJ1 [ov] (cJ8 ov m pl)
   callWith pos f first (cZj pos (cXe [] X.env)) (cJT pos (cZW [] X.env))):=by rfl):
  PE X (.Call (.Attribute o m apos) [] [] pos) (bJG C m sp [] E ta bXO):=by
 obtain⟨g,i,F,b,h⟩:=G.ex
 exact bZ5 c G.cl h F d b .nil e a
def bYO(G:MkG X.prog X.w X.K X.mg X.base k x C ps sp)(i:uS (k+1) X.A)(f:Gl X x)(l:PA X (e::es) t)(c:(x==("__debug__":Str))=false:=by decide)
  (d:cXe (e::es) X.env=(false,eval e X.env)::cXe es X.env:=by rfl) (a:(cZj pos (cXe es X.env)).any (·.1)=false:=by rfl):PE X (.Call (.Name x p) (e::es) [] pos) (bJF C sp [] E0 t):=by
 obtain⟨g,m,F,b,j,h⟩:=G.ex
 exact bWs j F i f h b .nil uT l c d a
def bVd(G:MkG X.prog X.w X.K X.mg X.base k x C ps sp)(e:uS (k+1) X.A)(c:Gl X x)(a:(x==("__debug__":Str))=false:=by decide):PE X (.Call (.Name x p) [] [] pos) (bJF C sp [] E0 bXO):=by
 obtain⟨g,h,F,b,f,d⟩:=G.ex;exact bZ4 f F e c d b .nil uT a
end
end L2
namespace L2
open PySem PySem.Spec PyProof.Rows
def X1(e C tp:Nat)(dx:Option Nat):HO:= .ext λh=>h.get? e=some (vN C tp dx)
def aWg{P:cQT}{w:cQ2}{H:Hp}{h:Heap}{e C tp:Nat}{dx:Option Nat}(b:h.get? e=some (vN C tp dx)):zQ P w H h e (X1 e C tp dx):=⟨b,⟨_,b⟩,λc d a k=>k _ a⟩
def aWf{P:cQT}{w:cQ2}{H:Hp}{h:Heap}{e C tp:Nat}{dx:Option Nat}(ok:HOk P w H h)(a:H e=some (X1 e C tp dx)):h.get? e=some (vN C tp dx):=(ok e _ a).1
section
variable {X:Cx}{pins:List (Nat×Obj)}{σ:St}{H:Hp}{s:cQA}
def Inv.forget{e:Nat}{φ:Heap->Prop}(I:Inv X pins σ H s)(h:H e=some (.ext φ)):Inv X pins σ (λb=>if b=e then none else H b) s:=by
 have ne:∀b u,H b=some u->(∀φ,u≠ .ext φ)->b≠e:=λb u q n z=>by rw[z,h]at q;cases q;exact n _ rfl
 refine⟨I.ok,I.os,I.bare,⟨I.base.keep,I.base.slot,λb o q n l=>?_,I.base.there,λb d q=>?_,λb o u q=>?_,λb ps q=>?_⟩,I.loc,I.cell,?_,λx c q=>?_,λp k=>?_,λb u q=>?_,I.len⟩
 ·show(if b=e then none else H b)=none;rw[I.base.free b o q n l];split<;> rfl
 ·have z:=I.base.tups b d q;show(if b=e then none else H b)=_;rw[if_neg (ne b _ z λ_ y=>by cases y),z]
 ·have z:=I.base.frzs b o u q;show(if b=e then none else H b)=_;rw[if_neg (ne b _ z λ_ y=>by cases y),z]
 ·obtain⟨m,z⟩:=I.base.tbls b ps q;refine⟨m,?_⟩;show(if b=e then none else H b)=_;rw[if_neg (ne b _ z λ_ y=>by cases y),z]
 ·show(if _=e then none else H _)=none;rw[I.free];split<;> rfl
 ·show(if c=e then none else H c)=none;rw[I.freeC x c q];split<;> rfl
 ·obtain⟨j,g,i⟩:=I.pin p k;refine⟨j,?_,i⟩;show(if p.1=e then none else H p.1)=none;rw[g];split<;> rfl
 ·have a:(if b=e then none else H b)=some u:=q;by_cases f:b=e
  ·rw[if_pos f]at a;cases a
  ·rw[if_neg f]at a;refine(I.hok b u a).stay (λc v _ r=>r) (λc r=>?_) λc d r=>?_
   ·show(if c=e then none else H c)=_;rw[if_neg (ne c _ r λ_ y=>by cases y),r]
   ·show(if c=e then none else H c)=_;rw[if_neg (ne c _ r λ_ y=>by cases y),r]
def cQo(K:cQz)(c f:TE):TS:=λD σ H=>f σ H λy d=>c σ d λx a=>∃e C tp,x= .ref e/\a e=some (X1 e C tp none)/\jI K C/\∀b,a b=none->D.nx σ (upd (upd a b (.xd [("words",y)])) e (X1 e C tp (some b)))
def bKY{o a:Expr}{w A:TE}{pos i:Pos}(J:PE X o w)(L:PE X a A)(G:swapsWith a (some (.Attribute o "words" i)) pos.line X.env=pure false): PS X (.Assign [.Attribute o "words" i] a pos) (cQo X.K w A):=by
 intro pins s σ H D I h;refine cVv (thn (L pins s σ H _ I h) λu s1 ⟨y,H1,I1,ry,q⟩=>thn (J pins s1 σ H1 _ I1 q) λov s2 ⟨x,H2,I2,rx,e,C,tp,ex,ea,c,q2⟩=>?_) G;subst ex;obtain rfl:ov=Value.ref e:=rx;have P:=aWf I2.hok ea;have g:H2 s2.heap.objs.size=none:=I2.hok.fresh (cQE _);have M:=q2 _ g;refine bVM I2.kIn c P λQ tk E O k=>⟨σ,_,I2.un (t':=tk) ?_ ?_,M⟩
 ·have nb:∀b,H2 b=none->b≠e:=λb n z=>by rw[z,ea]at n;cases n
  have N:∀b o,s2.heap.get? b=some o->b≠s2.heap.objs.size:=λb o r=>cQV (cQN r);have t:∀b u,H2 b=some u->(∀φ,u≠ .ext φ)->upd (upd H2 s2.heap.objs.size (.xd [("words",y)])) e (X1 e C tp (some s2.heap.objs.size)) b=some u:=λb u r n=>by rw[yJ (λz=>by rw[z,ea]at r;cases r;exact n _ rfl),yJ (yI r g)];exact r
  refine⟨λb o r n _ _=>k b o (nb b n) r,λb o r n _ _=>⟨o.slots,k b o (nb b n) r⟩,λb o r n _=>?_,λb o r _=>?_,λb F r=>t b _ r (λ_ z=>by cases z),λb o u r=>t b _ r (λ_ z=>by cases z),λb ps r=>⟨#[],by rw[t b _ r (λ_ z=>by cases z)];simp⟩⟩
  ·rw[yJ (nb b n),yJ (N b o r)];exact n
  ·by_cases j:b=e
   ·subst j;exact⟨_,E⟩
   ·exact⟨o,k b o j r⟩
 ·intro b v r;by_cases j:b=e
  ·subst j;rw[yB]at r;cases r;exact aWg E
  ·rw[yJ j]at r;by_cases B:b=s2.heap.objs.size
   ·subst B;rw[yB]at r;cases r;refine⟨_,O,λf=>?_⟩;show aZ5 (cZV f [("words",y)]) (if f="words" then some u else none);by_cases m:f="words"
    ·subst m;exact ry
    ·rw[if_neg m];have:(f==("words":Str))=false:=by simpa using m
     simp[cZV,this,aZ5]
   ·rw[yJ B]at r;have ne:∀c p,H2 c=some p->(∀φ,p≠ .ext φ)->c≠e:=λc p d n z=>by rw[z,ea]at d;cases d;exact n _ rfl
    refine(I2.hok b v r).stay (λc o l d=>k c o ?_ d) (λc d=>?_) λc F d=>?_
    ·rcases l with rfl|l
     ·exact j
     ·exact ne c _ l λ_ z=>by cases z
    ·rw[yJ (ne c _ d λ_ z=>by cases z),yJ (yI d g)];exact d
    ·rw[yJ (ne c _ d λ_ z=>by cases z),yJ (yI d g)];exact d
end
def vR(K:cQz):Sp:=λb H Q _=>∃ (e C tp:Nat)(y:V),b= [.ref e,y]/\H e=some (X1 e C tp none)/\jI K C/\∀a,H a=none->Q .non (upd (upd H a (.xd [("words",y)])) e (X1 e C tp (some a)))
def vI(K:cQz)(C:Nat)(t:Str):Sp:=λb H Q _=>∃e tp:Nat,b= [.ref e]/\H e=some (X1 e C tp none)/\∀a,H a=none->Q .non (upd (upd H a (.xd [("words",.str t)])) e (X1 e C tp (some a)))
structure aW3(P:cQT)(w:cQ2)(K:cQz)(mg:Str->Option cQx)(base:Heap)(k:Nat)(x m:Str)(ps:List Str)(sp:Sp):Prop where
 ex:∃ (R f:Nat)(fd:cZz),xL P w K mg base CX0 k f fd ps sp/\uX K fd ps []/\PySem.W.readsIn K R (.type "type")=true/\PySem.W.findCls K (.ref R) (.type "type") m=some (.val (.ref f))/\
  cVf K (.ref R) "__getattribute__"=some (some (.builtin "type.__getattribute__"))/\cXv K (.ref f)=true/\mg x=some (.ref R)
section
variable {X:Cx}{k:Nat}{x m:Str}{ps:List Str}{sp:Sp}{e:Expr}{es:List Expr}{t:TA}{p pos apos:Pos}
def qH{pl:Sem Bool}(G:aW3 X.prog X.w X.K X.mg X.base k x m ps sp)(y:uS k X.A)(j:Gl X x)(q:PA X (e::es) t)(d:(x==("__debug__":Str))=false:=by decide)
  (a:cXe (e::es) X.env=(false,eval e X.env)::cXe es X.env:=by rfl) (c:(cZj pos (cXe es X.env)).any (·.1)=false:=by rfl)
  (u:eval (.Call (.Attribute (.Name x p) m apos) (e::es) [] pos) X.env=(do
   let ov <- eval (.Name x p) X.env
   standAt apos.atName
   let (f,first) <- cJ1 [ov] (cJ8 ov m pl)
   callWith pos f first (cZj pos (cXe (e::es) X.env)) (cJT pos (cZW [] X.env))):=by rfl):
  PE X (.Call (.Attribute (.Name x p) m apos) (e::es) [] pos) (aYj sp [] E0 t):=by
 obtain⟨R,f,z,F,b,o,i,l,n,v⟩:=G.ex
 intro pins s σ H Q I h
 refine cJF (pl:=pl) (jL I j v ?_ d) u
 refine PySem.W.method_cls I.kIn l (PySem.W.cls_value I.kIn o i rfl ?_)
 have g:=I.tok (s.toks+1)
 refine cJv (first:= []) (h₀:=X.base) I.ok.mod.kin n (thn (q pos pins _ σ H _ g h) λus s2 ⟨vs,H2,I2,r,q2⟩=>⟨I2.kIn,?_⟩) a c
 exact aZd F y b .nil uT I2 r q2
end
structure ExG(P:cQT)(w:cQ2)(K:cQz)(mg:Str->Option cQx)(base:Heap)(k:Nat)(x:Str)(Rf:Nat)(C:Nat)(t:Str):Prop where
 ex:∃f fd,xL P w K mg base CX0 k f fd ["self"] (vI K C t)/\uX K fd ["self"] []/\cXl K (.ref C) "__init__"=some (some (.ref f))/\cJk K (.ref f)=true/\cXv K (.ref C)=true/\mg x=some (.ref C)
 cl:jI K C
 sub:cJW K C (.ref Rf)=some true
def ExG.mono{P:cQT}{w:cQ2}{K:cQz}{mg:Str->Option cQx}{base:Heap}{j k:Nat}{x:Str}{Rf C:Nat}{t:Str}(G:ExG P w K mg base j x Rf C t)(h:j<=k):ExG P w K mg base k x Rf C t:=
 let ⟨f,fd,a,b⟩:=G.ex;⟨⟨f,fd,a.mono h,b⟩,G.cl,G.sub⟩
def bVh(C:Nat)(t:Str)(E:XK):TS:=λ_ _ H=>∀a,H a=none->E (.ref C) (some a) (upd H a (.xd [("words",.str t)]))
section
variable {P:cQT}{w:cQ2}{K:cQz}{mg:Str->Option cQx}{base:Heap}{N:List Str}{qual:Str}{scope:cZL}{f:Nat}{cd:cQx}{A:cXi}{outer:List Env}{s₀:cQA}{H₀:Hp}{E:XK}{k:Nat}{x t:Str}{Rf C:Nat}{np cpos pos:Pos}
def vB(G:ExG P w K mg base k x Rf C t)(hr:uS (k+1) (A.deeper (cZy qual scope s₀.heap.objs.size f cd)))(Q:Gl (aZo (CXR P w) P w K mg base N qual scope f cd A outer s₀ H₀ E) x)(J:(x==("__debug__":Str))=false:=by decide):
  PS (aZo (CXR P w) P w K mg base N qual scope f cd A outer s₀ H₀ E) (.Raise (some (.Call (.Name x np) [] [] cpos)) none pos) (bVh C t E):=by
 intro pins s σ H D I h
 obtain⟨fi,fd,F,b,S,U,R,Z⟩:=G.ex
 rw[arm_exec_Raise]
 refine cQy (cVl ?_)
 show cQF _ _ (raiseStmt _ (some (do let v <- eval (.Call (.Name x np) [] [] cpos) (cZy qual scope s₀.heap.objs.size f cd);standAt pos;pure v)) none) _ _ _
 refine aYM (K:=K) (I.ok.hd rfl) (cQy ?_)
 refine cX4 (jL I Q Z ?_ J)
 refine cJ4 I.kIn R (cJU ?_)
 obtain⟨a,g,d,tk,O⟩:=s
 have X:Inv (aZo (CXR P w) P w K mg base N qual scope f cd A outer s₀ H₀ E) pins σ H ⟨a.push aQE,g,d,tk,O⟩:=I.kept (t':=tk) λb u e=>cQD _ e
 have hx:((a.push aQE).push (vN C a.objs.size none)).get? (a.objs.size+1)=some (vN C a.objs.size none):=by heap_get
 have q:Inv (aZo (CXR P w) P w K mg base N qual scope f cd A outer s₀ H₀ E) pins σ (upd H (a.objs.size+1) (X1 (a.objs.size+1) C a.objs.size none)) ⟨(a.push aQE).push (vN C a.objs.size none),g,d,tk,O⟩:=
  X.laid (t':=tk) (λb u e=>cQD _ e) (cJi (cX1 _ _)) (aWg hx)
 have n:H (a.objs.size+1)=none:=I.hok.fresh (cZD _)
 refine bZd I.kIn G.cl S (beq_iff_eq.mp U) (cZv (F.run _ (cZy qual scope s₀.heap.objs.size f cd::outer) _ _ ⟨[.ref (a.objs.size+1)],[]⟩ [.ref (a.objs.size+1)] [.ref (a.objs.size+1)] (λv M=>v= .non/\∃c,upd H (a.objs.size+1) (X1 (a.objs.size+1) C a.objs.size none) c=none/\M=upd (upd (upd H (a.objs.size+1) (X1 (a.objs.size+1) C a.objs.size none)) c (.xd [("words",.str t)])) (a.objs.size+1) (X1 (a.objs.size+1) C a.objs.size (some c))) E0 (hr.make C [] []) (q.env0.make C [] []) (b _ [.ref (a.objs.size+1)] q.kIn rfl) (.cons rfl .nil) ⟨a.objs.size+1,a.objs.size,rfl,yB,λc j=>⟨rfl,c,j,rfl⟩⟩) λr s' i=>?_)
 cases r with
 |error e=>exact cZb i
 |ok fl=>
  cases fl with
  |next=>exact cZb i
  |brk=>exact cZb i
  |cont=>exact cZb i
  |ret u=>
   obtain⟨v,M,B,V,rfl,c,j,rfl⟩:=q.after i;have l:a.objs.size+1≠c:=yI yB j;have y:H c=none:=by rw[yJ (cXg l)]at j;exact j
   have m:=aWf B.hok yB;have L:=B.forget (e:=a.objs.size+1) yB;have Y:(λb=>if b=a.objs.size+1 then none else upd (upd (upd H (a.objs.size+1) (X1 (a.objs.size+1) C a.objs.size none)) c (.xd [("words",.str t)])) (a.objs.size+1) (X1 (a.objs.size+1) C a.objs.size (some c)) b)=upd H c (.xd [("words",.str t)]):=by
    funext b;by_cases o:b=a.objs.size+1
    ·rw[if_pos o,o,yJ l,n]
    ·rw[if_neg o,yJ o];by_cases p:b=c
     ·rw[p,yB,yB]
     ·rw[yJ p,yJ p,yJ o]
   rw[Y]at L;refine⟨V,cQy (cVl (cQC ⟨a.objs.size+1,a.objs.size,some c,C,rfl,B.kIn,G.cl,m,?_⟩))⟩;refine bYq (tb:=none) L ⟨⟨_,_,m,rfl,rfl,rfl,rfl⟩,λT z=>by cases z⟩ (by rw[yJ l];exact n) (cQ7 I.sz (cZD _)) (λT z=>by cases z) (h c y)
end
end L2
namespace L2
open PySem PySem.Spec PyProof.Rows
def bWi{X:Cx}{A:cXi}{a:Bool}{pn:List (Nat×Obj)}{xe:cQx->cQA->Prop}(o:X.Ok)(b:A.frames=X.A.frames)(c:a=true->A.handled=none):Cx.Ok {X with A:=A,calm:=a,pn:=pn,xe:=xe}:=
 ⟨o.mod,o.kind,o.glob,o.blt,o.above,o.inj,o.has,o.cab,c,b.trans o.frames,o.stk,o.exf,o.bs,o.bsz,o.noex,o.exfs,o.funs,o.frf⟩
def Inv.mark{X:Cx}{A:cXi}{b:Bool}{pn pins a:List (Nat×Obj)}{xe:cQx->cQA->Prop}{σ:St}{H:Hp}{s:cQA}(I:Inv X pins σ H s)(c:A.frames=X.A.frames)(d:b=true->A.handled=none) (e:∀p∈pn++a,p∈X.pn++pins):Inv {X with A:=A,calm:=b,pn:=pn,xe:=xe} a σ H s:=
 ⟨bWi I.ok c d,I.os,I.bare,I.base,I.loc,I.cell,I.free,I.freeC,λp h=>I.pin p (e p h),I.hok,I.len⟩
def bWa{X:Cx}{pn:List (Nat×Obj)}{xe:cQx->cQA->Prop}(o:Cx.Ok {X with A:=X.A,calm:=X.calm,pn:=pn,xe:=xe}):X.Ok:=
 ⟨o.mod,o.kind,o.glob,o.blt,o.above,o.inj,o.has,o.cab,o.hd,o.frames,o.stk,o.exf,o.bs,o.bsz,o.noex,o.exfs,o.funs,o.frf⟩
def Inv.names{X:Cx}{pins:List (Nat×Obj)}{σ:St}{H:Hp}{s:cQA}{h':Heap}{h:Str->Option cQx}{t':Nat}(I:Inv X pins σ H s)(B:h'.Ns X.env.locals h)(d:cZC X.env.locals s.heap h'): Inv X pins (cJd X.N.length none) H {s with heap:=h',toks:=t'}:=by
 have a:∀b o,X.s₀.heap.get? b=some o->b≠X.env.locals:=λb o q=>cQV (cQ1 (cQN q) I.ok.above);refine⟨I.ok,I.os,I.bare,⟨λb o q n g e=>(d.2 b (a b o q)).trans (I.base.keep b o q n g e),λb o q n g e=>?_,I.base.free,λb o q e=>?_,I.base.tups,I.base.frzs,I.base.tbls⟩,⟨h,B,λi x v _ f _=>?_⟩,λx c q=>?_,I.free,I.freeC,λp A=>?_,λb u q=>?_,by simp⟩
 ·obtain⟨y,z⟩:=I.base.slot b o q n g e;exact⟨y,(d.2 b (a b o q)).trans z⟩
 ·obtain⟨C,z⟩:=I.base.there b o q e;exact⟨C,(d.2 b (a b o q)).trans z⟩
 ·rw[List.getElem?_replicate]at f;split at f<;> cases f
 ·obtain⟨v,z⟩:=I.cell x c q;exact⟨v,z.sameBut d (I.cne x c q)⟩
 ·obtain⟨t,l,j,w,m⟩:=I.pin p A;exact⟨(d.2 p.1 j).trans t,l,j,w,m⟩
 ·refine(I.hok b u q).stay (λc v k r=>(d.2 c ?_).trans r) (λ_ r=>r) λ_ _ r=>r;rintro rfl;rcases k with z|z
  ·rw[<- z,I.free]at q;cases q
  ·rw[I.free]at z;cases z
def bYB(K:cQz)(Rf:Nat)(Q:VK):XK:=λcls b a=>∃ (C d:Nat)(t:Str),cls= .ref C/\b=some d/\jI K C/\cJW K C (.ref Rf)=some true/\a d=some (.xd [("words",.str t)])/\Q (.str t) a
section
variable {X:Cx}{pins:List (Nat×Obj)}{σ:St}{H:Hp}{s:cQA}
def Inv.recs{h':Heap}{ch:List Nat}(I:Inv X pins σ H s)(h:∀b∈ch,s.heap.objs.size<=b\/(X.s₀.heap.objs.size<=b/\b≠X.env.locals/\(∀x c,X.env.cells.lookup x=some c->c≠b)/\∀p∈X.pn++pins,p.1≠b))(t:∀b∈ch,H b=none) (keep:∀b o,b∉frs X.stack->b∉ch->s.heap.get? b=some o->h'.get? b=some o) (a:∀b o,b∉ch->s.heap.get? b=some o->∃k,h'.get? b=some {o with slots:=k}):Inv X pins σ H {s with heap:=h'}:=by
 have i:HOk X.prog X.w H h':=λb u q=>(I.hok b u q).stay (λc v l r=>by
  have f:H c≠none:=by
   rcases l with z|z
   ·rw[z,q];simp
   ·rw[z];simp
  exact keep c v (λz=>f (I.stkFree c z)) (λz=>f (t c z)) r) (λ_ r=>r) λ_ _ r=>r
 refine I.call (g':=s.gens) (t':=s.toks) (d':=s.drawn) (ch:=ch) ⟨λb o q _ j g=>keep b o j g q,λb o q _ _ g=>a b o g q,λ_ _ _ n _=>n,λb o q g=>?_,λ_ _ q=>q,λ_ _ _ q=>q,λ_ y q=>⟨#[],by rw[q];simp⟩⟩ i I.bare λb j=>?_
 ·obtain⟨k,z⟩:=a b o g q;exact⟨_,z⟩
 ·rcases h b j with z|⟨z1,z2,z3,z4⟩
  ·refine⟨.inr (cQ7 I.sz z),λe=>?_,λx c q e=>?_,λp m e=>?_⟩
   ·rw[e]at z;exact absurd (cQ1 I.lt z) (cXG _)
   ·obtain⟨v,o,d,_⟩:=I.cell x c q;rw[e]at d;exact absurd (cQ1 (cQN d) z) (cXG _)
   ·have d:=(I.pin p m).1;rw[e]at d;exact absurd (cQ1 (cQN d) z) (cXG _)
  ·exact⟨.inr z1,z2,z3,z4⟩
def bKZ{body:List Stmt}{tb:XK->TS}{R n:Str}{i:Nat}{Rf:Nat}{cp p1 p2 p3 G tp:Pos}(hN:X.N.Nodup)(hi:X.N[i]? =some n)(hl:X.env.scope.names.lookup n=some .local)(hg:Gl X R)(hm:X.mg R=some (.ref Rf))(cr:jI X.K Rf) (a2:X.stack=X.env::X.outer) (c5:X.env.frame=some X.env.locals) (c8:X.calm=true) (a7:(n==("__debug__":Str))=false) (a9:(R==("__debug__":Str))=false) (d0:(n==("__classdict__":Str))=false) (hA:∀e,(X.A.mark (some (.ref e))).frames=X.A.frames) (j:∀ (pn:List (Nat×Obj))(xe:cQx->cQA->Prop)(E:XK),uB (CXR X.prog X.w) {X with A:=X.A,calm:=X.calm,pn:=pn,xe:=xe} E->PSs {X with A:=X.A,calm:=X.calm,pn:=pn,xe:=xe} body (tb E)): PS X (.Try body [.ExceptHandler (some (.Name R cp)) (some n) [.Return (some (.Attribute (.Name n p1) "words" p2)) p3] G] [] [] tp) (λD σ H=>tb (bYB X.K Rf D.rt) D σ H):=by
 intro pins s σ H D I h;refine wpAny_Try_except ?_;have l:X.calm=true->X.A.handled=none:=I.ok.hd;have go:∀ (a0:List (Nat×Obj))(B:St)(M:Hp)(Y:cQA)(g:cQx)(k:cQA),Inv X pins B M Y->CXR X.prog X.w X.stack M Y (bYB X.K Rf D.rt) g k->
   cQF (cQH X.prog X.w) X.A (cJ9 g X.env) (λ_ U=>cQF (cQH X.prog X.w) X.A (cJO g none) (λ_ S=>cQF (cQH X.prog X.w) X.A (handleBy g X.env [.ExceptHandler (some (.Name R cp)) (some n) [.Return (some (.Attribute (.Name n p1) "words" p2)) p3] G]) (SP X pins D) X.xe S) X.xe U) X.xe k:=by
  intro _ B M Y g k J1 hx
  obtain⟨e,C',dx,a6,H',rfl,os,bare,un,c7,x,he,ht,a1,a5,hE⟩:=hx
  obtain⟨C,d,t,ec,ed,cC,hs,hd,hq⟩:=hE
  have eC:C'=C:=by cases ec;rfl
  subst eC
  have eD:dx=d:=by cases ed;rfl
  subst eD
  have Z:Inv X pins B H' k:=J1.call' os un c7 bare λb z=>absurd z (by simp)
  have big:∀b,Y.heap.objs.size<=b->X.s₀.heap.objs.size<=b/\b≠X.env.locals/\(∀x c,X.env.cells.lookup x=some c->c≠b)/\∀p∈X.pn++pins,p.1≠b:=λb z=>by
   refine⟨cQ7 J1.sz z,λe=>?_,λx c q e=>?_,λp G e=>?_⟩
   ·rw[e]at z;exact absurd (cQ1 J1.lt z) (cXG _)
   ·obtain⟨v,o,O,_⟩:=J1.cell x c q;rw[e]at O;exact absurd (cQ1 (cQN O) z) (cXG _)
   ·have O:=(J1.pin p G).1;rw[e]at O;exact absurd (cQ1 (cQN O) z) (cXG _)
  refine aWr (base:=X.base) (outer:=X.outer) (L:=X.env.locals) (a2 ▸ Z.ok.frames) (a2 ▸ Z.stack) c5 x λh3 T y nT p=>?_
  have b8:frs X.stack=(X.env::X.outer).filterMap (·.frame):=by rw[a2];rfl
  have J3:Inv X pins B H' {k with heap:=h3}:=Z.recs (ch:= [e,a6]) (λb j=>by
    rcases cQG.mp j with rfl|j
    ·exact .inr (big _ a1)
    ·rw[cQL.mp j];exact .inr (big _ a5)) (λb j=>by
    rcases cQG.mp j with rfl|j
    ·exact he
    ·rw[cQL.mp j];exact ht)
   (λb o j W q=>p.keep b o (λz=>W (by simp[z])) (λz=>W (by cases z;simp)) (b8 ▸ j) q)
   (λb o W q=>p.slot b o (λz=>W (by simp[z])) (λz=>W (by cases z;simp)) q)
  have b4:H' T=none:=Z.hok.fresh nT
  have P:X.s₀.heap.objs.size<=T/\T≠X.env.locals/\(∀x c,X.env.cells.lookup x=some c->c≠T)/\∀p∈X.pn++pins,p.1≠T:=by
   refine⟨cQ7 Z.sz nT,λe=>?_,λx c q e=>?_,λp G e=>?_⟩
   ·rw[e]at nT;exact absurd (cQ1 Z.lt nT) (cXG _)
   ·obtain⟨v,o,O,_⟩:=Z.cell x c q;rw[e]at O;exact absurd (cQ1 (cQN O) nT) (cXG _)
   ·have O:=(Z.pin p G).1;rw[e]at O;exact absurd (cQ1 (cQN O) nT) (cXG _)
  have mk:∀ {σ:St} {H:Hp} {s:cQA},Inv X pins σ H s->Inv {X with A:=X.A.mark (some (.ref e)),calm:=false,pn:=X.pn,xe:=λ_ _=>True} pins σ H s:=λJ=>J.mark (hA e) (λz=>by cases z) λp G=>G
  have un:∀ {σ:St} {H:Hp} {s:cQA},Inv {X with A:=X.A.mark (some (.ref e)),calm:=false,pn:=X.pn,xe:=λ_ _=>True} pins σ H s->Inv X pins σ H s:=λ{σ H s} J=>Inv.mark (X:={X with A:=X.A.mark (some (.ref e)),calm:=false,pn:=X.pn,xe:=λ_ _=>True}) J (hA e).symm l λp G=>G
  refine wpAny_handleBy_cons (codeAny_handlers_test ?_) (by intro q;cases q)
  refine jL (X:={X with A:=X.A.mark (some (.ref e)),calm:=false,pn:=X.pn,xe:=λ_ _=>True}) (mk J3) hg hm ?_ a9
  obtain⟨oe,vs,g1,g2,g3,g4,g5⟩:=y.obj
  refine aYL J3.kIn cC cr hs g1 g2 ?_
  refine codeAny_handlers_suite_as ?_
  refine bZn (s:={k with heap:=h3}) y λh4 y4 k4 t4=>?_
  have J4:Inv X pins B H' {k with heap:=h4}:=Inv.recs (s:={k with heap:=h3}) (h':=h4) (ch:= [T]) J3 (λb j=>by rw[cQL.mp j];exact .inr P) (λb j=>by rw[cQL.mp j];exact b4)
   (λb o _ W q=>k4 b o (λz=>W (by simp[z])) q) (λb o W q=>⟨o.slots,k4 b o (λz=>W (by simp[z])) q⟩)
  refine aXM (X:={X with A:=X.A.mark (some (.ref e)),calm:=false,pn:=X.pn,xe:=λ_ _=>True}) (v:= .ref e) (u:= .ref e) (mk J4) hN hi (.inl hl) rfl (λs5 J5 ⟨a,sb,ha⟩=>?_) (.inr hl)
  have a3:e≠a/\T≠a:=by
   rcases ha with z|z
   ·rw[z];exact⟨(big _ a1).2.1,P.2.1⟩
   ·exact⟨λq=>(big _ a1).2.2.1 n a z q.symm,λq=>P.2.2.1 n a z q.symm⟩
  have y5:Q2 s5.heap e (.ref C') (some dx) (some T):=y4.keeps λb o j q=>(sb.2 b (by
   rcases j with rfl|j
   ·exact a3.1
   ·cases j;exact a3.2)).trans q
  obtain⟨c0,c9,f1,f2,f3,f4,f5⟩:=y5.obj
  obtain⟨mA,b1,a4⟩:=J5.hok dx _ hd
  obtain⟨od,b9,b7⟩:=aJz b1
  obtain⟨u,hu,ru⟩:=aZ5.some_of (v:=V.str t) (o:=mA "words") (a4 "words")
  obtain⟨m5,c6,b5⟩:=J5.loc
  obtain⟨u5,r5,l5⟩:=b5 i n (.ref e) hi (cZU (by rw[J4.len];exact(cQK.mp hi).1)) (.inl hl)
  obtain rfl:u5=Value.ref e:=r5
  have b3:m5 n=some (.ref e):=by
   rcases l5 with⟨_,z⟩|⟨z,_⟩
   ·exact z
   ·rw[show X.env.kindOf n=some .local from hl]at z;rcases z with z|z<;> cases z
  refine wpAny_execs_cons (wpAny_Return_some (aYu rfl ?_))
  refine wpAny_Name (wpAny_loadName_local J5.ok.kind hl c6 b3 ?_) a7
  refine bVK J5.kIn cC f1 f2 f3 (by obtain⟨c1,c2,c3,c4⟩:=c0;cases f4;rfl) b9 (by rw[b7,hu]) (aJn ru) ?_
  have J6:=(un J5).tok (s5.toks+1)
  obtain⟨m6,b0,_⟩:=J6.loc
  refine wpAny_nameGoes hl b0 (by rw[J6.ok.kind];rfl) λh7 m7 b2 b6=>?_
  exact⟨.str t,_,H',J6.names (t':=s5.toks+1+1) b2 b6,ru,hq⟩
 have a8:uB (CXR X.prog X.w) {X with A:=X.A,calm:=X.calm,pn:=X.pn++pins,xe:=λg k=>cQF (cQH X.prog X.w) X.A (cJ9 g X.env) (λ_ U=>cQF (cQH X.prog X.w) X.A (cJO g none) (λ_ S=>cQF (cQH X.prog X.w) X.A (handleBy g X.env [.ExceptHandler (some (.Name R cp)) (some n) [.Return (some (.Attribute (.Name n p1) "words" p2)) p3] G]) (SP X pins D) X.xe S) X.xe U) X.xe k} (bYB X.K Rf D.rt):=
  λa0 B M Y g k J hx=>go [] B M Y g k (Inv.mark (X:={X with A:=X.A,calm:=X.calm,pn:=X.pn++pins,xe:=λg k=>cQF (cQH X.prog X.w) X.A (cJ9 g X.env) (λ_ U=>cQF (cQH X.prog X.w) X.A (cJO g none) (λ_ S=>cQF (cQH X.prog X.w) X.A (handleBy g X.env [.ExceptHandler (some (.Name R cp)) (some n) [.Return (some (.Attribute (.Name n p1) "words" p2)) p3] G]) (SP X pins D) X.xe S) X.xe U) X.xe k}) J rfl l λp Q=>cZl _ Q) hx
 have I':Inv {X with A:=X.A,calm:=X.calm,pn:=X.pn++pins,xe:=λg k=>cQF (cQH X.prog X.w) X.A (cJ9 g X.env) (λ_ U=>cQF (cQH X.prog X.w) X.A (cJO g none) (λ_ S=>cQF (cQH X.prog X.w) X.A (handleBy g X.env [.ExceptHandler (some (.Name R cp)) (some n) [.Return (some (.Attribute (.Name n p1) "words" p2)) p3] G]) (SP X pins D) X.xe S) X.xe U) X.xe k} [] σ H s:=
  I.mark rfl l λp Q=>by simpa using Q
 have F:∀ {σ:St} {H:Hp} {s:cQA},Inv {X with A:=X.A,calm:=X.calm,pn:=X.pn++pins,xe:=λg k=>cQF (cQH X.prog X.w) X.A (cJ9 g X.env) (λ_ U=>cQF (cQH X.prog X.w) X.A (cJO g none) (λ_ S=>cQF (cQH X.prog X.w) X.A (handleBy g X.env [.ExceptHandler (some (.Name R cp)) (some n) [.Return (some (.Attribute (.Name n p1) "words" p2)) p3] G]) (SP X pins D) X.xe S) X.xe U) X.xe k} [] σ H s->Inv X pins σ H s:=
  λ{σ H s} J=>⟨bWa J.ok,J.os,J.bare,J.base,J.loc,J.cell,J.free,J.freeC,λp Q=>J.pin p (by simpa using Q),J.hok,J.len⟩
 refine cXD (j _ _ _ a8 [] s σ H D I' h) (λf Y q=>?_) λ_ _ q=>q;cases f with
 |next=>obtain⟨m,M,J,q⟩:=q;exact yS pins Y m M D (F J) q
 |ret v=>obtain⟨u,m,M,J,r,q⟩:=q;exact⟨u,m,M,F J,r,q⟩
 |brk=>obtain⟨m,M,J,q⟩:=q;exact⟨m,M,F J,q⟩
 |cont=>obtain⟨m,M,J,q⟩:=q;exact⟨m,M,F J,q⟩
end
end L2
namespace L2
open PySem PySem.Spec PyProof.Rows
def aY0{P:cQT}{w:cQ2}{K:cQz}{mg mb:Str->Option cQx}{CX:CXT}{k:Nat}{fa a c T:Nat}{fd:cZz}{x:Str}{sp:Sp}{f:cQA}{vs:List cQx}{Q:List Int} (KX:K.In f.heap) (E:f.heap.Ns cQ8 mg) (p:f.heap.Ns builtinsNs mb) (a5:∀x:Str,x≠"__name__"->mb x=cXj x) (Z:f.heap.NoLimit) (hg:f.gens= #[]) (L:f.heap.get? a=some {cls:= .type "list",data:= .seq vs.toArray}) (hi:cZT vs Q) (hl:Q.length<=cQW) (hr:uS k callerA) (hC:cZF f.heap c T) (M:f.heap.get? T=some (cJe #[])) (a1:K.lookup T=none) (a6:∃R D,mg "__builtins__"=some (.ref R)/\R≠builtinsNs/\f.heap.get? R=some D/\D.cls= .type "module"/\D.dict=some builtinsNs/\D.data= .plain) (F:∀base:Heap,K.In base->base.Ns cQ8 mg->cZF base c T->base.BuiltinsAt mg T->xL P w K mg base CX k fa fd [x] sp) (I:∀ (s:cQA)(u:cQx),BindsTo s fd ⟨[u],[]⟩ [(x,u)]) (a4:∀H:Hp,H T=some (.tbl #[])->SqL K H a (Q.map V.int)->sp [.ref a] H (λv _=>v= .bl true) λ_ _ _=>False) (a7:∀H e j,CX [] H f (λ_ _ _=>False) e j->False): cZO (cQH P w) callerA (.call (.ref fa) ⟨[.ref a],[]⟩) (λr j=>r= .ok (.ret (.bool true))/\OldK f.heap j.heap/\j.os=f.os/\AllBare j.gens) f:=by
 have rv:=jH hi;have bV2:=hi.length;have Y:a≠T:=λz=>by rw[z,M]at L;cases L
 have B:∀H:Hp,H T=some (.tbl #[])->SqL K H a (Q.map V.int)->HOk P w H f.heap->(∀b,H b≠none->b=T\/(b=a/\∃o xs,H b=some (.frz o (.lst xs))))->(H a≠none->K.lookup a=none)->
   cZO (cQH P w) callerA (.call (.ref fa) ⟨[.ref a],[]⟩) (λr j=>r= .ok (.ret (.bool true))/\OldK f.heap j.heap/\j.os=f.os/\AllBare j.gens) f:=by
  intro H hH hS a0 hA hK
  have i:∀ {b:Nat} {o:Obj},f.heap.get? b=some o->H b=none->(aYP f.heap H).get? b=some o:=λe n=>bZh e n
  have l:∀ {b:Nat} {o:Obj},f.heap.get? b=some o->(∀ps,o≠cJe ps)->(∀y,o≠ {cls:= .type "list",data:= .seq y})->H b=none:=λ{b o} e n1 n2=>by
   cases q:H b with
   |none=>rfl
   |some u=>
    rcases hA b (by rw[q];simp)with z|⟨z,_⟩
    ·rw[z,M]at e;cases e;exact absurd rfl (n1 _)
    ·rw[z,L]at e;cases e;exact absurd rfl (n2 _)
  have t:∀ {b:Nat} {m:Str->Option cQx},f.heap.Ns b m->(aYP f.heap H).Ns b m:=λ{b m} ⟨o,es,ep,e,d,r⟩=>⟨o,es,ep,i e (l e (λps z=>by rw[z]at d;cases d) (λy z=>by rw[z]at d;cases d)),d,r⟩
  have O:K.In (aYP f.heap H):=λb o e=>i (KX b o e) (by
   cases q:H b with
   |none=>rfl
   |some u=>
    rcases hA b (by rw[q];simp)with z|⟨z,_⟩
    ·rw[z,a1]at e;cases e
    ·subst z;rw[hK (by rw[q];simp)]at e;cases e)
  have hM:Mod K mg (aYP f.heap H):=⟨O,t E,⟨mb,t p,a5⟩,let ⟨mc,h1,h2⟩:=Z;⟨mc,t h1,h2⟩⟩
  have e0:bVv P w K mg (aYP f.heap H) callerA [] f H:=⟨rfl,hM,λb o e=>bV8 e,cJi (aYQ _ _),trivial,λb p=>absurd (show b∈([]:List Nat)from p) (by simp),a0,.of_eq hg⟩
  have a3:cZF (aYP f.heap H) c T:=by
   obtain⟨o,vs,file,tf,G,tg,inF,text,tt,e,U,r⟩:=hC;exact⟨o,vs,file,tf,G,tg,inF,text,tt,i e (l e (λps z=>by rw[z]at U;cases U) (λy z=>by
    rw[z]at U;have c':Value.type "list"=Value.type "code":=U;injection c' with c''
    exact absurd c'' (by decide))),U,r⟩
  have a2:(aYP f.heap H).BuiltinsAt mg T:=by
   obtain⟨R,D,b1,b2,J,b4,b5,N⟩:=a6;refine⟨R,D,b1,b2,λz=>?_,λz=>?_,i J (l J (λps z=>by rw[z]at b4;cases b4) (λy z=>by rw[z]at N;cases N)),b4,b5,N⟩
   ·obtain⟨o,es,ep,e,d,_⟩:=E;rw[z,e]at J;cases J;rw[d]at N;cases N
   ·rw[z,M]at J;cases J;cases b4
  refine cZv ((F _ O (t E) a3 a2).run callerA [] f H ⟨[.ref a],[]⟩ [.ref a] [.ref a] _ _ hr e0 (I f (.ref a)) (.cons rfl .nil) (a4 H hH hS)) λr j h=>?_
  cases r with
  |error e=>exact(a7 H e j h).elim
  |ok fl=>
   cases fl with
   |next=>exact cZb h
   |brk=>exact cZb h
   |cont=>exact cZb h
   |ret u=>
    obtain⟨v,H',os,bare,un,C,r',q⟩:=h;have q':v= .bl true:=q;subst q';obtain rfl:u=Value.bool true:=r';obtain⟨more,hm⟩:=un.tbls T _ hH;have S:j.heap.get? T=some (cJe (#[]++more)):=C T _ hm;have get:∀b o,b≠T->f.heap.get? b=some o->j.heap.get? b=some o:=λb o g e=>by
     cases q:H b with
     |none=>exact un.keep b o e q (by intro z;exact absurd (show b∈([]:List Nat)from z) (by simp)) (by simp)
     |some u=>
      rcases hA b (by rw[q];simp)with z|⟨_,D,xs,z⟩
      ·exact absurd z g
      ·have z2:=un.frzs b D _ z;obtain⟨e1,_⟩:=a0 b _ z;obtain⟨e2,_⟩:=C b _ z2;rw[e]at e1;cases e1;exact e2
    refine⟨rfl,⟨λb o e=>?_,λb o e=>?_⟩,os,bare⟩
    ·by_cases g:b=T
     ·subst g;rw[M]at e;cases e;exact .inr (.inl ⟨(hC.tab M).isCodeTable,rfl, #[],more,rfl,S⟩)
     ·exact .inl (get b o g e)
    ·by_cases g:b=T
     ·exact⟨_,by rw[g];exact S⟩
     ·exact⟨o,get b o g e⟩
 have X:∀H:Hp,zQ P w H f.heap T (.tbl #[]):=λH=>M;cases hk:K.lookup a with
 |some o=>
  have e:=KX a o hk;rw[L]at e;cases e;refine B (λb=>if b=T then some (.tbl #[])else none) (if_pos rfl) (.inr ⟨_,vs.toArray,_,hk,rfl,rfl,rfl,by rw[cQQ,bV2];exact hl,by simpa using rv⟩) (λb u z=>?_) (λb z=>?_) λz=>absurd (if_neg Y) z
  ·by_cases g:b=T
   ·have A:=(if_pos g).symm.trans z;cases A;subst g;exact X _
   ·have A:=(if_neg g).symm.trans z;cases A
  ·by_cases g:b=T
   ·exact .inl g
   ·exact absurd (if_neg g) z
 |none=>
  refine B (λb=>if b=T then some (.tbl #[])else if b=a then some (.frz {cls:= .type "list",data:= .seq vs.toArray} (.lst (Q.map V.int)))else none) (if_pos rfl)
   (.inl (.inr ⟨{cls:= .type "list",data:= .seq vs.toArray},by show(if a=T then _ else _)=_;rw[if_neg Y,if_pos rfl]⟩)) (λb u z=>?_) (λb z=>?_) λ_=>hk
  ·by_cases g:b=T
   ·have A:=(if_pos g).symm.trans z;cases A;subst g;exact X _
   ·have z1:=(if_neg g).symm.trans z;by_cases p:b=a
    ·have A:=(if_pos p).symm.trans z1;cases A;subst p;exact⟨L,by rw[cQB];exact hl,vs,_,rv,L⟩
    ·have A:=(if_neg p).symm.trans z1;cases A
  ·by_cases g:b=T
   ·exact .inl g
   ·by_cases p:b=a
    ·exact .inr ⟨p,_,_,by show(if b=T then _ else _)=_;rw[if_neg g,if_pos p]⟩
    ·exact absurd (by show(if b=T then _ else _)=_;rw[if_neg g,if_neg p]) z
def bJU{l:PySem.W.OpenLaw}{n k:Nat}{q:cQT}{loose:List Str}{R:(Str->Option cQx)->Heap->Prop}{J:cQ2->Heap->Prop}{d:DefRec}{K:Params->cQz}{CX:CXT}{sp:Nat->cQz->Sp}{x:Str}{T:Nat} (U:l.most=some n) (C:n<=cQW) (L:d.params.defaults= []) (hr:uS k callerA) (hY:∀ (w:cQ2)(h:Heap),J w h->(K w.params).In h) (A:∀ (w:cQ2)(h:Heap),J w h->h.get? T=some (cJe #[])) (F:∀ (w:cQ2)(mg:Str->Option cQx)(t:Nat)(h:Heap),(K w.params).In h->h.Ns cQ8 mg->mg d.name=some (.ref t)-> ∃ (I:cZz)(c:Nat),cVr (K w.params) c T=true/\(K w.params).lookup T=none/\(∀ (s:cQA)(u:cQx),BindsTo s I ⟨[u],[]⟩ [(x,u)])/\ ∀base:Heap,(K w.params).In base->base.Ns cQ8 mg->cZF base c T->base.BuiltinsAt mg T->xL l.prog w (K w.params) mg base CX k t I [x] (sp T (K w.params))) (D:∀ (K:cQz)(H:Hp)(a:Nat)(r:List Int),r.length<=n->H T=some (.tbl #[])->SqL K H a (r.map V.int)->sp T K [.ref a] H (λv _=>v= .bl true) λ_ _ _=>False) (E:∀ (H:Hp)(s:cQA)(e:cQx)(z:cQA),CX [] H s (λ_ _ _=>False) e z->False): PySem.W.WalkO q loose R J l.row.toRowW d [] (λf N=>PySem.call f N):=by
 refine Att.aVa U L λw s₀ m mg mb t o pm cd O a N r G Y ho hd X y p j i Q=>?_;have M:=hY w _ Y;obtain⟨I,c,S,B,Z,hF⟩:=F w mg t _ M G.T.g y;exact aY0 M G.T.g G.T.b G.T.builtins G.T.nolimit Q p j (cQ7 i C) hr (PySem.W.codeHd_of_K M S) (A w _ Y) B G.T.bmain hF Z (λH P hS=>D _ H a r i P hS) λH e z=>E H m e z
end L2
namespace Thr
open PySem L2 PyProof.Rows
open Stree (Z6 qT vG)
def aJo(x:Str):Stmt->Bool
 |.FunctionDef n _ _ _ _ _ _ _ _ _=>n==x
 |_=>false
def xM(x:Str):Stmt:=(PySem.Challenge.pw_letterdesk_k09_whole_files.main.body.find? (aJo x)).getD (.Pass ⟨0,0,0,0⟩)
abbrev aVR:Stmt:=xM "thread"
abbrev bQ8:Stmt:=xM "top_of"
abbrev aVI:Stmt:=xM "answers_to_each"
def xG:cXj "len"=some (.builtin "len"):=dk
def wW:cXj "sorted"=some (.builtin "sorted"):=dk
def yY:cXj "isinstance"=some (.builtin "isinstance"):=dk
def qC:cXj "int"=some (.type "int"):=dk
def wK:cXj "list"=some (.type "list"):=dk
def vT:cXj "tuple"=some (.type "tuple"):=dk
structure uJ(mg:Str->Option cQx):Prop where
 b_len:mg "len"=none
 b_sorted:mg "sorted"=none
 b_isinstance:mg "isinstance"=none
 b_int:mg "int"=none
 b_str:mg "str"=none
 b_bool:mg "bool"=none
 b_list:mg "list"=none
 b_tuple:mg "tuple"=none
 b_range:mg "range"=none
def zZ{a H:Hp}{c:Nat}{o:HO}(k:xJ a H)(h:a c=none):xJ a (upd H c o):=λb u q=>by rw[yJ (yI q h)];exact k b u q
def aKr{K:cQz}{a:Nat}{xs:List V}{E:List Nat}{σ:L2.St}{D:Nat}{Q:VK}{H:Hp}(hl:SqL K H a xs)(u:H D=none)(hz:xs.length<=1000) (F:∀ (d:Hp)(c:List Nat),xJ H d->d D=some (.lst (c.map V.ref))->c.length=xs.length->c.Nodup->(∀b∈c,d b=some (.lst [])/\H b=none/\b≠D)->Q (.ref D) d):bVx (Itl K a) E bYZ (bY9 bXO) σ D Q (upd H D (.lst [])):=by
 refine⟨λi m n d=>m=xs.length - i/\i<=xs.length/\∃c:List Nat,n=c.map V.ref/\c.length=i/\c.Nodup/\xJ H d/\d D=some (.lst n)/\∀b∈c,d b=some (.lst [])/\H b=none/\b≠D,
  ⟨xs.length,by simp,cXz _,[],rfl,rfl,.nil,yE u _,yB,λb g=>nomatch g⟩,?_⟩
 rintro i m n d ⟨rfl,I,c,rfl,q,t,j,k,e⟩;refine⟨k,?_⟩;have w:=xJ.seq j hl;by_cases o:i<xs.length
 ·refine .inr ⟨⟨xs,xs[i],w,cQw o⟩,λv J C=>?_⟩;obtain⟨rfl,y⟩:=C;refine⟨z0,λp h=>?_⟩;have f:p≠D:=cXg (yI k h);have l:p∉c:=λz=>by rw[(e p z).1]at h;cases h
  refine⟨zlt (by rw[cQB];omega),by rw[yJ (cXg f)];exact k,xs.length - (i+1),by omega,rfl,by omega,c++ [p],by simp,by simp[q],?_,?_,yB,λb g=>?_⟩
  ·rw[cZ6];exact⟨t,by simp,λx G y B z=>by rw[cQL.mp B]at z;exact l (z ▸ G)⟩
  ·exact zZ (j.trans (yE h _)) u
  ·rcases cQ4.mp g with g|g
   ·obtain⟨s,A,r⟩:=e b g;exact⟨by rw[yJ r,yJ (yI s h)];exact s,A,r⟩
   ·rw[cQL.mp g];exact⟨by rw[yJ f];exact yB,j.fresh h,f⟩
 ·refine .inl ⟨⟨xs,w,by omega⟩,F d c j k (by omega) t e⟩
def zV:Option Nat->V
 |none=> .non
 |some j=> .int (j:Nat)
def jB(n:Nat)(L:Nat->Option Nat):List V:=(cQJ n).map λi=>zV (L i)
def W1(n:Nat)(D:Nat->Int):List V:=(cQJ n).map λi=> .int (D i)
def qU{n i:Nat}{L:Nat->Option Nat}(h:i<n):(jB n L)[i]? =some (zV (L i)):=by unfold jB;rw[cQR,cZB h];rfl
def aKe{n i:Nat}{D:Nat->Int}(h:i<n):(W1 n D)[i]? =some (.int (D i)):=by unfold W1;rw[cQR,cZB h];rfl
def bYi(K:cQz):Sp:=λc H Q _=>∃ (a:Nat)(n:Nat)(L:Nat->Option Nat)(b:Nat->Nat)(i:Nat),c= [.ref a,.int (i:Nat)]/\SqL K H a (jB n L)/\Fm.Ok n L b/\i<n/\Q (.int (Fm.tp L b i:Nat)) H
def vE(T:Nat):Hp->Prop:=Q6 ⟨116,48,116,71⟩ "answers_to_each.<locals>.<lambda>" T
structure bY1(n:Nat)(L:Nat->Option Nat)(D:Nat->Int)(kd:Nat->List Nat):Prop where
 mem:∀j i,i∈kd j↔i<n/\L i=some j
 ord:∀j,(kd j).Pairwise λx y=>vG (D y,(y:Int)) (D x,(x:Int))=true
def bW5(T:Nat):Sp:=λh H Q _=>∃ (g e:Nat)(n:Nat)(L:Nat->Option Nat)(k:Nat->Nat)(D:Nat->Int),h= [.ref g,.ref e]/\H g=some (.lst (jB n L))/\H e=some (.lst (W1 n D))/\Fm.Ok n L k/\n<=63/\vE T H/\
 ∀ (c:Hp)(a:Nat)(d:List Nat)(f:Nat->List Nat),zI H c->vE T c->c a=some (.lst (d.map V.ref))->d.length=n->(∀j b,d[j]? =some b->c b=some (.lst ((f j).map λi=>V.int (i:Nat))))->bY1 n L D f->Q (.ref a) c
def aWV(T:Nat):Sp:=λh H Q _=>∃ (e f:Nat)(n:Nat)(L:Nat->Option Nat)(c:Nat->Nat)(D:Nat->Int)(i:Nat),h= [.ref e,.ref f,.int (i:Nat)]/\H e=some (.lst (jB n L))/\H f=some (.lst (W1 n D))/\Fm.Ok n L c/\n<=63/\i<n/\vE T H/\
 ∀ (d:Hp)(r:Nat)(a:List Nat),(∀b u,(∀g,u≠HO.tbl g)->H b=some u->b≠r)->zI H d->vE T d->d r=some (.lst (a.map λi=>V.int (i:Nat)))->(a.Pairwise λx y=>qT (Fm.rd L D c x) (Fm.rd L D c y)=true)->(∀k,k∈a↔k<n/\Fm.tp L c k=Fm.tp L c i)->Q (.ref r) d
section
variable {K:cQz}
def bJy:yO ["links","number","top"] ["links","number"] (yH bQ8):=scM
def bZW(T:uJ mg)(F:Fun K "top_of" "top_of" bQ8 f fd):xL P w K mg base CX0 1 f fd ["links","number"] (bYi K):=by
 have y:=bJy;refine F.ok (k:=0) y (λB A outer s x C Q E D h=>?_);obtain⟨a,n,L,b,i,rfl,r,l,v,q⟩:=h;refine⟨_,(yC (yU (i:=2) (pv 1)) (yC (jO cXo (yM wZ (yL yK (pv 0) (pv 2)) zL) (yF (yU (i:=2) (yL yK (pv 0) (pv 2))))) (yF (yP (pv 2))))),?_⟩;refine⟨_,rfl,?_⟩;refine⟨λm σ H=>∃t:Nat,σ= [some (.ref a),some (.int (i:Nat)),some (.int (t:Nat))]/\H=x/\t<n/\Fm.tp L b t=Fm.tp L b i/\m=b t,⟨b i,i,rfl,rfl,v,rfl,rfl⟩,?_⟩;rintro m σ H ⟨t,rfl,rfl,e,c,rfl⟩;refine⟨_,rfl,_,rfl,a,_,_,_,rfl,rfl,r,yT (qU e),rfl,_,rfl,?_⟩;cases hl:L t with
 |none=>refine onF rfl ⟨_,rfl,?_⟩;rw[Fm.wM hl]at c;rw[c];exact q
 |some j=>obtain⟨u,g⟩:=l.lt t j e hl;refine onT rfl ⟨λd p=>∃o,o<b t/\∃t:Nat,d= [some (.ref a),some (.int (i:Nat)),some (.int (t:Nat))]/\p=H/\t<n/\Fm.tp L b t=Fm.tp L b i/\o=b t,λd p z=>z,?_⟩;refine⟨_,rfl,_,rfl,a,_,_,_,rfl,rfl,r,yT (qU e),?_⟩;rw[hl];exact⟨b j,g,j,rfl,rfl,u,by rw[<- c,Fm.uW l e hl],rfl⟩
def bK7:yO ["links","dates","answers","letter"] ["links","dates"] (yH aVI):=scM
def bKI:xO ["links","dates","answers","letter"] (yH aVI) "link" [] [] (lsN [(".0",.local),("link",.local)]):=
 lcM
def bVW:xO ["links","dates","answers","letter"] (yH aVI) "n" ["dates"] [1] (lsN [("n",.local),("dates",.free)]):=
 lcM
def bKO{oc:cQx}{od an:Option Nat}{b3:Array (Option cQx)}{kV Z pm ct:cQx}(T:uJ mg)(C:cZF base c Tb)(hB:base.BuiltinsAt mg Tb) (lk:K.lookup f=some ⟨oc,od,.func (cXW "answers_to_each" "answers_to_each" (wX aVI) (zW aVI) (yH aVI) .none kV Z pm an (.ref c) ct),b3⟩) (b2:cZn K (.ref c) "answers_to_each"=true): xL P w K mg base CX0 2 f (cXW "answers_to_each" "answers_to_each" (wX aVI) (zW aVI) (yH aVI) .none kV Z pm an (.ref c) ct) ["links","dates"] (bW5 Tb):=by
 have sc:=bK7;refine bVO (k:=1) lk b2 sc (λvs H Q E h=>by obtain⟨O,da,n,L,rk,D,rfl,_⟩:=h;rfl) λA outer s H0 vs Q E hr h=>?_;suffices S:∃t,PSs (aZo CX0 P w K mg base ["links","dates","answers","letter"] "answers_to_each" (yH aVI) f (.ref c) A outer s H0 E).nox (zW aVI) t/\t {nx:=λ_ H'=>Q .non H',rt:=Q} (start ["links","dates","answers","letter"] vs) H0 by obtain⟨t,m,B⟩:=S;exact⟨t,m.nox,B⟩
 obtain⟨O,da,n,L,rk,D,rfl,u,a9,ho,hn,hT,q⟩:=h;refine⟨_,(yC (aXZ (i:=2) bKI rfl sc.nd rfl rfl (xN (pv 0)) (λ_ _ _ _ _=>wQ) (λ_ _ _ _ _=>(xB yD))) (yC (wT cXo rfl (xN (aKT (qual:="answers_to_each.<locals>.<lambda>") rfl T.b_sorted rfl T.b_range (yR yN rfl T.b_len xG (yA (pv 0) yD)) bVW rfl rfl rfl C hB hr rfl rfl (λ_ _ _ _ _=>rfl) (λ_ _ _ _ _ _ _=>xK (yA (yL ixK (pv 1) (pv 0)) (yA (pv 0) yD))))) (xI (i:=3)) (yF (xA (yM wZ (yL yK (pv 0) (pv 3)) zL) (yF (yZ (jC cQ3 cXc cXd xR (yL yK (pv 2) (yL yK (pv 0) (pv 3))) (yA (pv 3) yD)))) yS))) (yF (yP (pv 2))))),?_⟩;have G:(jB n L).length=n:=by simp[jB]
 refine⟨_,rfl,O,rfl,⟨_,SqL.of u⟩,λa ha=>aKr (SqL.of u) ha (by omega) λH1 g Y hD a5 nd v=>?_⟩;rw[G]at a5;dsimp only[yW];have a2:=Y _ _ u;have a4:=Y _ _ a9;have b4:vE Tb H1:=by
  rcases hT with t|⟨c',t1,t2⟩
  ·exact .inl (Y _ _ t)
  ·exact .inr ⟨c',Y _ _ t1,Y _ _ t2⟩
 refine⟨_,rfl,O,_,rfl,.inl (SqL.of a2),?_⟩;rw[G];refine⟨n,rfl,by omega,b4,λi=>(D i,(i:Int)),λi j _ _ z=>?_,λi H3 U k3 t3 R hR=>?_,λH5 l d k5 t5 nl N b0 h5=>⟨l,rfl,⟨_,SqL.of h5⟩,?_⟩⟩
 ·have:=congrArg Prod.snd z;simp only at this;omega
 ·refine⟨_,rfl,_,rfl,da,_,_,_,rfl,rfl,SqL.of (k3.lst a4),yT (aKe U),_,rfl,z2,λp hp=>hR p _ (yE hp _).t ?_ yB⟩;rcases t3 with t|⟨_,t,_⟩
  ·rw[yJ (yI t hp)]
  ·rw[yJ (yI t hp)]
 ·have hm:∀i∈d,i<n:=λi U=>cQ5.mp (N.mem_iff.mp U);have kk:zI H0 H5:=Y.t.trans k5;have nr:∀b o,H0 b=some o->b∉g:=λb o e z=>by rw[(v b z).2.1]at e;cases e
  have r5:∀b∈g,H5 b=some (.lst []):=λb y=>k5.lst (v b y).1;have nT:Tb∉g:=λz=>by
   have e:=r5 _ z;rcases t5 with t|⟨_,t,_⟩
   ·rw[t]at e;cases e
   ·rw[t]at e;cases e
  have b1:l∉g:=λz=>by rw[(v l z).1]at nl;cases nl
  have a0:a∉g:=λz=>(v a z).2.2 rfl;have a3:H5 a=some (.lst (g.map V.ref)):=k5.lst hD;refine zS (xs:=d.map λi=>V.int (i:Nat)) (λt σ H=>∃lt,σ= [some (.ref O),some (.ref da),some (.ref a),lt]/\(∀b o,H5 b=some o->b∉g->H b=some o)/\
   ∀j b,g[j]? =some b->H b=some (.lst (((d.take t).filter λi=>decide (L i=some j)).map λi=>V.int (i:Nat)))) ?_ ?_ ?_ ?_
  ·exact⟨none,rfl,λb o e _=>e,λj b y=>r5 b (cQP y)⟩
  ·rintro t σ H ht ⟨lt,rfl,m,B⟩;exact SqL.of (m _ _ h5 b1)
  ·rintro t x σ H S ⟨lt,rfl,m,B⟩;rw[cQR]at S;cases he:d[t]? with
   |none=>rw[he]at S;cases S
   |some i=>
    rw[he]at S;cases S;have U:=hm i (cQP he);have a6:d.take (t+1)=d.take t++ [i]:=by rw[cXx,he];rfl
    have I:H O=some (.lst (jB n L)):=m _ _ (kk.lst u) (nr _ _ u);have a8:H a=some (.lst (g.map V.ref)):=m _ _ a3 a0;dsimp only[yW];refine⟨_,rfl,_,rfl,O,_,_,_,rfl,rfl,SqL.of I,yT (qU U),rfl,_,rfl,?_⟩;cases hl:L i with
    |none=>
     refine onF rfl ⟨_,rfl,m,λj b y=>?_⟩;rw[B j b y,a6,cXK];have: [i].filter (λi=>decide (L i=some j))= []:=by simp[hl]
     rw[this,cXC]
    |some j=>
     obtain⟨hj,_⟩:=ho.lt i j U hl;have M:j<g.length:=by omega
     have y:=cQw M;have a7:=B j _ y;refine onT rfl ?_;refine⟨_,rfl,_,rfl,_,rfl,O,_,_,_,rfl,rfl,SqL.of I,yT (qU U),?_⟩;rw[hl];refine⟨a,_,_,.ref g[j],rfl,rfl,SqL.of a8,yT (by rw[cQR,y];rfl),.inl ⟨rfl,_,SqL.of a7⟩,_,rfl,g[j],_,_,rfl,rfl,a7,zlt ?_,_,rfl,λb o e a1=>?_,λX b r=>?_⟩
     ·rw[cQB];have:=cXu (λi=>decide (L i=some j)) (d.take t);have h3:=List.length_take_le t d;have h4:d.length=n:=by rw[N.length_eq,cXp]
      have h5:(d.take t).length<=d.length:=by rw[cXH];omega
      omega
     ·rw[yJ (λz=>a1 (by rw[z];exact cZk M))];exact m b o e a1
     ·rw[a6,cXK];by_cases J:X=j
      ·subst J;rw[y]at r;cases r;rw[yB];have: [i].filter (λi=>decide (L i=some X))= [i]:=by simp[hl]
       rw[this,cXU];rfl
      ·have b5:b≠g[j]:=λz=>by
        have h6:X<g.length:=(cQK.mp r).1;have h7:g[X]=b:=(cQK.mp r).2;exact J ((cZs (h₀:=h6) (h₁:=M) nd).mp (h7.trans z))
       rw[yJ b5,B X b r];have: [i].filter (λi=>decide (L i=some X))= []:=by simp[hl,cXg J]
       rw[this,cXC]
  ·rintro σ H ⟨lt,rfl,m,B⟩;rw[cQB,cXs]at B;refine⟨_,rfl,q H a g (λj=>d.filter λi=>decide (L i=some j)) (λb o nt e=>m b o (kk b o nt e) (nr b o e)) ?_ (m _ _ a3 a0) a5 B ⟨λj i=>?_,λj=>?_⟩⟩
   ·rcases t5 with t|⟨c',t1,t2⟩
    ·exact .inl (m _ _ t nT)
    ·exact .inr ⟨c',m _ _ t1 nT,m _ _ t2 λz=>by rw[r5 _ z]at t2;cases t2⟩
   ·rw[cXA,N.mem_iff,cQ5,decide_eq_true_eq]
   ·exact(b0.imp λh=>by simpa using h).sublist cZp
end
def aKo{n:Nat}{L:Nat->Option Nat}{D:Nat->Int}{a:Nat->List Nat}(h:bY1 n L D a)(j:Nat):(a j).length<=n:=
 Fm.vP ((h.ord j).imp λ{x y} e z=>by rw[z,Stree.vW]at e;cases e) λx b=>((h.mem j x).mp b).1
def bKe{n:Nat}{L:Nat->Option Nat}{D:Nat->Int}{rk:Nat->Nat}{a:Nat}{b nx:List Nat}(W:Fm.aJ5 n L D rk a b nx):nx.length<=n:=
 Fm.vP (W.aa.imp λ{x y} e z=>by have:=e x (List.prefix_refl _);rw[z,Stree.vX]at this;cases this) λx c=>(W.al x c).1
section
variable {K:cQz}
def bXo:yO ["links","dates","number","answers","told","ahead","letter"] ["links","dates","number"] (yH aVR):=scM
def bQy(T:uJ mg)(g:FnG P w K mg base 2 "answers_to_each" ["links","dates"] (bW5 Tb))(p:FnG P w K mg base 2 "top_of" ["links","number"] (bYi K))(F:Fun K "thread" "thread" aVR f fd): xL P w K mg base CX0 3 f fd ["links","dates","number"] (aWV Tb):=by
 have sc:=bXo;refine F.ok (k:=2) sc (λa5 A outer s H0 vs Q E hr h=>?_);obtain⟨la,da,n,L,y,D,i,rfl,a0,a2,ho,hn,hi,hT,q⟩:=h;refine⟨_,(yC (yU (i:=3) (xU g hr rfl (yA (pv 0) (yA (pv 1) yD)))) (yC (yU (i:=4) (xB yD)) (yC (yU (i:=5) (xB (yA (xU p hr rfl (yA (pv 0) (yA (pv 2) yD))) yD))) (yC (jO cXo (yM aXY (yR yN rfl T.b_len xG (yA (pv 5) yD)) yG) (yC (yU (i:=6) (bQF cQ3 cVs cVt bQd (pv 5))) (yC (yZ (jC cQ3 cXc cXd xR (pv 4) (yA (pv 6) yD))) (yF (yZ (jC cQ3 PySem.F.slot_list_extend PySem.F.type_list_extend bQc (pv 5) (yA (yL yK (pv 3) (pv 6)) yD))))))) (yF (yP (pv 4))))))),?_⟩;refine⟨_,rfl,_,rfl,la,da,n,L,y,D,rfl,a0,a2,ho,hn,hT,λO a rs kd k1 t1 ha a6 a1 hk=>?_⟩;dsimp only[yW];refine⟨z0,λx J=>?_⟩;dsimp only[yW];have k2:=yE J (.lst []);refine⟨_,rfl,_,rfl,la,n,L,y,i,rfl,SqL.of (k2 _ _ (k1.lst a0)),ho,hi,z1,λo G=>?_⟩;dsimp only[yW];have X:O o=none:=k2.fresh G;have B:x≠o:=yI yB G;have k3:xJ O (upd (upd O x (.lst [])) o (.lst [V.int (Fm.tp L y i:Nat)])):=k2.trans (yE G _);refine⟨λm σ H=>∃ (c I:List Nat)(lt:Option V),σ= [some (.ref la),some (.ref da),some (.int (i:Nat)),some (.ref a),some (.ref x),some (.ref o),lt]/\xJ O H/\H x=some (.lst (c.map λi=>V.int (i:Nat)))/\
   H o=some (.lst (I.map λi=>V.int (i:Nat)))/\Fm.aJ5 n L D y (Fm.tp L y i) c I.reverse/\m=n - c.length,
  ⟨n,[],[Fm.tp L y i],none,rfl,k3,by rw[yJ B];exact yB,yB,Fm.aJ5.start ho hi,by simp⟩,?_⟩
 rintro m σ H ⟨c,I,lt,rfl,r,Z,C,W,rfl⟩;refine⟨_,rfl,o,_,rfl,.inl (SqL.of C),_,_,rfl,rfl,_,rfl,?_⟩;rcases List.eq_nil_or_concat I with rfl|⟨d,v,rfl⟩
 ·refine onF rfl ⟨_,rfl,q H x c (λb u n e=>yI (k1 b u n e) J) (k1.trans r.t) ?_ Z W.tt λk=>W.done k⟩;rcases t1 with t|⟨c',t1,t2⟩
  ·exact .inl (r _ _ t)
  ·exact .inr ⟨c',r _ _ t1,r _ _ t2⟩
 ·rw[List.concat_eq_append]at C W ⊢;have R:decide ((((d++ [v]).map λi=>V.int (i:Nat)).length:Int) > 0)=true:=by
   refine decide_eq_true ?_;rw[cQB,cQ0,cXL];omega
  refine onT R ⟨λU H'=>∃m',m'<n - c.length/\∃ (c I:List Nat)(lt:Option V),U= [some (.ref la),some (.ref da),some (.int (i:Nat)),some (.ref a),some (.ref x),some (.ref o),lt]/\xJ O H'/\H' x=some (.lst (c.map λi=>V.int (i:Nat)))/\
   H' o=some (.lst (I.map λi=>V.int (i:Nat)))/\Fm.aJ5 n L D y (Fm.tp L y i) c I.reverse/\m'=n - c.length,λU H' z=>z,?_⟩
  have N:((d++ [v]).map λi=>V.int (i:Nat))[((d++ [v]).map λi=>V.int (i:Nat)).length - 1]? =some (V.int (v:Nat)):=by simp
  have M:((d++ [v]).map λi=>V.int (i:Nat)).dropLast=d.map λi=>V.int (i:Nat):=by simp
  refine⟨_,rfl,.inl ⟨rfl,_,SqL.of C⟩,o,_,_,rfl,rfl,C,N,?_⟩;rw[M];dsimp only[yW];have W':Fm.aJ5 n L D y (Fm.tp L y i) c (v::d.reverse):=by
   have:(d++ [v]).reverse=v::d.reverse:=by simp
   rw[this]at W;exact W
  have hv:=(W'.al v cQM).1;have W2:=W'.step ho (vF:=(kd v).reverse) (λj=>by rw[List.mem_reverse];exact hk.mem v j) (by rw[List.pairwise_reverse];exact hk.ord v);have l1:=W'.len;have l2:=bKe W';have l3:=aKo hk v;have l4:=W2.len;rw[cXy,List.length_reverse]at l2;rw[cQ0,cXL]at l4;have S:upd H o (.lst (d.map λi=>V.int (i:Nat))) x=some (.lst (c.map λi=>V.int (i:Nat))):=by rw[yJ B];exact Z
  show aV7 _ _ _ _;refine⟨_,rfl,.inl ⟨rfl,_,SqL.of S⟩,_,rfl,x,_,_,rfl,rfl,S,zlt (by rw[cQB];omega),?_⟩;have Y:upd (upd H o (.lst (d.map λi=>V.int (i:Nat)))) x (.lst ((c.map λi=>V.int (i:Nat))++ [V.int (v:Nat)])) o=some (.lst (d.map λi=>V.int (i:Nat))):=by rw[yJ (cXg B)];exact yB
  have k6:xJ O (upd (upd H o (.lst (d.map λi=>V.int (i:Nat)))) x (.lst ((c.map λi=>V.int (i:Nat))++ [V.int (v:Nat)]))):=zZ (zZ r X) J;have a4:v<rs.length:=by omega
  have hb:=cQw a4;have a3:=k6 _ _ (a1 v _ hb);refine⟨_,rfl,.inl ⟨rfl,_,SqL.of Y⟩,_,rfl,_,rfl,a,_,_,.ref rs[v],rfl,rfl,SqL.of (k6 _ _ ha),yT (by rw[cQR,hb];rfl),o,rs[v],_,_,rfl,rfl,Y,a3,zn (l:=(d.map λi=>V.int (i:Nat))++((kd v).map λi=>V.int (i:Nat))) (by rw[cQ0,cQB,cQB];omega) |> λz=>by rw[cQ0]at z;exact z,?_⟩;refine⟨n - (c.length+1),by omega,c++ [v],d++kd v,some (.int (v:Nat)),rfl,zZ k6 X,?_,?_,?_,by rw[cQ0,cXL]⟩
  ·rw[yJ B,yB,cXU];rfl
  ·rw[yB,cXU]
  ·rw[List.reverse_append];exact W2
end
end Thr
namespace Desk
open PySem L2 PyProof.Rows
open Bk (Row Rows)
def aJo(x:Str):Stmt->Bool
 |.FunctionDef n _ _ _ _ _ _ _ _ _=>n==x
 |_=>false
def bYM(x:Str):Stmt->Bool
 |.ClassDef n _ _ _ _ _ _ _ _ _ _=>n==x
 |_=>false
def bVF:Stmt->List Stmt
 |.ClassDef _ _ _ b _ _ _ _ _ _ _=>b
 |_=> []
abbrev text:List Stmt:=PySem.Challenge.pw_letterdesk_k09_whole_files.main.body
def xM(x:Str):Stmt:=(text.find? (aJo x)).getD (.Pass ⟨0,0,0,0⟩)
def xQ(c m:Str):Stmt:=((bVF ((text.find? (bYM c)).getD (.Pass ⟨0,0,0,0⟩))).find? (aJo m)).getD (.Pass ⟨0,0,0,0⟩)
def xG:cXj "len"=some (.builtin "len"):=dk
def wW:cXj "sorted"=some (.builtin "sorted"):=dk
def wK:cXj "list"=some (.type "list"):=dk
structure uJ(mg:Str->Option cQx):Prop where
 b_len:mg "len"=none
 b_sorted:mg "sorted"=none
 b_list:mg "list"=none
structure Cl(K:cQz)(CB CL:Nat):Prop where
 b:Cls K CB
 l:Cls K CL
 letters:vM K CB "letters"
 shut:vM K CB "shut"
 number:vM K CL "number"
 way:vM K CL "way"
 day:vM K CL "day"
 partner:vM K CL "partner"
 term:vM K CL "term"
 link:vM K CL "link"
 file:vM K CL "file"
 copies:vM K CL "copies"
 void:vM K CL "void"
abbrev zV:Option Nat->V:=Thr.zV
def aQr(r:Row):Int:=if r.void then 0 else r.term
def W4(r:Row):V:=if r.void then .non else .str r.place
def aJw(i:Nat)(r:Row)(c:Nat):List (Str×V):=
 [("number",.int (i:Nat)),("way",.str r.way),("day",.int r.date),("partner",.str r.partner),("term",.int (aQr r)),("link",zV r.link),("file",W4 r),("copies",.ref c),("void",.bl r.void)]
def aW4(CL:Nat)(H:Hp)(b:Nat)(i:Nat)(r:Row)(c:Nat):Prop:=∃a,H b=some (.ins CL a (aJw i r c))
def stV(r:Row):List V:= [.str r.way,.int r.date,.str r.partner,.int (aQr r),zV r.link,W4 r]
def bXB(CL:Nat):Sp:=λh H Q _=>∃ (x g:Nat)(i:Nat)(e:Str)(d:Int)(a:Str)(t:Int),h= [.ref x,.int (i:Nat),.str e,.int d,.str a,.int t]/\H x=some (.ins CL g [])/\
 ∀ (c:Nat)(f:Hp),H c=none->f x=some (.ins CL g (aJw i ⟨e,d,a,t,none,"",false,[]⟩ c))->f c=some (.lst [])->(∀b,b≠x->b≠c->f b=H b)->Q .non f
def aV6(CL:Nat):Sp:=λa H Q _=>∃ (b:Nat)(i:Nat)(r:Row)(c:Nat),a= [.ref b]/\aW4 CL H b i r c/\∀t,H t=none->Q (.ref t) (upd H t (.tup (stV r)))
def bXv(CL:Nat):Sp:=λe H Q _=>∃ (b d:Nat)(i j:Nat)(r a:Row)(c f:Nat),e= [.ref b,.ref d]/\aW4 CL H b i r c/\aW4 CL H d j a f/\Q (.bl (decide (a.link=some i))) H
def bVi(CL:Nat):Sp:=λd H Q _=>∃ (b:Nat)(i:Nat)(r:Row)(c:Nat)(a:Str),d= [.ref b,.str a]/\aW4 CL H b i r c/\H c=some (.lst (r.copies.map V.str))/\Q (.bl (decide (a=r.partner) || r.copies.contains a)) H
def bVp(CL:Nat):Sp:=λd H Q _=>∃ (b a:Nat)(i:Nat)(r:Row)(c:Nat),d= [.ref b]/\H b=some (.ins CL a (aJw i r c))/\Q .non (upd H b (.ins CL a (aJw i {r with link:=none,void:=true} c)))
def bXD:Sp:=λa H Q _=>∃way:Str,a= [.str way]/\Q (.str (Bk.Y4 way)) H
section
variable {K:cQz}
abbrev bQ0:Stmt:=xQ "Letter" "__init__"
abbrev bQ5:Stmt:=xQ "Letter" "state"
abbrev bQS:Stmt:=xQ "Letter" "is_answered_by"
abbrev bWB:Stmt:=xQ "Letter" "has_gone_to"
abbrev bWL:Stmt:=xQ "Letter" "make_void"
abbrev bQ1:Stmt:=xM "other_way"
def bJq:yO ["self","number","way","day","partner","term"] ["self","number","way","day","partner","term"] (yH bQ0):=scM
def bZO(T:Cl K CB CL)(F:Fun K "__init__" "Letter.__init__" bQ0 f fd):xL P w K mg base CX0 (n+1) f fd ["self","number","way","day","partner","term"] (bXB CL):=by
 have p:=bJq;refine F.ok (k:=n) p (λy A outer s H z Q E B h=>?_);obtain⟨x,e,i,r,d,u,t,rfl,v,q⟩:=h;refine⟨_,(yC (wJ (pv 0) (pv 1) rfl) (yC (wJ (pv 0) (pv 2) rfl) (yC (wJ (pv 0) (pv 3) rfl) (yC (wJ (pv 0) (pv 4) rfl) (yC (wJ (pv 0) (pv 5) rfl) (yC (wJ (pv 0) zL rfl) (yC (wJ (pv 0) yQ rfl) (yC (wJ (pv 0) (xB yD) rfl) (yF (wJ (pv 0) vQ rfl)))))))))),?_⟩;refine⟨_,rfl,_,rfl,x,CL,e,_,rfl,v,T.l,T.number,(show 0<1000 by decide),?_⟩;refine⟨_,rfl,_,rfl,x,CL,e,_,rfl,yB,T.l,T.way,(show 1<1000 by decide),?_⟩;refine⟨_,rfl,_,rfl,x,CL,e,_,rfl,yB,T.l,T.day,(show 2<1000 by decide),?_⟩;refine⟨_,rfl,_,rfl,x,CL,e,_,rfl,yB,T.l,T.partner,(show 3<1000 by decide),?_⟩;refine⟨_,rfl,_,rfl,x,CL,e,_,rfl,yB,T.l,T.term,(show 4<1000 by decide),?_⟩;refine⟨_,rfl,x,CL,e,_,rfl,yB,T.l,T.link,(show 5<1000 by decide),?_⟩;refine⟨_,rfl,x,CL,e,_,rfl,yB,T.l,T.file,(show 6<1000 by decide),?_⟩;refine⟨z0,λc g=>?_⟩;have a:x≠c:=yI yB g;refine⟨_,rfl,x,CL,e,_,rfl,(yJ a).trans yB,T.l,T.copies,(show 7<1000 by decide),?_⟩;refine⟨_,rfl,x,CL,e,_,rfl,yB,T.l,T.void,(show 8<1000 by decide),?_⟩;have j:H c=none:=by simp only[yJ (cXg a)]at g;exact g
 refine q c _ j yB (by rw[yJ (cXg a),yJ (cXg a),yB]) λb o m=>?_;simp only[yJ o,yJ m]
def bJv:yO ["self"] ["self"] (yH bQ5):=scM
def bZT(T:Cl K CB CL)(F:Fun K "state" "Letter.state" bQ5 f fd):xL P w K mg base CX0 (n+1) f fd ["self"] (aV6 CL):=by
 have g:=bJv;refine F.ok (k:=n) g (λj A outer s H m Q E o h=>?_);obtain⟨b,i,r,c,rfl,⟨a,d⟩,q⟩:=h;refine⟨_,(yF (yP (xK (yA (xC (pv 0) rfl) (yA (xC (pv 0) rfl) (yA (xC (pv 0) rfl) (yA (xC (pv 0) rfl) (yA (xC (pv 0) rfl) (yA (xC (pv 0) rfl) yD))))))))),?_⟩;refine⟨_,rfl,b,CL,a,_,_,rfl,d,T.l,T.way,rfl,?_⟩;refine⟨_,rfl,b,CL,a,_,_,rfl,d,T.l,T.day,rfl,?_⟩;refine⟨_,rfl,b,CL,a,_,_,rfl,d,T.l,T.partner,rfl,?_⟩;refine⟨_,rfl,b,CL,a,_,_,rfl,d,T.l,T.term,rfl,?_⟩;refine⟨_,rfl,b,CL,a,_,_,rfl,d,T.l,T.link,rfl,?_⟩;refine⟨_,rfl,b,CL,a,_,_,rfl,d,T.l,T.file,rfl,?_⟩;exact⟨by show 6<=cQW;decide,λt e=>q t e⟩
def aVi{o:Option Nat}{m:Nat}:decide (zV o=V.int (m:Nat))=decide (o=some m):=by
 cases o with
 |none=>rfl
 |some j=>show decide (V.int (j:Nat)=V.int (m:Nat))=decide (some j=some m);rw[Bool.eq_iff_iff];simp;omega
def bJh:yO ["self","other"] ["self","other"] (yH bQS):=scM
def bZF(T:Cl K CB CL)(F:Fun K "is_answered_by" "Letter.is_answered_by" bQS f fd):xL P w K mg base CX0 (n+1) f fd ["self","other"] (bXv CL):=by
 have m:=bJh;refine F.ok (k:=n) m (λt A outer s H v Q E x h=>?_);obtain⟨b,o,i,j,r,e,c,u,rfl,⟨g,p⟩,⟨d,a⟩,q⟩:=h;refine⟨_,(yF (yP (wL zR (xC (pv 1) rfl) (xC (pv 0) rfl)))),?_⟩;refine⟨_,rfl,o,CL,d,_,_,rfl,a,T.l,T.link,rfl,?_⟩;refine⟨_,rfl,b,CL,g,_,_,rfl,p,T.l,T.number,rfl,?_⟩;rw[<- aVi]at q;refine⟨?_,q⟩;cases e.link<;> rfl
def vU(x:Str):∀ns:List Str,inV (.str x) (ns.map V.str)=ns.contains x
 |[]=>rfl
 |n::r=>by have a:=vU x r;unfold inV at a ⊢;rw[cXb,cZP,a,cZY];congr 1;show(n==x)=(x==n);rw[Bool.eq_iff_iff,beq_iff_eq,beq_iff_eq];exact eq_comm
def aJj:∀ns:List Str,(ns.map V.str).all aQK=true
 |[]=>rfl
 |n::r=>by rw[cXb,cJV,aJj r];rfl
def bWP:yO ["self","person"] ["self","person"] (yH bWB):=scM
def bWc(T:Cl K CB CL)(F:Fun K "has_gone_to" "Letter.has_gone_to" bWB f fd):xL P w K mg base CX0 (n+1) f fd ["self","person"] (bVi CL):=by
 have m:=bWP;refine F.ok (k:=n) m (λp A outer s H t Q E u h=>?_);obtain⟨b,i,r,c,a,rfl,⟨e,g⟩,j,q⟩:=h;refine⟨_,(yF (yP (bKV (wL zR (pv 1) (xC (pv 0) rfl)) (aJF (wL uE (pv 1) (xC (pv 0) rfl)))))),?_⟩;refine⟨_,rfl,_,rfl,b,CL,e,_,_,rfl,g,T.l,T.partner,rfl,rfl,?_⟩;have o:decide (V.str a=V.str r.partner)=decide (a=r.partner):=by rw[Bool.eq_iff_iff];simp
 refine⟨_,rfl,?_⟩;rw[o];cases d:decide (a=r.partner)with
 |true=>rw[d,Bool.true_or]at q;exact onT rfl q
 |false=>rw[d,Bool.false_or]at q;refine onF rfl ⟨_,rfl,_,rfl,b,CL,e,_,_,rfl,g,T.l,T.copies,rfl,c,_,rfl,.inl (SqL.of j),rfl,aJj _,?_⟩;rw[if_neg (by decide),vU];exact q
def bW0:yO ["self"] ["self"] (yH bWL):=scM
def bWo(T:Cl K CB CL)(F:Fun K "make_void" "Letter.make_void" bWL f fd):xL P w K mg base CX0 (n+1) f fd ["self"] (bVp CL):=by
 have d:=bW0;refine F.ok (k:=n) d (λg A outer s H j Q E m h=>?_);obtain⟨b,a,i,r,c,rfl,e,q⟩:=h;refine⟨_,(yC (wJ (pv 0) vQ rfl) (yC (wJ (pv 0) zL rfl) (yC (wJ (pv 0) zL rfl) (yF (wJ (pv 0) yG rfl))))),?_⟩;refine⟨_,rfl,b,CL,a,_,rfl,e,T.l,T.void,(show 9<1000 by decide),?_⟩;refine⟨_,rfl,b,CL,a,_,rfl,yB,T.l,T.link,(show 9<1000 by decide),?_⟩;refine⟨_,rfl,b,CL,a,_,rfl,yB,T.l,T.file,(show 9<1000 by decide),?_⟩;refine⟨_,rfl,b,CL,a,_,rfl,yB,T.l,T.term,(show 9<1000 by decide),?_⟩;rw[qM,qM,qM];exact q
def bJr:yO ["way"] ["way"] (yH bQ1):=scM
def bZP(F:Fun K "other_way" "other_way" bQ1 f fd):xL P w K mg base CX0 (n+1) f fd ["way"] bXD:=by
 have c:=bJr;refine F.ok (k:=n) c (λd A outer s H e Q E g h=>?_);obtain⟨a,rfl,q⟩:=h;refine⟨_,(yF (yP (aWx (yM zR (pv 0) yQ) yQ yQ))),?_⟩;unfold Bk.Y4 at q;have b:decide (V.str a=V.str "in")=decide (a="in"):=by rw[Bool.eq_iff_iff];simp
 refine⟨_,rfl,rfl,_,rfl,?_⟩;rw[b];by_cases hw:a="in"
 ·rw[if_pos hw]at q;exact onT (decide_eq_true hw) q
 ·rw[if_neg hw]at q;exact onF (decide_eq_false hw) q
end
end Desk
namespace L2
open PySem PySem.Spec PyProof.Rows
section
variable {κ:Type} [DecidableEq κ]
def aQW(kvs:List (κ×V))(k:κ):Option V:=(kvs.find? λa=>decide (a.1=k)).map (·.2)
def aVF(kvs:List (κ×V))(k:κ)(v:V):List (κ×V):=
 if(kvs.any λa=>decide (a.1=k))=true then kvs.map (λa=>if a.1=k then(a.1,v)else a)else kvs++ [(k,v)]
def vD{p:κ×V}{r:List (κ×V)}{k:κ}(e:p.1=k):aQW (p::r) k=some p.2:=by simp[aQW,cZ1,e]
def vC{p:κ×V}{r:List (κ×V)}{k:κ}(e:¬p.1=k):aQW (p::r) k=aQW r k:=by simp[aQW,cZ1,e]
def aQX(k:κ):∀kvs:List (κ×V),(kvs.any λa=>decide (a.1=k))=(aQW kvs k).isSome
 |[]=>rfl
 |p::r=>by
  rw[cZP];by_cases e:p.1=k
  ·simp only[vD e,decide_eq_true e,Bool.true_or,Option.isSome_some]
  ·rw[vC e,decide_eq_false e,Bool.false_or];exact aQX k r
def aW1(k j:κ)(y:V):∀kvs:List (κ×V),aQW (kvs.map λa=>if a.1=k then(a.1,y)else a) j=(aQW kvs j).map λx=>if j=k then y else x
 |[]=>rfl
 |p::r=>by
  have b:=aW1 k j y r;rw[cXb];by_cases h:p.1=k
  ·rw[if_pos h];by_cases e:p.1=j
   ·rw[vD (p:=(p.1,y)) e,vD e,Option.map_some,if_pos (e.symm.trans h)]
   ·rw[vC (p:=(p.1,y)) e,vC e,b]
  ·rw[if_neg h];by_cases e:p.1=j
   ·rw[vD (p:=p) e,vD e,Option.map_some,if_neg (λz=>h (e.trans z))]
   ·rw[vC (p:=p) e,vC e,b]
def aJ3(k j:κ)(y:V):∀kvs:List (κ×V),aQW kvs k=none->aQW (kvs++ [(k,y)]) j=if j=k then some y else aQW kvs j
 |[],_=>by
  by_cases e:k=j
  ·rw[if_pos e.symm];exact vD (p:=(k,y)) e
  ·rw[if_neg (λz=>e z.symm)];exact vC (p:=(k,y)) e
 |p::r,hn=>by
  rw[cVn];have a:¬p.1=k:=λz=>by rw[vD z]at hn;cases hn
  rw[vC a]at hn;have b:=aJ3 k j y r hn;by_cases e:p.1=j
  ·rw[vD e,vD e,if_neg (λz=>a (e.trans z))]
  ·rw[vC e,vC e,b]
def bJR(kvs:List (κ×V))(k j:κ)(y:V):aQW (aVF kvs k y) j=if j=k then some y else aQW kvs j:=by
 unfold aVF;by_cases a:(kvs.any λb=>decide (b.1=k))=true
 ·rw[if_pos a,aW1];rw[aQX]at a;by_cases e:j=k
  ·obtain⟨x,c⟩:=Option.isSome_iff_exists.mp a;rw[if_pos e,e,c,Option.map_some,if_pos rfl]
  ·rw[if_neg e];cases aQW kvs j with
   |none=>rfl
   |some x=>rw[Option.map_some,if_neg e]
 ·rw[if_neg a];refine aJ3 k j y kvs ?_;rw[aQX]at a;cases q:aQW kvs k with
  |none=>rfl
  |some x=>rw[q]at a;exact(a rfl).elim
def X5(kvs:List (κ×V))(k:κ)(v:V):(aVF kvs k v).length<=kvs.length+1:=by
 unfold aVF;split
 ·rw[cQB];omega
 ·rw[cQ0,cXy,cZI];omega
def aZ5.isSome_eq{o:Option V}{u:Option cQx}(r:aZ5 o u):o.isSome=u.isSome:=by
 cases o with
 |none=>cases u with
  |none=>rfl
  |some _=>exact(show False from r).elim
 |some _=>cases u with
  |none=>exact(show False from r).elim
  |some _=>rfl
def KV.val{kvs:List (κ×V)}{vs:List (κ×cQx)}(r:KV kvs vs)(k:κ):aZ5 (aQW kvs k) (cJ3 vs k):=by
 unfold KV at r;induction r with
 |nil=>exact cXQ
 |@cons p q i c h t g=>
  obtain⟨d,f⟩:=h;by_cases e:p.1=k
  ·have a:q.1=k:=d.symm.trans e;have b:cJ3 (q::c) k=some q.2:=by simp[cJ3,cZ1,a]
   rw[vD e,b];exact f
  ·have a:¬q.1=k:=λz=>e (d.trans z);have b:cJ3 (q::c) k=cJ3 c k:=by simp[cJ3,cZ1,a]
   rw[vC e,b];exact g
def KV.any{kvs:List (κ×V)}{vs:List (κ×cQx)}(r:KV kvs vs)(k:κ):(kvs.any λa=>decide (a.1=k))=vs.any λa=>decide (a.1=k):=by
 unfold KV at r;induction r with
 |nil=>rfl
 |cons h t b=>rw[cZP,cZP,b,h.1]
def KV.repl{kvs:List (κ×V)}{vs:List (κ×cQx)}(r:KV kvs vs)(k:κ){y:V}{u:cQx}(d:wE y u): KV (kvs.map λa=>if a.1=k then(a.1,y)else a) (vs.map λa=>if a.1=k then(a.1,u)else a):=by
 unfold KV at r ⊢;induction r with
 |nil=>exact .nil
 |@cons p q i g h t f=>
  rw[cXb,cXb];refine .cons ?_ f;obtain⟨b,c⟩:=h;by_cases e:p.1=k
  ·rw[if_pos e,if_pos (b.symm.trans e)];exact⟨b,d⟩
  ·rw[if_neg e,if_neg (λz=>e (b.trans z))];exact⟨b,c⟩
def KV.put{kvs:List (κ×V)}{vs:List (κ×cQx)}(r:KV kvs vs)(k:κ){y:V}{u:cQx}(a:wE y u):KV (aVF kvs k y) (stored vs k u):=by
 unfold aVF stored;rw[r.any k];by_cases e:(vs.any λb=>decide (b.1=k))=true
 ·rw[if_pos e,if_pos e];exact r.repl k a
 ·rw[if_neg e,if_neg e];exact cVj r ⟨rfl,a⟩
def KV.length{kvs:List (κ×V)}{vs:List (κ×cQx)}(r:KV kvs vs):kvs.length=vs.length:=cZE r
end
def bZk{P:cQT}{w:cQ2}{k:Key}{u:cQx}(r:wE (kV k) u):(zP P w).is k u=true:=by
 cases k with
 |inl i=>obtain⟨t,e⟩:=(show ∃t,u=Value.int i t from r);subst e;exact aVp P w i t
 |inr x=>obtain⟨t,e⟩:=(show ∃t,u=Value.str x t from r);subst e;exact X6 P w x t
def aJq{P:cQT}{w:cQ2}:∀ {a:List Key} {us:List cQx},zD (a.map kV) us->ItemsAre (zP P w) a us
 |[],_,r=>by rw[List.map_nil]at r;cases r;exact .nil
 |k::a,_,r=>by
  rw[cXb]at r;cases r with
  |cons h t=>exact .cons (bZk h) (aJq t)
abbrev KT(H:Hp):List (List Key×V)->List (List Key×Addr×cQx)->Prop:=cXn λp q=>p.1=q.1/\H q.2.1=some (.tup (p.1.map kV))/\wE p.2 q.2.2
def KT.val{H:Hp}{kvs:List (List Key×V)}{xs:List (List Key×Addr×cQx)}(r:KT H kvs xs)(k:List Key):aZ5 (aQW kvs k) ((atKey xs k).map (·.2)):=by
 induction r with
 |nil=>exact cXQ
 |@cons p q i c h t g=>
  obtain⟨d,_,f⟩:=h;by_cases e:p.1=k
  ·have a:q.1=k:=d.symm.trans e;have b:atKey (q::c) k=some q.2:=by simp[atKey,cZ1,a]
   rw[vD e,b];exact f
  ·have a:¬q.1=k:=λz=>e (d.trans z);have b:atKey (q::c) k=atKey c k:=by simp[atKey,cZ1,a]
   rw[vC e,b];exact g
def KT.repl{H:Hp}{kvs:List (List Key×V)}{xs:List (List Key×Addr×cQx)}(r:KT H kvs xs)(k:List Key){y:V}{u:cQx}(f:wE y u): KT H (kvs.map λb=>if b.1=k then(b.1,y)else b) (xs.map (putAt k u)):=by
 induction r with
 |nil=>exact .nil
 |@cons p q j i h t g=>
  rw[cXb,cXb];refine .cons ?_ g;obtain⟨a,c,d⟩:=h;unfold putAt;by_cases e:p.1=k
  ·rw[if_pos e,if_pos (a.symm.trans e)];exact⟨a,c,f⟩
  ·rw[if_neg e,if_neg (λz=>e (a.trans z))];exact⟨a,c,d⟩
def KT.put{H:Hp}{kvs:List (List Key×V)}{xs:List (List Key×Addr×cQx)}(r:KT H kvs xs)(k:List Key){b:Addr}{y:V}{u:cQx}(c:H b=some (.tup (k.map kV)))(a:wE y u): KT H (aVF kvs k y) (storedH xs k b u):=by
 have e:(kvs.any λd=>decide (d.1=k))=(atKey xs k).isSome:=by rw[aQX,(r.val k).isSome_eq,Option.isSome_map]
 unfold aVF storedH;rw[e];by_cases q:(atKey xs k).isSome=true
 ·rw[if_pos q,if_pos q];exact r.repl k a
 ·rw[if_neg q,if_neg q];exact cVj r ⟨rfl,c,a⟩
def KT.keeps{H a:Hp}{kvs:List (List Key×V)}{xs:List (List Key×Addr×cQx)}(r:KT H kvs xs)(d:∀b c,H b=some (.tup c)->a b=some (.tup c)):KT a kvs xs:=
 Paired.mapP r λ_ _ z=>⟨z.1,d _ _ z.2.1,z.2.2⟩
section
variable {P:cQT}{w:cQ2}{H:Hp}{h:Heap}{a:Addr}
def bK4{u:HO}(ok:HOk P w H h)(e:Rd H a u):zQ P w H h a u:=e.ok ok
def bKy{kvs:List (Key×V)}(ok:HOk P w H h)(e:Rd H a (.dK kvs)):kvs.length<=cQW/\(a==cJx)=false/\∃b,KV kvs b/\h.DictOf (zP P w) a b:=
 show zQ P w H h a (.dK kvs)from bK4 ok e
def bYI{kvs:List (Key×V)}(ok:HOk P w H h)(e:H a=some (.dK kvs)):kvs.length<=cQW/\(a==cJx)=false/\∃b,KV kvs b/\h.DictOf (zP P w) a b:=bKy ok (.inl e)
def aYZ{c:List Key}(ok:HOk P w H h)(e:H a=some (.tup (c.map kV))):(tupleKind (zP P w)).is h c a:=by
 obtain⟨_,b,r,o,d,f,n,g⟩:=(show zQ P w H h a (.tup (c.map kV))from ok a _ e);exact⟨o,b.toArray,n,d,f,g,by simpa using aJq r⟩
def bKz{kvs:List (List Key×V)}(ok:HOk P w H h)(e:Rd H a (.dT kvs)):kvs.length<=cQW/\(a==cJx)=false/\ ∃c,KT H kvs c/\h.DictOfH (tupleKind (zP P w)) a c:=by
 obtain⟨z,y,c,r,o,j,u,k,f,i,n,g⟩:=(show zQ P w H h a (.dT kvs)from bK4 ok e);refine⟨z,y,c,r,o,j,u,k,f,i,n,λx b=>?_,g⟩;have all:∀ {l:List (List Key×V)} {m:List (List Key×Addr×cQx)},KT H l m->∀x∈m,(tupleKind (zP P w)).is h x.1 x.2.1:=by
  intro l m q;induction q with
  |nil=>intro x b;exact nomatch b
  |@cons p q A v d t s=>
   intro x b;rcases cQG.mp b with e|b
   ·subst e;exact aYZ ok (by rw[<- d.1];exact d.2.1)
   ·exact s x b
 exact all r x b
def uK{kvs:List (List Key×V)}(ok:HOk P w H h)(e:H a=some (.dT kvs)):kvs.length<=cQW/\(a==cJx)=false/\
  ∃b,KT H kvs b/\h.DictOfH (tupleKind (zP P w)) a b:=bKz ok (.inl e)
end
def bKj(H:Hp)(a:Addr)(y:V)(r:Option V):Prop:=
 (∃kvs k,Rd H a (.dK kvs)/\y=kV k/\r=aQW kvs k)\/∃kvs k b,Rd H a (.dT kvs)/\y= .ref b/\H b=some (.tup (k.map kV))/\r=aQW kvs k
def bKk(H:Hp)(a:Addr)(y v:V)(c:Hp):Prop:=
 (∃kvs k,H a=some (.dK kvs)/\y=kV k/\kvs.length<cQW/\c=upd H a (.dK (aVF kvs k v)))\/
 ∃kvs k b,H a=some (.dT kvs)/\y= .ref b/\H b=some (.tup (k.map kV))/\kvs.length<cQW/\c=upd H a (.dT (aVF kvs k v))
def bKj.k{H:Hp}{a:Addr}{kvs:List (Key×V)}{k:Key}(e:H a=some (.dK kvs)):bKj H a (kV k) (aQW kvs k):= .inl ⟨kvs,k,.inl e,rfl,rfl⟩
def bKk.k{H:Hp}{a:Addr}{kvs:List (Key×V)}{k:Key}{v:V}(e:H a=some (.dK kvs))(hl:kvs.length<cQW):bKk H a (kV k) v (upd H a (.dK (aVF kvs k v))):= .inl ⟨kvs,k,e,rfl,hl,rfl⟩
section
variable {X:Cx}{pins:List (Addr×Obj)}{σ:St}{H:Hp}{s:cQA}{a:Addr}{y v:V}{u r:cQx}{o:Option V}{A:cXi}{E:cQx->cQA->Prop}
def Inv.big(I:Inv X pins σ H s):cJx<s.heap.objs.size:=by
 have h:cQ8<s.heap.objs.size:=(I.mod.glob.keeps I.bk).lt;exact Nat.lt_trans (by decide) h
def bVI{Q:cQx->cQA->Prop}(p:A.units+1<cLine)(I:Inv X pins σ H s)(g:bKj H a y o)(m:wE y u)(h:∀j,Inv X pins σ H j->Q (.bool (!o.isSome)) j): cQF (cQH X.prog X.w) A (cZa .NotIn u (.ref a)) Q E s:=by
 rcases g with⟨kvs,k,e,d,l⟩|⟨kvs,k,b,e,d,n,l⟩
 ·subst d;obtain⟨z,i,t,c,f⟩:=bKy I.hok e;refine wpAny_notIn_of (bZk m) i f.mapOf ?_;rw[<- (c.val k).isSome_eq,<- l];exact h _ (I.tok _)
 ·subst d;cases (show u=Value.ref b from m);obtain⟨z,i,r,c,f⟩:=bKz I.hok e;refine wpAny_notIn_heap (tupleKind_room_in1 p) (aYZ I.hok n) i f ?_;have q:=(c.val k).isSome_eq;rw[Option.isSome_map]at q;rw[<- q,<- l];exact h _ (I.tok _)
def aYD{h':Heap}{t':Nat}{d:HO}(I:Inv X pins σ H s)(i:Mut (H a))(f:cZC a s.heap h')(g:∃q,h'.get? a=some q)(c:zQ X.prog X.w (upd H a d) h' a d): Inv X pins σ (upd H a d) {s with heap:=h',toks:=t'}:=
 I.write (x:=a) (e:=a) i (.inl rfl) (λb q h z=>(f.2 b h).trans z) g c
def bKx{P:cQT}{w:cQ2}{c:Hp}{h':Heap}{kvs:List (Key×V)}{vs:List (Key×cQx)}(z:kvs.length<=cQW)(e:(a==cJx)=false)(b:KV kvs vs)(d:h'.DictOf (zP P w) a vs):
  zQ P w c h' a (.dK kvs):=⟨z,e,vs,b,d⟩
def aYC{D:Hp}{Q:Unit->cQA->Prop}(S:A.units+1<cLine)(I:Inv X pins σ H s)(g:bKk H a y v D)(F:wE y u)(G:wE v r)(h:∀x,Inv X pins σ D x->Q () x): cQF (cQH X.prog X.w) A (setItem (.ref a) u r) Q E s:=by
 rcases g with⟨kvs,k,e,m,l,t⟩|⟨kvs,k,b,e,m,B,l,t⟩
 ·subst m t;obtain⟨z,o,T,d,n⟩:=bYI I.hok e;have p:T.length<=cQW:=by rw[<- d.length];exact z
  have hl:(aVF kvs k v).length<=cQW:=by have:=X5 kvs k v;omega
  refine wpAny_setItem_pairs (hsz:=p) (bZk F) n λC f j=>h _ ?_;have P:∃q,C.get? a=some q:=let ⟨q,_,_,i,_⟩:=f;⟨q,i⟩;exact aYD I (by rw[e];exact cXQ) j P (bKx hl o (d.put k G) f)
 ·subst m t;cases (show u=Value.ref b from F);obtain⟨z,o,K,d,n⟩:=uK I.hok e;have p:K.length<=cQW:=by rw[<- cZE d];exact z
  have hl:(aVF kvs k v).length<=cQW:=by have:=X5 kvs k v;omega
  refine wpAny_setItem_heap (hsz:=p) (tupleKind_room_in1 S) (aYZ I.hok B) n λC f j=>h _ ?_;obtain⟨q,O,U,i,L,N,R,_,M⟩:=f;refine aYD I (by rw[e];exact cXQ) j ⟨q,i⟩ ⟨hl,o,_,(d.put k B G).keeps λc V J=>?_,q,O,U,i,L,N,R,M⟩;rw[yJ (aXU J e (λz=>nomatch z))];exact J
end
section
variable {X:Cx}{pins:List (Addr×Obj)}{σ:St}{H:Hp}{s:cQA}{a:Addr}{kvs:List (Key×V)}{k:Key}{u:cQx}{A:cXi}{E:cQx->cQA->Prop}
end
def bY2(i:Expr):Prop:=∀a b,subscripted i false a b=operate [a,b] (getItem a b)
def bW7{prog:cQT}{w:cQ2}{A:cXi}{E:cQx->cQA->Prop}{s:cQA}{env:Env}{value a:Expr}{pos:Pos}{T id:String}{Q:cQx->cQA->Prop} (hl:typeLookup (.type T) "__getitem__"=pure (some (.builtin id))) (k:bY2 a) (h:cQF (cQH prog w) A (eval value env) (λo d=>cQF (cQH prog w) A (eval a env) (λi b=>b.TypeIs o T/\cQF (cQH prog w) A (getItem o i) Q E b) E d) E s): cQF (cQH prog w) A (eval (.Subscript value a pos) env) Q E s:=by
 refine Subscript_ (cXD h (λo d f=>cXD f (λi b c=>?_) λ_ _ x=>x) λ_ _ x=>x);obtain⟨j,c⟩:=c;unfold subscriptTail;refine cQy ?_;rw[getitemInPython_of_ne j.not_modules];refine cQy (wpAny_specialOf j hl ?_);have fin:cQF (cQH prog w) A (subscripted a false o i) (λr e=>cQF (cQH prog w) A (letTemporaryGo value o r >>=λ_=>pure r) Q E e) E b:=by rw[k o i];exact wpAny_operating (cXD c (λr e g=>cQy (wpAny_letTemporaryGo (cQC g))) λ_ _ x=>x)
 first
  |exact cQC (cQy fin)
  |exact cQy (cQC (cQy fin))
  |exact cQy fin
def bW8(ty td:TE):TE:=λσ H Q=>ty σ H λy c=>td σ c λx b=>∃a o,x= .ref a/\bKj b a y o/\Q (.bl (!o.isSome)) b
def bYT(td ty tv:TE):TS:=λD σ H=>tv σ H λv d=>td σ d λx c=>ty σ c λy e=>∃a b,x= .ref a/\bKk e a y v b/\D.nx σ b
section
variable {X:Cx}{o i e value:Expr}{pos pos' tpos:Pos}{td ty tv:TE}
def bQE(b:X.A.units+1<cLine)(e:PE X i ty)(c:PE X o td):PC X .NotIn i o (bW8 ty td):=by
 intro pins s σ H Q I h;refine thn (e pins s σ H _ I h) λiv s1 ⟨y,H1,I1,ry,q1⟩=>thn (c pins s1 σ H1 _ I1 q1) λu s2 ⟨x,H2,I2,rx,a,ov,ex,g,q2⟩=>?_;subst ex;obtain rfl:u=Value.ref a:=rx;exact bVI b I2 g ry λf d=>⟨.bl (!ov.isSome),H2,d,rfl,q2⟩
def bWu(c:X.A.units+1<cLine)(e:PE X o td)(j:PE X i ty)(f:PE X value tv)(b:swapsWith value (some (.Subscript o i pos')) pos.line X.env=pure false): PS X (.Assign [.Subscript o i pos'] value pos) (bYT td ty tv):=by
 intro pins s σ H D I h;refine wpAny_Assign_Subscript (thn (f pins s σ H _ I h) λr s1 ⟨v,H1,I1,rv,q1⟩=>thn (e pins s1 σ H1 _ I1 q1) λu s2 ⟨x,H2,I2,rx,q2⟩=>thn (j pins s2 σ H2 _ I2 q2) λiv s3 ⟨y,H3,I3,ry,a,H4,ex,g,q3⟩=>?_) b;subst ex;obtain rfl:u=Value.ref a:=rx;exact aYC c I3 g ry rv λk d=>⟨σ,H4,d,q3⟩
end
def bX8{P:cQT}{w:cQ2}{H:Hp}(h:Heap)(a:cJx<h.objs.size):zQ P w H (h.push {cls:= .type "dict",data:= .dict #[] }) h.objs.size (.dK []):=
 ⟨cXz _,beq_eq_false_iff_ne.mpr (cXg (cQV a)),[],.nil,Heap.DictOf.new h⟩
def bYk:TE:=λ_ H Q=>∀p,H p=none->Q (.ref p) (upd H p (.dK []))
section
variable {X:Cx}{pos:Pos}
def bZ2:PE X (.Dict [] [] pos) bYk:=λpins s σ H Q I h=>
 wpAny_Dict_empty ⟨.ref s.heap.objs.size,_,I.laid (a:=s.heap.objs.size) (o:= .dK []) (t':=s.toks) (λ_ _ q=>cQD _ q) (cQE _) (bX8 s.heap I.big),rfl,h _ (I.hok.fresh (cQE _))⟩
end
structure M1(X:Cx)(o:Expr)(m:Str)(apos:Pos)(e:Expr)(cpos:Pos):Prop where
 base:cJr o m X.env (eval o X.env)=eval o X.env
 few:((cZj cpos (cXe [e] X.env)).all (λx=> !x.1) && (cJT cpos (cZW [] X.env)).all (λx=>x.1.isSome)
  && decide (([e]:List Expr).length+([]:List Keyword).length+(if([]:List Keyword).isEmpty then 0 else 1)<30))=true
 line:(apos.endLine==cpos.line)=true
 trees:cZj cpos (cXe [e] X.env)= [(false,eval e X.env)]
structure M2(X:Cx)(o:Expr)(m:Str)(apos:Pos)(e f:Expr)(cpos:Pos):Prop where
 base:cJr o m X.env (eval o X.env)=eval o X.env
 few:((cZj cpos (cXe [e,f] X.env)).all (λx=> !x.1) && (cJT cpos (cZW [] X.env)).all (λx=>x.1.isSome)
  && decide (([e,f]:List Expr).length+([]:List Keyword).length+(if([]:List Keyword).isEmpty then 0 else 1)<30))=true
 line:(apos.endLine==cpos.line)=true
 trees:cZj cpos (cXe [e,f] X.env)= [(false,eval e X.env),(false,eval f X.env)]
section
variable {X:Cx}{pins:List (Addr×Obj)}{σ:St}{H:Hp}{s:cQA}{a:Addr}{y d:V}{u r:cQx}{o:Option V}{A:cXi}{E:cQx->cQA->Prop}
end
section
variable {X:Cx}{o e f:Expr}{apos cpos:Pos}{td ty tx:TE}
end
section
variable {X:Cx}{pins:List (Addr×Obj)}{σ:St}{H:Hp}{s:cQA}{a:Addr}{kvs:List (Key×V)}{A:cXi}{E:cQx->cQA->Prop}
end
section
variable {X:Cx}{pins:List (Addr×Obj)}{σ:St}{H:Hp}{s:cQA}{a:Addr}{y:V}{u:cQx}{A:cXi}{E:cQx->cQA->Prop}
end
end L2
namespace L2
open PySem PySem.Spec PyProof.Rows
section
variable {κ:Type} [DecidableEq κ]
end
end L2
namespace Days
open PySem L2 PyProof.Rows
def aJo(x:Str):Stmt->Bool
 |.FunctionDef n _ _ _ _ _ _ _ _ _=>n==x
 |_=>false
def xM(x:Str):Stmt:=(PySem.Challenge.pw_letterdesk_k09_whole_files.main.body.find? (aJo x)).getD (.Pass ⟨0,0,0,0⟩)
abbrev aVM:Stmt:=xM "counts"
abbrev bWH:Stmt:=xM "open_by_rest"
abbrev aZI:Stmt:=xM "closed_days"
abbrev bQ3:Stmt:=xM "place_of"
def aYv:cXj "min"=some (.builtin "min"):=dk
def wW:cXj "sorted"=some (.builtin "sorted"):=dk
def bKw:cXj "set"=some (.type "set"):=dk
structure uJ(mg:Str->Option cQx):Prop where
 b_len:mg "len"=none
 b_min:mg "min"=none
 b_sum:mg "sum"=none
 b_sorted:mg "sorted"=none
 b_isinstance:mg "isinstance"=none
 b_int:mg "int"=none
 b_str:mg "str"=none
 b_bool:mg "bool"=none
 b_list:mg "list"=none
 b_tuple:mg "tuple"=none
 b_set:mg "set"=none
 b_range:mg "range"=none
 b_reversed:mg "reversed"=none
 week:∃t,mg "WEEK"=some (.int 7 t)
 opens:∃t,mg "OPEN_DAYS"=some (.int 5 t)
def bXC:Sp:=λa H Q _=>∃d,a= [.int d]/\Q (.bl (Dm.opn d)) H
def bXE:Sp:=λa H Q _=>∃d,a= [.int d]/\Q (.int (Dm.place d)) H
def aWM(K:cQz):Sp:=λe H Q _=>∃ (a:Nat)(b:List Int),e= [.ref a]/\SqL K H a (b.map V.int)/\b.length<64/\
 ∀ (r:Nat)(c:Hp)(C:List Int),xJ H c->H r=none->C.Pairwise (·<·)->(∀d,d∈C↔d∈b/\Dm.opn d=true)->C.length<=b.length->c r=some (.lst (C.map V.int))->Q (.ref r) c
def aWO(K:cQz):Sp:=λc H Q _=>∃ (a:Nat)(b:List Int)(d:Int),c= [.ref a,.int d]/\SqL K H a (b.map V.int)/\Q (.bl (Dm.cts b d)) H
abbrev bYU:Stmt:=xM "due_day"
abbrev bQW:Stmt:=xM "day_at"
def bXy:Sp:=λa H Q _=>∃d,a= [.int d]/\Q (.int (Dm.wF d)) H
def bYh(K:cQz):Sp:=λe H Q _=>∃ (a:Nat)(b:List Int)(d t:Int),e= [.ref a,.int d,.int t]/\SqL K H a (b.map V.int)/\b.length<64/\1<=t/\∀ (c:Hp)(D:Int),xJ H c->Dm.Due b d t D->Q (.int D) c
section
variable {K:cQz}
def bWV:yO ["date"] ["date"] (yH bWH):=scM
def bWj(T:uJ mg)(F:Fun K "open_by_rest" "open_by_rest" bWH f fd):xL P w K mg base CX0 1 f fd ["date"] bXC:=by
 obtain⟨g,b⟩:=T.week;obtain⟨i,a⟩:=T.opens;have c:=bWV;refine F.ok (k:=0) c (λe A outer s H j Q E l h=>?_);obtain⟨d,rfl,q⟩:=h;refine⟨_,(yF (yP (wL uM (yV xD (pv 0) (jN (v:= .int 7) rfl b ⟨_,rfl⟩)) (jN (v:= .int 5) rfl a ⟨_,rfl⟩)))),?_⟩;exact⟨_,rfl,_,_,rfl,rfl,(show(0:Int)<7 by decide),_,_,rfl,rfl,q⟩
def bJt:yO ["date"] ["date"] (yH bQ3):=scM
def bZR(T:uJ mg)(F:Fun K "place_of" "place_of" bQ3 f fd):xL P w K mg base CX0 1 f fd ["date"] bXE:=by
 obtain⟨i,b⟩:=T.week;obtain⟨j,a⟩:=T.opens;have c:=bJt;refine F.ok (k:=0) c (λg A outer s H l Q E m h=>?_);obtain⟨d,rfl,q⟩:=h;refine⟨_,(yF (yP (yV zT (yV aWs (yV aQg (pv 0) (jN (v:= .int 7) rfl b ⟨_,rfl⟩)) (jN (v:= .int 5) rfl a ⟨_,rfl⟩)) (yR (aYx rfl) rfl T.b_min aYv (yA (yV xD (pv 0) (jN (v:= .int 7) rfl b ⟨_,rfl⟩)) (yA (yV uF (jN (v:= .int 5) rfl a ⟨_,rfl⟩) yG) yD)))))),?_⟩;refine⟨_,rfl,_,_,rfl,rfl,⟨by decide,by decide⟩,_,_,rfl,rfl,.inr ⟨by decide,by decide⟩,_,rfl,_,_,rfl,rfl,(show(0:Int)<7 by decide),_,_,rfl,rfl,_,_,rfl,_,_,rfl,rfl,?_⟩;have e:(if 5 - 1<d % 7 then 5 - 1 else d % 7:Int)=if 4<d % 7 then 4 else d % 7:=rfl;exact q
def bXh:yO ["shut","date"] ["shut","date"] (yH aVM):=scM
def qR(d:Int):∀ns:List Int,inV (.int d) (ns.map V.int)=ns.contains d
 |[]=>rfl
 |n::r=>by have a:=qR d r;unfold inV at a ⊢;rw[cXb,cZP,a,cZY];congr 1;show(n==d)=(d==n);rw[Bool.eq_iff_iff,beq_iff_eq,beq_iff_eq];exact eq_comm
def qF:∀ns:List Int,(ns.map V.int).all aQK=true
 |[]=>rfl
 |n::r=>by rw[cXb,cJV,qF r];rfl
def bQr(T:uJ mg)(b:FnG P w K mg base 1 "open_by_rest" ["date"] bXC)(F:Fun K "counts" "counts" aVM f fd):xL P w K mg base CX0 2 f fd ["shut","date"] (aWO K):=by
 have g:=bXh;refine F.ok (k:=1) g (λl A outer s H m Q E j h=>?_);obtain⟨a,e,d,rfl,i,q⟩:=h;refine⟨_,(yF (yP (aWw (xU b j rfl (yA (pv 1) yD)) (aJF (wL aQF (pv 1) (pv 0)))))),?_⟩;refine⟨_,rfl,d,rfl,_,rfl,?_⟩;unfold Dm.cts at q;cases c:Dm.opn d with
 |false=>rw[c]at q;exact q
 |true=>rw[c,Bool.true_and]at q;rw[if_pos rfl];refine⟨_,rfl,_,rfl,a,_,rfl,.inl i,rfl,qF e,?_⟩;rw[if_pos rfl,qR];exact q
def bXg:yO ["shut"] ["shut"] (yH aZI):=scM
def aY1:xO ["shut"] (yH aZI) "date" [] [] (lsN [(".0",.local),("date",.local),("open_by_rest",.globalImplicit)]):=
 lcM
def aQ2(p:Int->Bool):∀ns:List Int,((ns.map V.int).filter λv=>match v with|.int d=>p d|_=>false)=(ns.filter p).map V.int
 |[]=>rfl
 |n::r=>by have a:=aQ2 p r;rw[cXb,List.filter_cons,List.filter_cons,a];show(if p n=true then _ else _)=_;split<;> rfl
def bQq(T:uJ mg)(c:FnG P w K mg base 1 "open_by_rest" ["date"] bXC)(F:Fun K "closed_days" "closed_days" aZI f fd):xL P w K mg base CX0 2 f fd ["shut"] (aWM K):=by
 have M:=bXg;refine F.ok (k:=1) M (λX A outer s H vs Q E U h=>?_);obtain⟨a,B,rfl,O,I,q⟩:=h;refine⟨_,(yF (yP (aQj aY1 rfl (xN (yR (aXS rfl) rfl T.b_sorted wW (yA (zG (bXZ rfl) rfl T.b_set bKw (yA (pv 0) yD)) yD))) (λ_ _ _ _ _=>(vA (zA (xU c U rfl (yA (pv 0) yD))))) (λ_ _ _ _ _=>(pv 0))))),?_⟩;refine⟨_,rfl,a,B,rfl,O,by omega,λl p hl L y e=>?_⟩;refine⟨l,p,rfl,yB,by omega,λr S m g z=>?_⟩;refine⟨r,rfl,⟨_,SqL.of yB⟩,λD i=>?_⟩;have n:S.Pairwise (·<·):=by
  have j:S.Nodup:=(g.nodup_iff).mpr L;have o:S.Pairwise (λa b=>a<=b/\a≠b):=z.and j;exact o.imp λ⟨Z,o⟩=>by omega
 have W:(S.map V.int).length<=cQW:=by rw[cQB,g.length_eq,cQZ];omega
 refine aXd (λv=>match v with|.int d=>Dm.opn d|_=>false) id (SqL.of yB) i W ?_ ?_ ?_
 ·intro v t J R C hR;obtain⟨d,Y,rfl⟩:=cXr.mp t;exact⟨_,rfl,d,rfl,_,rfl,hR⟩
 ·intro v t N J R C hR;exact⟨_,rfl,hR⟩
 ·rw[aQ2,cVi];have u:=yE hl (bYc w l p);have x:=yE m (.lst (S.map V.int));have G:=yE i (.lst ((S.filter Dm.opn).map V.int));refine q D _ (S.filter Dm.opn) (u.trans (x.trans G)) ?_ (n.sublist cZp) ?_ ?_ yB
  ·exact(xJ.trans u x).fresh i
  ·intro d;rw[cXA,g.mem_iff,e]
  ·have:=cXu Dm.opn S;rw[g.length_eq]at this;omega
def bJm:yO ["place"] ["place"] (yH bQW):=scM
def bZK(T:uJ mg)(F:Fun K "day_at" "day_at" bQW f fd):xL P w K mg base CX0 1 f fd ["place"] bXy:=by
 obtain⟨g,b⟩:=T.week;obtain⟨i,a⟩:=T.opens;have c:=bJm;refine F.ok (k:=0) c (λe A outer s H j Q E l h=>?_);obtain⟨d,rfl,q⟩:=h;refine⟨_,(yF (yP (yV zT (yV aWs (yV aQg (pv 0) (jN (v:= .int 5) rfl a ⟨_,rfl⟩)) (jN (v:= .int 7) rfl b ⟨_,rfl⟩)) (yV xD (pv 0) (jN (v:= .int 5) rfl a ⟨_,rfl⟩))))),?_⟩;exact⟨_,rfl,_,_,rfl,rfl,⟨by decide,by decide⟩,_,_,rfl,rfl,.inr ⟨by decide,by decide⟩,_,rfl,_,_,rfl,rfl,(show(0:Int)<5 by decide),_,_,rfl,rfl,q⟩
def bK8:yO ["shut","date","term","place","closed"] ["shut","date","term"] (yH bYU):=scM
def bX9(d p:Int)(C:List Int)(i:Nat)(c:Int)(h:C[i]? =some c):Dm.aZp d p (C.take (i+1))=Dm.qD d (Dm.aZp d p (C.take i)) c:=by
 unfold Dm.aZp;rw[cXx,h];show(C.take i++ [c]).foldl _ p=_;rw[cVX];rfl
def bKP(T:uJ mg)(b:FnG P w K mg base 2 "closed_days" ["shut"] (aWM K))(j:FnG P w K mg base 2 "place_of" ["date"] bXE)(g:FnG P w K mg base 2 "day_at" ["place"] bXy) (F:Fun K "due_day" "due_day" bYU f fd):xL P w K mg base CX0 3 f fd ["shut","date","term"] (bYh K):=by
 have N:=bK8;refine F.ok (k:=2) N (λU A outer s H X Q E u h=>?_);obtain⟨a,I,d,t,rfl,S,y,O,q⟩:=h;refine⟨_,(yC (yU (i:=3) (yV zT (xU j u rfl (yA (pv 1) yD)) (pv 2))) (yC (wT cXo rfl (xN (xU b u rfl (yA (pv 0) yD))) (xI (i:=4)) (yF (xA (bZ7 uM bQA (pv 1) (pv 4) (xU g u rfl (yA (pv 3) yD))) (yF (yU (i:=3) (yV zT (pv 3) yG))) yS))) (yF (yP (xU g u rfl (yA (pv 3) yD)))))),?_⟩;refine⟨_,rfl,d,rfl,_,rfl,_,_,rfl,rfl,?_⟩;refine⟨_,rfl,a,I,rfl,S,y,λr L C M G J R hl n=>⟨r,rfl,⟨_,SqL.of n⟩,?_⟩⟩;refine zS (xs:=C.map V.int) (λi σ H=>∃cl,σ= [some (.ref a),some (.int d),some (.int t),some (.int (Dm.aZp d (Dm.place d+t) (C.take i))),cl]/\H=L) ?_ ?_ ?_ ?_
 ·exact⟨none,rfl,rfl⟩
 ·rintro i σ H W ⟨cl,rfl,rfl⟩;exact SqL.of n
 ·rintro i x σ H o ⟨cl,rfl,rfl⟩;rw[cQR]at o;cases v:C[i]? with
  |none=>rw[v]at o;cases o
  |some c=>
   rw[v]at o;cases o;have p:=bX9 d (Dm.place d+t) C i c v;generalize Dm.aZp d (Dm.place d+t) (C.take i)=pl at p ⊢;dsimp only[yW];refine⟨_,rfl,_,rfl,_,_,rfl,rfl,_,rfl,?_⟩;refine X2 (λB=>?_) (λB=>?_)
   ·have l:d<c:=of_decide_eq_true B;refine⟨_,rfl,pl,rfl,_,_,rfl,rfl,_,rfl,?_⟩;refine X2 (λD=>?_) (λD=>?_)
    ·have m:c<=Dm.wF pl:=of_decide_eq_true D;refine⟨_,rfl,_,_,rfl,rfl,some (.int c),?_,rfl⟩;have e:Dm.qD d pl c=pl+1:=if_pos ⟨l,m⟩;rw[p,e];rfl
    ·have m:¬c<=Dm.wF pl:=of_decide_eq_false (Bool.eq_false_iff.mpr D);refine⟨some (.int c),?_,rfl⟩;have e:Dm.qD d pl c=pl:=if_neg λz=>m z.2;rw[p,e];rfl
   ·have l:¬d<c:=of_decide_eq_false (Bool.eq_false_iff.mpr B);refine⟨_,rfl,?_⟩;refine onF rfl ⟨some (.int c),?_,rfl⟩;have e:Dm.qD d pl c=pl:=if_neg λz=>l z.1;rw[p,e];rfl
 ·rintro σ H ⟨cl,rfl,rfl⟩;rw[cQB,cXs];exact⟨_,rfl,_,rfl,q _ _ M (Dm.bJ2 O J R)⟩
end
end Days
namespace Desk
open PySem L2 PyProof.Rows
open Bk (Row Rows)
structure PB(CB CL:Nat)(H:Hp)(ba la sa:Nat)(ls cs:List Nat)(R:Rows)(S:List Int):Prop where
 book:∃dx,H ba=some (.ins CB dx [("letters",.ref la),("shut",.ref sa)])
 lst:H la=some (.lst (ls.map V.ref))
 sht:H sa=some (.lst (S.map V.int))
 len:ls.length=R.length
 clen:cs.length=R.length
 nd:ls.Nodup
 cnd:cs.Nodup
 las:la≠sa
 lac:la∉cs
 sac:sa∉cs
 row:∀ (i:Nat)(b c:Nat)(r:Row),ls[i]? =some b->cs[i]? =some c->R[i]? =some r->aW4 CL H b i r c/\H c=some (.lst (r.copies.map V.str))
def PB.get{l CL:Nat}{H:Hp}{j la sa:Nat}{ls cs:List Nat}{R:Rows}{S:List Int}(h:PB l CL H j la sa ls cs R S){i:Nat}{r:Row}(f:R[i]? =some r): ∃b c,(ls.map V.ref)[i]? =some (.ref b)/\ls[i]? =some b/\cs[i]? =some c/\aW4 CL H b i r c/\H c=some (.lst (r.copies.map V.str)):=by
 have e:i<R.length:=Bk.wU f;have a:=cQw (show i<ls.length by rw[h.len];exact e);have d:=cQw (show i<cs.length by rw[h.clen];exact e);obtain⟨k,g⟩:=h.row i _ _ r a d f;exact⟨_,_,by rw[cQR,a];rfl,a,d,k,g⟩
def PB.sameT{f CL:Nat}{H d:Hp}{a la sa:Nat}{ls cs:List Nat}{R:Rows}{S:List Int}(h:PB f CL H a la sa ls cs R S)(k:zI H d):PB f CL d a la sa ls cs R S:=
 ⟨let ⟨dx,e⟩:=h.book;⟨dx,k _ _ (λ_ z=>nomatch z) e⟩,k.lst h.lst,k.lst h.sht,h.len,h.clen,h.nd,h.cnd,h.las,h.lac,h.sac,λi b c r l g j=>
  let ⟨⟨dx,e1⟩,e2⟩:=h.row i b c r l g j;⟨⟨dx,k _ _ (λ_ z=>nomatch z) e1⟩,k.lst e2⟩⟩
def PB.same{a CL:Nat}{H b:Hp}{c la sa:Nat}{ls cs:List Nat}{R:Rows}{S:List Int}(h:PB a CL H c la sa ls cs R S)(k:xJ H b):PB a CL b c la sa ls cs R S:=h.sameT k.t
def aYq(T:Nat)(H a:Hp):Prop:=zI H a/\(Thr.vE T H->Thr.vE T a)
def aYq.of{T:Nat}{H a:Hp}(k:xJ H a):aYq T H a:=⟨k.t,λt=>by
 rcases t with t|⟨c,d,b⟩
 ·exact .inl (k _ _ t)
 ·exact .inr ⟨c,k _ _ d,k _ _ b⟩⟩
def aYq.trans{T:Nat}{H d c:Hp}(a:aYq T H d)(b:aYq T d c):aYq T H c:=⟨a.1.trans b.1,λt=>b.2 (a.2 t)⟩
def xS(K:cQz)(Rf:Nat×Nat)(H:Hp)(E:XK)(t:Str):Prop:=∀ (C b:Nat)(a:Hp),jI K C->cJW K C (.ref Rf.1)=some true->aYq Rf.2 H a->a b=some (.xd [("words",.str t)])->E (.ref C) (some b) a
def xS.go{K:cQz}{Rf:Nat×Nat}{H:Hp}{E:XK}{t:Str}(h:xS K Rf H E t){b:Hp}(k:aYq Rf.2 H b):xS K Rf b E t:=λC f a c m d e=>h C f a c m (k.trans d) e
def xS.raise{P:cQT}{w:cQ2}{K:cQz}{mg:Str->Option cQx}{base:Heap}{k:Nat}{x:Str}{Rf:Nat×Nat}{C:Nat}{H:Hp}{E:XK}{t:Str}(h:xS K Rf H E t)(G:ExG P w K mg base k x Rf.1 C t){D:aYo}{σ:L2.St}:bVh C t E D σ H:=
 λb a=>h C b _ G.cl G.sub (aYq.of (yE a _)) yB
def aWJ(K:cQz)(Rf:Nat×Nat)(f CL:Nat):Sp:=λh H Q E=>∃ (c g e:Nat)(a d:List Nat)(R:Rows)(S:List Int)(m:Int),h= [.ref c,.int m]/\PB f CL H c g e a d R S/\
 (∀ (k:Nat)(r:Row)(b:Nat),m=(k:Int)->R[k]? =some r->r.void=false->a[k]? =some b->Q (.ref b) H)/\(Bk.vK R m=false->xS K Rf H E "no letter")
def aV3(d CL:Nat):Sp:=λg H Q _=>∃ (c h f:Nat)(a e:List Nat)(R:Rows)(S:List Int)(i:Nat)(b:Nat),g= [.ref c,.ref b]/\PB d CL H c h f a e R S/\a[i]? =some b/\R.length<=100/\
 ∀l,H l=none->Q (.ref l) (upd H l (.lst ((Bk.vF R i).map λk=>(a.map V.ref).getD k .non)))
def aWN(K:cQz)(Rf:Nat×Nat)(e CL:Nat):Sp:=λg H Q E=>∃ (a f c:Nat)(d b:List Nat)(R:Rows)(S:List Int)(m:Int),g= [.ref a,.int m]/\PB e CL H a f c d b R S/\
 (∀ (k:Nat)(r:Row)(l:Nat),m=(k:Int)->R[k]? =some r->r.void=false->H l=none->Q (.ref l) (upd H l (.lst (r.copies.map V.str))))/\(Bk.vK R m=false->xS K Rf H E "no letter")
def aJZ(K:cQz)(Rf:Nat×Nat)(e CL:Nat):Sp:=λg H Q E=>∃ (a f c:Nat)(d b:List Nat)(R:Rows)(S:List Int)(m:Int),g= [.ref a,.int m]/\PB e CL H a f c d b R S/\
 (∀ (k:Nat)(r:Row)(l:Nat),m=(k:Int)->R[k]? =some r->r.void=false->H l=none->Q (.ref l) (upd H l (.tup (stV r))))/\(Bk.vK R m=false->xS K Rf H E "no letter")
section
variable {K:cQz}
abbrev aXu:Stmt:=xQ "Book" "letter_at"
abbrev aWD:Stmt:=xQ "Book" "answers_to"
abbrev aXt:Stmt:=xQ "Book" "copies_of"
abbrev aZP:Stmt:=xQ "Book" "state_of"
def bWN:yO ["self","number"] ["self","number"] (yH aXu):=scM
def bZg{R:Rows}{m:Int}(h:m<0):Bk.vK R m=false:=by
 unfold Bk.vK;rw[decide_eq_false (by omega),Bool.false_and]
def bZf{R:Rows}{m:Int}(h:(R.length:Int)<=m):Bk.vK R m=false:=by
 unfold Bk.vK;rw[cXa (by omega)];simp
def aJm{R:Rows}{k:Nat}{r:Row}(h:R[k]? =some r):Bk.vK R (k:Int)= !r.void:=by
 unfold Bk.vK;rw[cQ6,h];simp
def bV9(T:uJ mg)(cl:Cl K CB CL)(a:ExG P w K mg base n "NoLetter" Rf.1 C1 "no letter")(F:Fun K "letter_at" "Book.letter_at" aXu f fd):xL P w K mg base (CXR P w) (n+2) f fd ["self","number"] (aWJ K Rf CB CL):=by
 have z:=bWN;refine F.okX (k:=n+1) z (λD A outer s H O Q E C h=>?_);obtain⟨i,o,I,x,G,R,S,m,rfl,e,q,g⟩:=h;refine⟨_,(yC (xA (PW.pt (Y5 (yM uM (pv 1) yG) (Y5 (yM bYN (pv 1) (yR yN rfl T.b_len xG (yA (xC (pv 0) rfl) yD))) (uR (zA (xC (yL yK (xC (pv 0) rfl) (pv 1)) rfl)))))) (yF (vB a C rfl)) yS) (yF (yP (yL yK (xC (pv 0) rfl) (pv 1))))),?_⟩;obtain⟨p,r⟩:=e.book;have hl:(x.map V.ref).length=R.length:=by rw[cQB];exact e.len
 refine⟨_,rfl,_,_,rfl,rfl,_,rfl,?_⟩;refine X2 (λc=>?_) (λc=>?_)
 ·exact onT rfl ((g (bZg (of_decide_eq_true c))).raise a)
 ·have J:¬m<0:=of_decide_eq_false (Bool.eq_false_iff.mpr c);refine⟨_,rfl,_,rfl,i,CB,p,_,_,rfl,r,cl.b,cl.letters,rfl,o,_,rfl,.inl (SqL.of e.lst),_,_,rfl,rfl,_,rfl,?_⟩;rw[hl];refine X2 (λc=>?_) (λc=>?_)
  ·exact onT rfl ((g (bZf (of_decide_eq_true c))).raise a)
  ·have M:¬m≥(R.length:Nat):=of_decide_eq_false (Bool.eq_false_iff.mpr c);obtain⟨k,rfl⟩:∃k:Nat,m=(k:Int):=⟨m.toNat,by omega⟩;have v:k<R.length:=by omega
   have d:=cQw v;obtain⟨b,N,t,y,L,⟨j,B⟩,U⟩:=e.get d;refine⟨_,rfl,i,CB,p,_,_,rfl,r,cl.b,cl.letters,rfl,_,rfl,o,_,_,_,rfl,rfl,SqL.of e.lst,yT t,b,CL,j,_,_,rfl,B,cl.l,cl.void,rfl,_,rfl,?_⟩;cases u:R[k].void with
   |true=>exact onT rfl ((g (by rw[aJm d,u];rfl)).raise a)
   |false=>exact onF rfl ⟨_,rfl,i,CB,p,_,_,rfl,r,cl.b,cl.letters,rfl,_,rfl,o,_,_,_,rfl,rfl,SqL.of e.lst,yT t,q k _ b rfl d u y⟩
def aKt{K:cQz}{a:Nat}{xs:List V}{n:List Nat}{k:TT}{r:TE}{σ:L2.St}{D:Nat}{Q:VK}{H:Hp}(p:Nat->Bool)(f:Nat->V)(hl:SqL K H a xs)(t:H D=none)(hz:xs.length<=cQW) (u:∀i v,xs[i]? =some v->∀ (c:Hp)(R:Bool->Hp->Prop),(∀b,b≠D->c b=H b)->R (p i) c->k (sub σ n (some v)) c R) (z:∀i v,xs[i]? =some v->p i=true->∀ (c:Hp)(R:VK),(∀b,b≠D->c b=H b)->R (f i) c->r (sub σ n (some v)) c R) (B:Q (.ref D) (upd H D (.lst (((cQJ xs.length).filter p).map f)))):bVx (Itl K a) n k r σ D Q (upd H D (.lst [])):=by
 have d:∀g,SqL K (upd H D (.lst g)) a xs:=λg=>by
  rcases hl with(h|⟨o,h⟩)|h
  ·exact .inl (.inl (by rw[yJ (yI h t)];exact h))
  ·exact .inl (.inr ⟨o,by rw[yJ (yI h t)];exact h⟩)
  ·exact .inr h
 refine⟨λi m g c=>m=xs.length - i/\i<=xs.length/\g=((cQJ i).filter p).map f/\c=upd H D (.lst g),⟨xs.length,by simp,cXz _,by simp,rfl⟩,?_⟩;rintro i m g c ⟨rfl,E,rfl,rfl⟩;refine⟨yB,?_⟩;by_cases e:i<xs.length
 ·refine .inr ⟨⟨xs,xs[i],d _,cQw e⟩,λv F x=>?_⟩;obtain⟨rfl,y⟩:=x;have s:xs[i]? =some v:=y xs (d _);have j:∀b,b≠D->upd H D (.lst (((cQJ i).filter p).map f)) b=H b:=λb A=>yJ A;have l:(((cQJ i).filter p).map f).length<cQW:=by
   rw[cQB];have w:=cXu p (cQJ i);rw[cXp]at w;omega
  refine u i v s _ _ j ?_;cases q:p i with
  |false=>show ∃C,_;refine⟨xs.length - (i+1),by omega,rfl,e,?_,rfl⟩;rw[cZ2,cXK,cXY (by rw[q];decide)];simp
  |true=>show r _ _ _;refine z i v s q _ _ j ⟨l,yB,xs.length - (i+1),by omega,rfl,e,?_,by rw[qM]⟩;rw[cZ2,cXK,cXZ q];simp
 ·obtain rfl:i=xs.length:=by omega
  exact .inl ⟨⟨xs,d _,cQE _⟩,B⟩
def bJi:yO ["self","letter"] ["self","letter"] (yH aWD):=scM
def bZp:xO ["self","letter"] (yH aWD) "other" ["letter"] [1] (lsN [(".0",.local),("other",.local),("letter",.free)]):=
 lcM
def bZG(cl:Cl K CB CL)(a:MG P w K mg base CX0 n CL "is_answered_by" ["self","other"] (bXv CL))(F:Fun K "answers_to" "Book.answers_to" aWD f fd):xL P w K mg base CX0 (n+1) f fd ["self","letter"] (aV3 CB CL):=by
 have O:=bJi;refine F.ok (k:=n) O (λX A outer s H vs Q E W h=>?_);obtain⟨G,L,Z,r,Y,R,S,i,b,rfl,d,y,hR,q⟩:=h;refine⟨_,(yF (yP (aQj bZp rfl (xN (xC (pv 0) rfl)) (λ_ _ _ _ _=>(vA (zA (jD a W uT (pv 1) (yA (pv 0) yD))))) (λ_ _ _ _ _=>(pv 0))))),?_⟩;obtain⟨N,T⟩:=d.book;have hl:(r.map V.ref).length=R.length:=by rw[cQB];exact d.len
 have t:i<R.length:=by rw[<- d.len];exact(cQK.mp y).1
 obtain⟨B,cc,g1,M,g3,⟨l,p⟩,g5⟩:=d.get (cQw t);obtain rfl:b=B:=cQS (y.symm.trans M);refine⟨_,rfl,G,CB,N,_,_,rfl,T,cl.b,cl.letters,rfl,L,rfl,⟨_,SqL.of d.lst⟩,λD e=>?_⟩;refine aKt (λk=>decide (Bk.lk R k=some i)) (λk=>(r.map V.ref).getD k .non) (SqL.of d.lst) e (zn (by omega)) (λj v o I U m c=>?_) (λj v o _ I U m c=>?_) ?_
 ·have C:j<R.length:=by rw[<- hl];exact(cQK.mp o).1
  have g:=cQw C;obtain⟨z,c2,J,k2,k3,⟨u,x⟩,k5⟩:=d.get g;obtain rfl:v= .ref z:=cQS (o.symm.trans J);rw[Bk.uL g]at c;exact⟨_,rfl,b,l,_,rfl,(m _ (yI p e)).trans p,rfl,_,rfl,b,z,i,j,_,_,_,_,rfl,⟨l,(m _ (yI p e)).trans p⟩,⟨u,(m _ (yI x e)).trans x⟩,_,rfl,c⟩
 ·have:(r.map V.ref).getD j .non=v:=by simp only[cXk,o];rfl
  rw[this]at c;exact⟨_,rfl,c⟩
 ·rw[hl];exact q D e
def aVW:yO ["self","number"] ["self","number"] (yH aXt):=scM
def aVw(T:uJ mg)(cl:Cl K CB CL)(a:MG P w K mg base (CXR P w) n CB "letter_at" ["self","number"] (aWJ K Rf CB CL))(F:Fun K "copies_of" "Book.copies_of" aXt f fd):xL P w K mg base (CXR P w) (n+1) f fd ["self","number"] (aWN K Rf CB CL):=by
 have C:=aVW;refine F.okX (k:=n) C (λM A outer s H U Q E L h=>?_);obtain⟨i,y,p,t,j,R,S,m,rfl,e,q,u⟩:=h;refine⟨_,(yF (yP (zG uP rfl T.b_list wK (yA (xC (jD a L wV (pv 0) (yA (pv 1) yD)) rfl) yD)))),?_⟩;obtain⟨B,G⟩:=e.book;refine⟨_,rfl,i,B,_,rfl,G,rfl,_,rfl,i,y,p,t,j,R,S,m,rfl,e,λk r b v g x c=>?_,u⟩;obtain⟨o,I,N,z,O,⟨d,D⟩,J⟩:=e.get g;obtain rfl:b=o:=cQS (c.symm.trans z);refine⟨b,CL,d,_,_,rfl,D,cl.l,cl.copies,rfl,?_⟩;exact⟨I,_,rfl,.inl (SqL.of J),λl hl=>q k r l v g x hl⟩
def aYe:yO ["self","number"] ["self","number"] (yH aZP):=scM
def aKR(cl:Cl K CB CL)(a:MG P w K mg base (CXR P w) n CB "letter_at" ["self","number"] (aWJ K Rf CB CL))(c:MG P w K mg base CX0 n CL "state" ["self"] (aV6 CL))(F:Fun K "state_of" "Book.state_of" aZP f fd): xL P w K mg base (CXR P w) (n+1) f fd ["self","number"] (aJZ K Rf CB CL):=by
 have J:=aYe;refine F.okX (k:=n) J (λN A outer s H U Q E o h=>?_);obtain⟨j,C,v,x,p,R,S,m,rfl,g,q,y⟩:=h;refine⟨_,(yF (yP (bZ3 c o uT (jD a o wV (pv 0) (yA (pv 1) yD))))),?_⟩;obtain⟨G,L⟩:=g.book;refine⟨_,rfl,j,G,_,rfl,L,rfl,_,rfl,j,C,v,x,p,R,S,m,rfl,g,λk r b z i B e=>?_,y⟩;obtain⟨u,M,O,D,T,⟨d,l⟩,V⟩:=g.get i;obtain rfl:b=u:=cQS (e.symm.trans D);exact⟨b,d,_,rfl,l,rfl,b,k,r,M,rfl,⟨d,l⟩,λt I=>q k r t z i B I⟩
end
end Desk
namespace Desk
open PySem L2 PyProof.Rows
open Bk (Row Rows)
open Law (aYp Y7 Q1 bXV aZa aXO)
def aQv(R:Rows)(w:Str):List Nat:=(cQJ R.length).filter λk=>match R[k]? with|some r=> !r.void && decide (r.place=w)|none=>false
def aXK(b CL:Nat):Sp:=λe H Q _=>∃ (a g d:Nat)(f c:List Nat)(R:Rows)(S:List Int)(w:Str),e= [.ref a,.str w]/\PB b CL H a g d f c R S/\R.length<64/\
 ∀l,H l=none->Q (.ref l) (upd H l (.lst ((aQv R w).map λi=>V.int (i:Nat))))
def bVu(R:Rows)(n:Nat)(d:Int)(a:List (Key×V)):Prop:=∀j:Nat,(aQW a (Sum.inl (j:Int))).isSome=true↔∃k,k<n/\Bk.lk R k=some j/\Bk.dt R k<=d
def aZf(f CL:Nat):Sp:=λi H Q _=>∃ (e k h:Nat)(j g:List Nat)(R:Rows)(S:List Int)(d:Int),i= [.ref e,.int d]/\PB f CL H e k h j g R S/\R.length<64/\
 ∀ (a:Nat)(c:Hp)(b:List (Key×V)),xJ H c->H a=none->c a=some (.dK b)->bVu R R.length d b->Q (.ref a) c
def aV5(f CL:Nat):Sp:=λi H Q _=>∃ (c k h:Nat)(j g:List Nat)(R:Rows)(S:List Int)(d:Int),i= [.ref c,.int d]/\PB f CL H c k h j g R S/\R.length<64/\S.length<64/\
 ∀ (l:Nat)(a:Hp)(e:List Nat)(b:List V),xJ H a->H l=none->a l=some (.lst b)->cXn (aYp a (Y7 R S)) e b->Bk.bJW R S d false e->Q (.ref l) a
def bYw(j CL:Nat)(a:Bool):Sp:=λm H Q _=>∃ (c k g:Nat)(h f:List Nat)(R:Rows)(S:List Int)(d:Int),m= [.ref c,.int d]/\PB j CL H c k g h f R S/\R.length<64/\S.length<64/\
 ∀ (l:Nat)(b:Hp)(e:List Nat),xJ H b->H l=none->b l=some (.lst (e.map λi=>V.int (i:Nat)))->Bk.bJW R S d a e->Q (.ref l) b
def aXl{X:Cx}{K:cQz}{e:Expr}{f:Str}{pos:Pos}{a:TE}(b:PE X e a)(c:cJr e f X.env (eval e X.env)=eval e X.env)(d:X.K=K:=by rfl):PE X (.Attribute e f pos) (bY8 K a f):=d ▸ xC b c
section
variable {K:cQz}
abbrev qY:Stmt:=xQ "Book" "letters_in"
abbrev aXs:Stmt:=xQ "Book" "answered_by"
abbrev bQ2:Stmt:=xQ "Book" "waiting_pairs"
abbrev aQT:Stmt:=xQ "Book" "waiting"
abbrev aQS:Stmt:=xQ "Book" "overdue"
def aJP:yO ["self","name"] ["self","name"] (yH qY):=scM
def aJv:xO ["self","name"] (yH qY) "letter" ["name"] [1] (lsN [(".0",.local),("letter",.local),("name",.free)]):=
 lcM
def bVJ{r:Row}{w:Str}:decide (W4 r=V.str w)=(!r.void && decide (r.place=w)):=by
 unfold W4;cases r.void with
 |true=>rfl
 |false=>show decide (V.str r.place=V.str w)=(true && decide (r.place=w));rw[Bool.true_and,Bool.eq_iff_iff];simp
def aJD(cl:Cl K CB CL)(F:Fun K "letters_in" "Book.letters_in" qY f fd):xL P w K mg base CX0 (n+1) f fd ["self","name"] (aXK CB CL):=by
 have J:=aJP;refine F.ok (k:=n) J (λT A outer s H X Q E Y h=>?_);obtain⟨y,G,W,x,U,R,S,w,rfl,d,hR,q⟩:=h;refine⟨_,(yF (yP (aQj aJv rfl (xN (xC (pv 0) rfl)) (λ_ _ _ _ _=>(vA (yM zR (aXl (K:=K) (pv 0) rfl) (pv 1)))) (λ_ _ _ _ _=>(aXl (K:=K) (pv 0) rfl))))),?_⟩;obtain⟨I,N⟩:=d.book;have hl:(x.map V.ref).length=R.length:=by rw[cQB];exact d.len
 refine⟨_,rfl,y,CB,I,_,_,rfl,N,cl.b,cl.letters,rfl,G,rfl,⟨_,SqL.of d.lst⟩,λD o=>?_⟩;refine aKt (λk=>match R[k]? with|some r=> !r.void && decide (r.place=w)|none=>false) (λk=>V.int (k:Nat)) (SqL.of d.lst) o (zn (by omega)) (λj v i B O t a=>?_) (λj v i _ B O t a=>?_) ?_
 ·have p:j<R.length:=by rw[<- hl];exact(cQK.mp i).1
  have e:=cQw p;obtain⟨m,C,u,L,z,⟨c,g⟩,M⟩:=d.get e;obtain rfl:v= .ref m:=cQS (i.symm.trans u);rw[e]at a;dsimp only at a;rw[<- bVJ]at a;refine⟨_,rfl,m,CL,c,_,_,rfl,(t _ (yI g o)).trans g,cl.l,cl.file,rfl,_,rfl,?_,_,rfl,a⟩;unfold W4;cases R[j].void<;> rfl
 ·have p:j<R.length:=by rw[<- hl];exact(cQK.mp i).1
  obtain⟨m,C,u,L,z,⟨c,g⟩,M⟩:=d.get (cQw p);obtain rfl:v= .ref m:=cQS (i.symm.trans u);exact⟨_,rfl,m,CL,c,_,_,rfl,(t _ (yI g o)).trans g,cl.l,cl.number,rfl,a⟩
 ·rw[hl];exact q D o
def aVV:yO ["self","day","answered","letter"] ["self","day"] (yH aXs):=scM
def aZ7{R:Rows}{t:Nat}{d:Int}{a:List (Key×V)}(h:bVu R t d a)(f:∀j,Bk.lk R t=some j->¬Bk.dt R t<=d):bVu R (t+1) d a:=λj=>by
 rw[h j];constructor
 ·rintro⟨k,g,b⟩;exact⟨k,by omega,b⟩
 ·rintro⟨k,g,b,c⟩;by_cases e:k=t
  ·subst e;exact absurd c (f j b)
  ·exact⟨k,by omega,b,c⟩
def bXX{R:Rows}{t:Nat}{d:Int}{a:List (Key×V)}(h:bVu R t d a){i:Nat}(hl:Bk.lk R t=some i)(g:Bk.dt R t<=d){v:V}:bVu R (t+1) d (aVF a (Sum.inl (i:Int)) v):=λj=>by
 rw[bJR];by_cases e:j=i
 ·subst e;rw[if_pos rfl];exact⟨λ_=>⟨t,by omega,hl,g⟩,λ_=>rfl⟩
 ·rw[if_neg (λz=>e (by have:=Sum.inl.inj z;omega)),h j];constructor
  ·rintro⟨k,c,b⟩;exact⟨k,by omega,b⟩
  ·rintro⟨k,c,b,f⟩;by_cases l:k=t
   ·subst l;rw[hl]at b;exact absurd (cQS b).symm e
   ·exact⟨k,by omega,b,f⟩
def aVv(cl:Cl K CB CL)(F:Fun K "answered_by" "Book.answered_by" aXs f fd):xL P w K mg base CX0 (n+1) f fd ["self","day"] (aZf CB CL):=by
 have sc:=aVV;refine F.ok (k:=n) sc (λa0 A outer s H vs Q E hr h=>?_);obtain⟨O,Y,sa,M,cs,R,S,d,rfl,C,hR,q⟩:=h;refine⟨_,(yC (yU (i:=2) bZ2) (yC (wT cXo rfl (xN (xC (pv 0) rfl)) (xI (i:=3)) (yF (xA (PW.pt (jE (yM wZ (xC (pv 3) rfl) zL) (uG (yM bQA (xC (pv 3) rfl) (pv 1))))) (yF (bWu (bKC hr) (pv 2) (xC (pv 3) rfl) vQ rfl)) yS))) (yF (yP (pv 2))))),?_⟩;obtain⟨Z,hb⟩:=C.book;have hl:(M.map V.ref).length=R.length:=by rw[cQB];exact C.len
 intro a I;dsimp only[yW];have J:=yE I (.dK []);refine⟨_,rfl,O,CB,Z,_,_,rfl,J _ _ hb,cl.b,cl.letters,rfl,Y,rfl,⟨_,SqL.of (J _ _ C.lst)⟩,?_⟩;refine zS (xs:=M.map V.ref) (λt σ m=>∃ (e:List (Key×V))(o:Option V),σ= [some (.ref O),some (.int d),some (.ref a),o]/\xJ H m/\m a=some (.dK e)/\e.length<=t/\bVu R t d e) ?_ ?_ ?_ ?_
 ·exact⟨[],none,rfl,J,yB,cXz _,λj=>⟨λz=>(by cases z),λ⟨k,z,_⟩=>absurd z (cZg _)⟩⟩
 ·rintro t σ m U ⟨e,o,rfl,g,y,T,r⟩;exact SqL.of (g _ _ C.lst)
 ·rintro t x σ m W ⟨e,o,rfl,g,y,T,r⟩;have U:t<R.length:=by rw[<- hl];exact(cQK.mp W).1
  have u:=cQw U;obtain⟨b,c,X,g2,g3,⟨p,L⟩,g5⟩:=(C.same g).get u;obtain rfl:x= .ref b:=cQS (W.symm.trans X);dsimp only[yW];refine⟨_,rfl,b,CL,p,_,_,rfl,L,cl.l,cl.link,rfl,rfl,_,rfl,?_⟩;have B:=Bk.uL u;have D:=Bk.uK u;cases v:R[t].link with
  |none=>exact onF rfl (onF rfl ⟨e,_,rfl,g,y,by omega,aZ7 r λj G=>by rw[B,v]at G;cases G⟩)
  |some i=>
   refine onT rfl ⟨_,rfl,b,CL,p,_,_,rfl,L,cl.l,cl.day,rfl,_,rfl,_,_,rfl,rfl,_,rfl,?_⟩;cases N:decide (R[t].date<=d)with
   |false=>exact onF rfl ⟨e,_,rfl,g,y,by omega,aZ7 r λj G=>by rw[D];exact of_decide_eq_false N⟩
   |true=>refine onT rfl ⟨_,rfl,_,rfl,b,CL,p,_,_,rfl,L,cl.l,cl.link,rfl,a,upd m a (.dK (aVF e (Sum.inl (i:Int)) (.bl true))),rfl,?_⟩;rw[v];refine⟨bKk.k (k:=Sum.inl (i:Int)) y (by rw[cQZ];omega),_,_,rfl,?_,yB,cQ7 (X5 _ _ _) (by omega),bXX r (by rw[B,v]) (by rw[D];exact of_decide_eq_true N)⟩;exact aXO g I
 ·rintro σ m ⟨e,o,rfl,g,y,T,r⟩;rw[hl]at r;exact⟨_,rfl,q a m e g I y r⟩
def bJS{R:Rows}{i:Nat}{r:Row}{d:Int}{a:List (Key×V)}(l:R[i]? =some r)(j:bVu R R.length d a): Bk.aQM R i d=(decide (aQr r > 0) && (decide (r.date<=d) && !(aQW a (Sum.inl (i:Int))).isSome)):=by
 have g:((Bk.vF R i).all λk=>decide (d<Bk.dt R k))= !(aQW a (Sum.inl (i:Int))).isSome:=by
  rw[Bool.eq_iff_iff,cJP,Bool.not_eq_true',Bool.eq_false_iff,ne_eq,j i];constructor
  ·rintro h ⟨k,b,c,m⟩;have:=of_decide_eq_true (h k (cXA.mpr ⟨cQ5.mpr b,decide_eq_true c⟩));omega
  ·intro h k f;obtain⟨b,c⟩:=cXA.mp f;refine decide_eq_true ?_;by_cases z:Bk.dt R k<=d
   ·exact absurd ⟨k,cQ5.mp b,of_decide_eq_true c,z⟩ h
   ·omega
 unfold Bk.aQM;rw[l];dsimp only;rw[g];unfold aQr;cases r.void with
 |true=>rfl
 |false=>
  rw[if_neg (by decide)];have e:decide (1<=r.term)=decide (r.term > 0):=by rw[Bool.eq_iff_iff];simp;omega
  rw[e];simp[Bool.and_assoc]
def bJs:yO ["self","day","answered","pairs","letter"] ["self","day"] (yH bQ2):=scM
def bZQ(T:uJ mg)(cl:Cl K CB CL)(j:MG P w K mg base CX0 n CB "answered_by" ["self","day"] (aZf CB CL))(r:FnG P w K mg base n "due_day" ["shut","date","term"] (Days.bYh K)) (F:Fun K "waiting_pairs" "Book.waiting_pairs" bQ2 f fd):xL P w K mg base CX0 (n+1) f fd ["self","day"] (aV5 CB CL):=by
 have sc:=bJs;refine F.ok (k:=n) sc (λc3 A outer s H vs Q E hr h=>?_);obtain⟨W,la,sa,ls,cs,R,S,d,rfl,hB,hR,hS,q⟩:=h;refine⟨_,(yC (yU (i:=2) (jD j hr uT (pv 0) (yA (pv 1) yD))) (yC (yU (i:=3) (xB yD)) (yC (wT cXo rfl (xN (xC (pv 0) rfl)) (xI (i:=4)) (yF (xA (PW.pt (jE (yM aXY (xC (pv 4) rfl) yG) (jE (yM bQA (xC (pv 4) rfl) (pv 1)) (uG (bK0 (bQE (bKC hr) (xC (pv 4) rfl) (pv 2))))))) (yF (yZ (jC cQ3 cXc cXd xR (pv 3) (yA (xK (yA (xU r hr rfl (yA (xC (pv 0) rfl) (yA (xC (pv 4) rfl) (yA (xC (pv 4) rfl) yD)))) (yA (xC (pv 4) rfl) yD))) yD)))) yS))) (yF (yP (yR jU rfl T.b_sorted wW (yA (pv 3) yD))))))),?_⟩;obtain⟨dx,hb⟩:=hB.book;have hl:(ls.map V.ref).length=R.length:=by rw[cQB];exact hB.len
 refine⟨_,rfl,W,dx,_,rfl,hb,rfl,_,rfl,W,la,sa,ls,cs,R,S,d,rfl,hB,hR,λa H0 b8 k0 c1 a3 hA=>?_⟩;dsimp only[yW];refine⟨z0,λI C=>?_⟩;dsimp only[yW];have k1:xJ H (upd H0 I (.lst [])):=k0.trans (yE C _);have c0:H I=none:=k0.fresh C;refine⟨_,rfl,W,CB,dx,_,_,rfl,k1 _ _ hb,cl.b,cl.letters,rfl,la,rfl,⟨_,SqL.of (k1 _ _ hB.lst)⟩,?_⟩;have c2:a≠I:=yI a3 C;refine zS (xs:=ls.map V.ref) (λt σ G=>∃ (g:List V)(o:Option V),σ= [some (.ref W),some (.int d),some (.ref a),some (.ref I),o]/\xJ H0 G/\G I=some (.lst g)/\
  cXn (aYp G (Y7 R S)) ((cQJ t).filter (Q1 R S d false)) g) ?_ ?_ ?_ ?_
 ·exact⟨[],none,rfl,yE C _,yB,.nil⟩
 ·rintro t σ G ht ⟨g,o,rfl,N,M,L⟩;exact SqL.of (N _ _ (k0 _ _ hB.lst))
 ·rintro t x σ G hx ⟨g,o,rfl,N,M,L⟩;have ht:t<R.length:=by rw[<- hl];exact(cQK.mp hx).1
  have O:=cQw ht;have X:=(hB.same k0).same N;obtain⟨b9,b1⟩:=X.book;obtain⟨b,c,g1,g2,g3,⟨v,Y⟩,g5⟩:=X.get O;obtain rfl:x= .ref b:=cQS (hx.symm.trans g1);rw[cZ2,cXK];dsimp only[yW];have hw:=bJS O hA;have u:Q1 R S d false t=Bk.aQM R t d:=by unfold Q1;simp
  have stay:∀o',Q1 R S d false t=false->∃ (g:List V)(p:Option V),[some (V.ref W),some (V.int d),some (V.ref a),some (V.ref I),o']= [some (.ref W),some (.int d),some (.ref a),some (.ref I),p]/\xJ H0 G/\G I=some (.lst g)/\
    cXn (aYp G (Y7 R S)) ((cQJ t).filter (Q1 R S d false)++ [t].filter (Q1 R S d false)) g:=λo' e=>by
   have e3: [t].filter (Q1 R S d false)= []:=by simp[e]
   rw[e3,cXC]
   exact⟨g,o',rfl,N,M,L⟩
  refine⟨_,rfl,b,CL,v,_,_,rfl,Y,cl.l,cl.term,rfl,_,_,rfl,rfl,_,rfl,?_⟩;cases h1:decide (aQr R[t] > 0)with
  |false=>exact onF rfl (onF rfl (stay _ (by rw[u,hw,h1];rfl)))
  |true=>
   refine onT rfl ⟨_,rfl,b,CL,v,_,_,rfl,Y,cl.l,cl.day,rfl,_,rfl,_,_,rfl,rfl,_,rfl,?_⟩;cases h2:decide (R[t].date<=d)with
   |false=>exact onF rfl (onF rfl (stay _ (by rw[u,hw,h1,h2];rfl)))
   |true=>
    refine onT rfl ⟨_,rfl,b,CL,v,_,_,rfl,Y,cl.l,cl.number,rfl,_,rfl,a,_,rfl,bKj.k (k:=Sum.inl (t:Int)) (N _ _ a3),_,rfl,?_⟩;cases h3:(aQW b8 (Sum.inl (t:Int))).isSome with
    |true=>exact onF rfl (stay _ (by rw[u,hw,h1,h2,h3];rfl))
    |false=>
     have a4:Bk.aQM R t d=true:=by rw[hw,h1,h2,h3];rfl
     have b2:=Law.aZl ht a4;have hv:R[t].void=false:=by
      cases hv:R[t].void with
      |false=>rfl
      |true=>have:=of_decide_eq_true h1;unfold aQr at this;rw[hv]at this;simp at this
     have a6:aQr R[t]=R[t].term:=by unfold aQr;rw[hv];rfl
     refine onT rfl ⟨_,rfl,.inl ⟨rfl,_,SqL.of M⟩,_,rfl,W,CB,b9,_,_,rfl,b1,cl.b,cl.shut,rfl,_,rfl,b,CL,v,_,_,rfl,Y,cl.l,cl.day,rfl,_,rfl,b,CL,v,_,_,rfl,Y,cl.l,cl.term,rfl,?_⟩;refine⟨sa,S,_,_,rfl,SqL.of X.sht,hS,by rw[a6];exact b2,λH2 D U hD=>?_⟩;have eD:D=Y7 R S t:=by unfold Y7;rw[O,Bk.uK O];rw[a6]at hD;exact(Bk.bJ1 hD).symm
     subst eD;refine⟨_,rfl,b,CL,v,_,_,rfl,U _ _ Y,cl.l,cl.number,rfl,z2,λq3 b5=>?_⟩;have b7:=U _ _ M;have k5:=yE b5 (.tup [V.int (Y7 R S t),V.int (t:Nat)]);have a1:=k5 _ _ b7;have il:g.length<=t:=by rw[<- L.length];exact cQ7 (cXu _ _) (by simp)
     have t6:∀a xs,upd H2 q3 (.tup [V.int (Y7 R S t),V.int (t:Nat)]) a=some (.tup xs)->upd (upd H2 q3 (.tup [V.int (Y7 R S t),V.int (t:Nat)])) I (.lst (g++ [V.ref q3])) a=some (.tup xs):=λa xs e=>by rw[yJ (aXU e a1 (by intro z;cases z))];exact e
     have e3: [t].filter (Q1 R S d false)= [t]:=by simp[u,a4]
     refine⟨I,g,.ref q3,rfl,rfl,a1,zlt (by omega),g++ [.ref q3],_,rfl,aXO (N.trans (U.trans k5)) C,yB,?_⟩;rw[e3];exact aZa ⟨q3,rfl,t6 _ _ yB⟩ (Paired.mapP L λ_ _ z=>z.tk λa xs e=>t6 _ _ (k5 _ _ (U _ _ e)))
 ·rintro σ G ⟨g,o,rfl,N,M,L⟩;rw[hl]at L;generalize J:(cQJ R.length).filter (Q1 R S d false)=fam at L;have a8:fam.length=g.length:=L.length;have fn:fam.length<=R.length:=by rw[<- J];exact cQ7 (cXu _ _) (by simp)
  have a9:∀k,k∈fam↔k<R.length/\Q1 R S d false k=true:=λk=>by rw[<- J,cXA,cQ5]
  have b0:fam.Nodup:=by rw[<- J];exact cJS.sublist cZp
  refine⟨_,rfl,I,g,λm=>(Y7 R S (fam.getD m 0),((fam.getD m 0:Nat):Int)),rfl,M,by omega,λa b ha hb e=>?_,λm x hx=>?_,λl y a0 a5 b3=>?_⟩
  ·have Z:fam.getD a 0=fam.getD b 0:=by have:=congrArg Prod.snd e;simp only at this;omega
   have a7:a<fam.length:=by omega
   have a2:b<fam.length:=by omega
   simp[cXk,cQw a7,cQw a2]at Z;exact(cZs (h₀:=a7) (h₁:=a2) b0).mp Z
  ·obtain⟨k,hk,p,M,Z⟩:=bXV L hx;have:fam.getD m 0=k:=by simp[cXk,hk]
   show ∃a,x=V.ref a/\G a=some (.tup [V.int (Y7 R S (fam.getD m 0)),V.int ((fam.getD m 0:Nat):Int)]);rw[this];exact⟨p,M,Z⟩
  ·have hm:∀m∈y,m<g.length:=λm hm=>cQ5.mp (a5.mem_iff.mp hm);have U:=yE a0 (.lst (y.map λi=>g.getD i .non));refine q l _ (y.map λm=>fam.getD m 0) _ (k0.trans (N.trans U)) ((k0.trans N).fresh a0) yB ?_ ⟨λk=>?_,?_⟩
   ·have go:∀o:List Nat,(∀m∈o,m<g.length)->cXn (aYp (upd G l (.lst (y.map λi=>g.getD i .non))) (Y7 R S)) (o.map λm=>fam.getD m 0) (o.map λi=>g.getD i .non):=by
     intro o;induction o with
     |nil=>intro _;exact .nil
     |cons m o ih=>
      intro h;refine .cons ?_ (ih λx hx=>h x (cQI _ hx));have B:=h m cQM;have hg:g[m]? =some (g.getD m .non):=by simp[cXk,cQw B]
      obtain⟨k,hk,p,M,Z⟩:=bXV L hg;have:fam.getD m 0=k:=by simp[cXk,hk]
      show aYp _ _ (fam.getD m 0) (g.getD m .non);rw[this];exact⟨p,M,U _ _ Z⟩
    exact go y hm
   ·have b6:k∈y.map (λm=>fam.getD m 0)↔k∈fam:=by
     constructor
     ·intro h;obtain⟨m,b4,rfl⟩:=cXr.mp h;have B:m<fam.length:=by rw[a8];exact hm m b4
      simp[cXk,cQw B]
     ·intro h;obtain⟨m,B,e⟩:=cXq h;refine cXr.mpr ⟨m,a5.mem_iff.mpr (cQ5.mpr (by omega)),?_⟩;simp[cXk,cQw B,e]
    rw[b6,a9 k];unfold Q1;simp
   ·rw[cZ7];exact b3
def bZZ{α β:Type}{F:α->β->Prop}:∀ {l:List α} {m:List β} {i:Nat} {y:β},cXn F l m->m[i]? =some y->∃x,l[i]? =some x/\F x y:=λh e=>bXV h e
def aJr{α:Type}(a:List Nat)(g:Nat->Bool)(h:Nat->α):((cQJ a.length).filter λm=>g (a.getD m 0)).map (λm=>h (a.getD m 0))=(a.filter g).map h:=by
 have e:(cQJ a.length).map (λm=>a.getD m 0)=a:=by
  apply cZN;intro i;rw[cQR];by_cases b:i<a.length
  ·rw[cZB b];simp[cQw b]
  ·rw[cXa (by simpa using b),cXa (by omega)];rfl
 conv=>rhs;rw[<- e,List.filter_map,cZf]
 rfl
def aYf:yO ["self","day"] ["self","day"] (yH aQT):=scM
def aKv:xO ["self","day"] (yH aQT) "pair" [] [] (lsN [(".0",.local),("pair",.local)]):=
 lcM
def aKS(cl:Cl K CB CL)(a:MG P w K mg base CX0 n CB "waiting_pairs" ["self","day"] (aV5 CB CL))(F:Fun K "waiting" "Book.waiting" aQT f fd):xL P w K mg base CX0 (n+1) f fd ["self","day"] (bYw CB CL false):=by
 have sc:=aYf;refine F.ok (k:=n) sc (λa1 A outer s H vs Q E hr h=>?_);obtain⟨B,Y,O,T,M,R,S,d,rfl,J,hR,hS,q⟩:=h;refine⟨_,(yF (yP (aQj aKv rfl (xN (jD a hr uT (pv 0) (yA (pv 1) yD))) (λ_ _ _ _ _=>wQ) (λ_ _ _ _ _=>(yL ixT (pv 0) yG))))),?_⟩;obtain⟨Z,hb⟩:=J.book;refine⟨_,rfl,B,Z,_,rfl,hb,rfl,_,rfl,B,Y,O,T,M,R,S,d,rfl,J,hR,hS,λl H1 g X I a0 o u c=>?_⟩;have r:g.length=X.length:=u.length;have U:g.length<=R.length:=Fm.vP (c.ord.imp λ{x y} e z=>by rw[z,Stree.vW]at e;cases e) λx hx=>((c.mem x).mp hx).1;refine⟨l,rfl,⟨_,SqL.of o⟩,λD t=>?_⟩;refine aKt (λ_=>true) (λm=>V.int (g.getD m 0:Nat)) (SqL.of o) t (zn (by omega)) (λj v L W R' C b=>b) (λj v L _ W R' C b=>?_) ?_
 ·obtain⟨k,N,p,e1,G⟩:=bXV u L;subst e1;have:g.getD j 0=k:=by simp[cXk,N]
  rw[this]at b;exact⟨_,rfl,p,_,1,_,rfl,rfl,SqT.of ((C p (yI G t)).trans G),rfl,b⟩
 ·have e:=aJr g (λ_=>true) λi=>V.int (i:Nat);rw[r]at e;rw[e,cZS.mpr λ_ _=>rfl];exact q D _ g (I.trans (yE t _)) (I.fresh t) yB c
def aYb:yO ["self","day"] ["self","day"] (yH aQS):=scM
def aKu:xO ["self","day"] (yH aQS) "pair" ["day"] [1] (lsN [(".0",.local),("pair",.local),("day",.free)]):=
 lcM
def aKO(cl:Cl K CB CL)(g:MG P w K mg base CX0 n CB "waiting_pairs" ["self","day"] (aV5 CB CL))(F:Fun K "overdue" "Book.overdue" aQS f fd):xL P w K mg base CX0 (n+1) f fd ["self","day"] (bYw CB CL true):=by
 have sc:=aYb;refine F.ok (k:=n) sc (λa1 A outer s H vs Q E hr h=>?_);obtain⟨O,la,X,Y,W,R,S,d,rfl,U,hR,hS,q⟩:=h;refine⟨_,(yF (yP (aQj aKu rfl (xN (jD g hr uT (pv 0) (yA (pv 1) yD))) (λ_ _ _ _ _=>(vA (yM uM (yL ixT (pv 0) yG) (pv 1)))) (λ_ _ _ _ _=>(yL ixT (pv 0) yG))))),?_⟩;obtain⟨dx,hb⟩:=U.book;refine⟨_,rfl,O,dx,_,rfl,hb,rfl,_,rfl,O,la,X,Y,W,R,S,d,rfl,U,hR,hS,λl H1 t ps T a0 C J r=>?_⟩;have G:t.length=ps.length:=J.length;have Z:t.length<=R.length:=Fm.vP (r.ord.imp λ{x y} e z=>by rw[z,Stree.vW]at e;cases e) λx hx=>((r.mem x).mp hx).1;refine⟨l,rfl,⟨_,SqL.of C⟩,λD u=>?_⟩;refine aKt (λm=>decide (Y7 R S (t.getD m 0)<d)) (λm=>V.int (t.getD m 0:Nat)) (SqL.of C) u (zn (by omega)) (λj v M H' R' L o=>?_) (λj v M _ H' R' L o=>?_) ?_
 ·obtain⟨k,I,p,N,B⟩:=bXV J M;subst N;have:t.getD j 0=k:=by simp[cXk,I]
  rw[this]at o;exact⟨_,rfl,p,_,0,_,rfl,rfl,SqT.of ((L p (yI B u)).trans B),rfl,_,rfl,_,_,rfl,rfl,_,rfl,o⟩
 ·obtain⟨k,I,p,N,B⟩:=bXV J M;subst N;have:t.getD j 0=k:=by simp[cXk,I]
  rw[this]at o;exact⟨_,rfl,p,_,1,_,rfl,rfl,SqT.of ((L p (yI B u)).trans B),rfl,o⟩
 ·have e:=aJr t (λk=>decide (Y7 R S k<d)) λi=>V.int (i:Nat);rw[G]at e;rw[e];refine q D _ (t.filter λk=>decide (Y7 R S k<d)) (T.trans (yE u _)) (T.fresh u) yB ⟨λk=>?_,r.ord.sublist cZp⟩;rw[cXA,r.mem k,decide_eq_true_eq];unfold Y7;constructor
  ·rintro⟨⟨a,b,_⟩,c⟩;exact⟨a,b,λ_=>c⟩
  ·rintro⟨a,b,c⟩;exact⟨⟨a,b,λz=>by cases z⟩,c rfl⟩
end
end Desk
namespace Desk
open PySem L2 PyProof.Rows
open Bk (Row Rows)
def own(la sa:Nat)(ls cs:List Nat):List Nat:=la::sa::(ls++cs)
def Q3(o:List Nat)(H c:Hp):Prop:=∀b u,b∉o->(∀a,u≠ .tbl a)->H b=some u->c b=some u
def Q3.of{o:List Nat}{H a:Hp}(k:zI H a):Q3 o H a:=λb u _ n e=>k b u n e
def Q3.trans{o:List Nat}{H f d:Hp}(a:Q3 o H f)(b:Q3 o f d):Q3 o H d:=λc u n t e=>b c u n t (a c u n t e)
def Q3.upd{o:List Nat}{H:Hp}{b:Nat}(a:b∈o)(u:HO):Q3 o H (upd H b u):=λc v n _ e=>by
 rw[yJ (λz=>n (by rw[z];exact a))];exact e
def aWu{la sa:Nat}{ls cs:List Nat}:la∈own la sa ls cs:=cQM
def bQC{la sa:Nat}{ls cs:List Nat}:sa∈own la sa ls cs:=cQI _ cQM
def aVD{la sa b:Nat}{ls cs:List Nat}(h:b∈ls):b∈own la sa ls cs:=cQI _ (cQI _ (cZl _ h))
def bWq{la sa b:Nat}{ls cs:List Nat}(h:b∈cs):b∈own la sa ls cs:=cQI _ (cQI _ (cQU _ h))
section
variable {CB CL:Nat}{H:Hp}{ba la sa:Nat}{ls cs:List Nat}{R:Rows}{S:List Int}
def PB.l_ne(h:PB CB CL H ba la sa ls cs R S){b a:Nat}{xs:List V}(j:b∈ls)(f:H a=some (.lst xs)):a≠b:=λz=>by
 obtain⟨i,c,e⟩:=cXq j;obtain⟨l,m,o,d,k,⟨p,g⟩,n⟩:=h.get (cQw (show i<R.length by rw[<- h.len];exact c));rw[cQw c,e]at d;cases d;rw[z,g]at f;cases f
def PB.ba_ne(h:PB CB CL H ba la sa ls cs R S):ba∉ls:=λz=>by
 obtain⟨i,b,e⟩:=cXq z;obtain⟨j,k,m,c,g,⟨n,d⟩,l⟩:=h.get (cQw (show i<R.length by rw[<- h.len];exact b));rw[cQw b,e]at c;cases c;obtain⟨f,a⟩:=h.book;rw[d]at a;cases a
def PB.set(h:PB CB CL H ba la sa ls cs R S){k:Nat}{b c dx:Nat}{r:Row}(m:ls[k]? =some b)(t:cs[k]? =some c)(u:R[k]? =some r)(f:Row->Row)(y:(f r).copies=r.copies): PB CB CL (upd H b (.ins CL dx (aJw k (f r) c))) ba la sa ls cs (Bk.xW R k f) S:=by
 have a:=cQP m;refine⟨?_,?_,?_,by rw[Bk.wP];exact h.len,by rw[Bk.wP];exact h.clen,h.nd,h.cnd,h.las,h.lac,h.sac,λi s x w l n g=>?_⟩
 ·obtain⟨d,e⟩:=h.book;exact⟨d,by rw[yJ (λz=>h.ba_ne (by rw[z];exact a))];exact e⟩
 ·rw[yJ (h.l_ne a h.lst)];exact h.lst
 ·rw[yJ (h.l_ne a h.sht)];exact h.sht
 ·rw[Bk.wA]at g;by_cases e:i=k
  ·subst e;rw[if_pos rfl,u]at g;cases g;rw[m]at l;cases l;rw[t]at n;cases n;obtain⟨_,j⟩:=h.row i b c r m t u;refine⟨⟨dx,yB⟩,?_⟩;rw[yJ (h.l_ne a j),y];exact j
  ·rw[if_neg e]at g;obtain⟨⟨d,v⟩,j⟩:=h.row i s x w l n g;have q:s≠b:=λz=>by
    subst z;obtain⟨B,p⟩:=cQK.mp l;obtain⟨A,o⟩:=cQK.mp m;exact e ((cZs h.nd).mp (p.trans o.symm))
   exact⟨⟨d,by rw[yJ q];exact v⟩,by rw[yJ (h.l_ne a j)];exact j⟩
def PB.copy(h:PB CB CL H ba la sa ls cs R S){k:Nat}{c:Nat}{r:Row}(d:cs[k]? =some c)(t:R[k]? =some r)(j:Str): PB CB CL (upd H c (.lst ((r.copies++ [j]).map V.str))) ba la sa ls cs (Bk.xW R k λr=>{r with copies:=r.copies++ [j] }) S:=by
 have l:=cQP d;obtain⟨b0,I,K,J,y,⟨F,G⟩,B⟩:=h.get t;rw[d]at y;cases y;have o:∀ {a C dx fs},H a=some (.ins C dx fs)->a≠c:=λq z=>by rw[z,B]at q;cases q
 refine⟨?_,?_,?_,by rw[Bk.wP];exact h.len,by rw[Bk.wP];exact h.clen,h.nd,h.cnd,h.las,h.lac,h.sac,λi u w A v m f=>?_⟩
 ·obtain⟨b,e⟩:=h.book;exact⟨b,by rw[yJ (o e)];exact e⟩
 ·rw[yJ (λz=>h.lac (by rw[z];exact l))];exact h.lst
 ·rw[yJ (λz=>h.sac (by rw[z];exact l))];exact h.sht
 ·rw[Bk.wA]at f;by_cases e:i=k
  ·subst e;rw[if_pos rfl,t]at f;cases f;rw[d]at m;cases m;obtain⟨⟨b,g⟩,x⟩:=h.row i u c r v d t;exact⟨⟨b,by rw[yJ (o g)];exact g⟩,yB⟩
  ·rw[if_neg e]at f;obtain⟨⟨b,g⟩,x⟩:=h.row i u w A v m f;have n:w≠c:=λz=>by
    subst z;obtain⟨E,s⟩:=cQK.mp m;obtain⟨D,p⟩:=cQK.mp d;exact e ((cZs h.cnd).mp (s.trans p.symm))
   exact⟨⟨b,by rw[yJ (o g)];exact g⟩,by rw[yJ n];exact x⟩
def PB.shutD(h:PB CB CL H ba la sa ls cs R S)(d:Int):PB CB CL (upd H sa (.lst ((S++ [d]).map V.int))) ba la sa ls cs R (S++ [d]):=by
 have c:∀ {a C dx fs},H a=some (.ins C dx fs)->a≠sa:=λq z=>by rw[z,h.sht]at q;cases q
 refine⟨?_,?_,yB,h.len,h.clen,h.nd,h.cnd,h.las,h.lac,h.sac,λi k m j l f n=>?_⟩
 ·obtain⟨b,e⟩:=h.book;exact⟨b,by rw[yJ (c e)];exact e⟩
 ·rw[yJ h.las];exact h.lst
 ·obtain⟨⟨b,g⟩,o⟩:=h.row i k m j l f n;exact⟨⟨b,by rw[yJ (c g)];exact g⟩,by rw[yJ (λz=>h.sac (by rw[<- z];exact cQP f))];exact o⟩
def PB.enter(h:PB CB CL H ba la sa ls cs R S){l c dx:Nat}{r:Row}{u:Hp}(hl:H l=none)(g:H c=none)(J:l≠c)(O:r.copies= [])(N:u l=some (.ins CL dx (aJw R.length r c)))(L:u c=some (.lst [])) (k:∀b o,H b=some o->u b=some o):PB CB CL (upd u la (.lst ((ls++ [l]).map V.ref))) ba la sa (ls++ [l]) (cs++ [c]) (R++ [r]) S:=by
 have y:l≠la:=λz=>by rw[z,h.lst]at hl;cases hl
 have n:c≠la:=λz=>by rw[z,h.lst]at g;cases g
 have E:∀ {a C dx fs},H a=some (.ins C dx fs)->a≠la:=λq z=>by rw[z,h.lst]at q;cases q
 have K:∀i b,ls[i]? =some b->i<R.length:=λi b q=>by rw[<- h.len];exact(cQK.mp q).1
 have nl:l∉ls:=λz=>by obtain⟨i,d,e⟩:=cXq z;obtain⟨v,x,s,p,w,⟨f,F⟩,G⟩:=h.get (cQw (show i<R.length by rw[<- h.len];exact d));rw[cQw d,e]at p;cases p;rw[F]at hl;cases hl
 have I:c∉cs:=λz=>by obtain⟨i,d,e⟩:=cXq z;obtain⟨v,x,s,p,w,F,G⟩:=h.get (cQw (show i<R.length by rw[<- h.clen];exact d));rw[cQw d,e]at w;cases w;rw[G]at g;cases g
 refine⟨?_,yB,?_,by simp[h.len],by simp[h.clen],?_,?_,h.las,?_,?_,λi v x M t j m=>?_⟩
 ·obtain⟨f,e⟩:=h.book;exact⟨f,by rw[yJ (E e)];exact k _ _ e⟩
 ·rw[yJ (cXg h.las)];exact k _ _ h.sht
 ·exact cZ6.mpr ⟨h.nd,cX0 _ _,λa A b D z=>nl (by rw[<- cQL.mp D,<- z];exact A)⟩
 ·exact cZ6.mpr ⟨h.cnd,cX0 _ _,λa A b D z=>I (by rw[<- cQL.mp D,<- z];exact A)⟩
 ·intro z;rcases cQ4.mp z with z|z
  ·exact h.lac z
  ·exact n (cQL.mp z).symm
 ·intro z;rcases cQ4.mp z with z|z
  ·exact h.sac z
  ·rw[<- cQL.mp z,h.sht]at g;cases g
 ·by_cases d:i<R.length
  ·rw[cXh (by rw[h.len];exact d)]at t;rw[cXh (by rw[h.clen];exact d)]at j;rw[cXh d]at m;obtain⟨⟨f,s⟩,p⟩:=h.row i v x M t j m;exact⟨⟨f,by rw[yJ (E s)];exact k _ _ s⟩,by rw[yJ (λz=>h.lac (by rw[<- z];exact cQP j))];exact k _ _ p⟩
  ·have B:i=R.length:=by
    have:=(cQK.mp m).1;simp at this;omega
   subst B;rw[cQX (by rw[h.len];exact cQE _),h.len,cXV]at t;rw[cQX (by rw[h.clen];exact cQE _),h.clen,cXV]at j;rw[cQX (cQE _),cXV]at m;cases t;cases j;cases m;exact⟨⟨dx,by rw[yJ y];exact N⟩,by rw[yJ n,L,O];rfl⟩
end
def aV4(CB:Nat):Sp:=λd H Q _=>∃ (x c:Nat),d= [.ref x]/\H x=some (.ins CB c [])/\
 ∀ (la sa:Nat)(a:Hp),H la=none->H sa=none->la≠sa->a x=some (.ins CB c [("letters",.ref la),("shut",.ref sa)])->a la=some (.lst [])->a sa=some (.lst [])->(∀b,b≠x->b≠la->b≠sa->a b=H b)->Q .non a
def bW4(CB CL:Nat):Sp:=λg H Q _=>∃ (ba la sa:Nat)(ls cs:List Nat)(R:Rows)(S:List Int)(a:Str)(d:Int)(e:Str)(t:Int),g= [.ref ba,.str a,.int d,.str e,.int t]/\PB CB CL H ba la sa ls cs R S/\R.length<=1000/\
 ∀ (l c:Nat)(f:Hp),H l=none->H c=none->PB CB CL f ba la sa (ls++ [l]) (cs++ [c]) (R++ [⟨a,d,e,t,none,"",false,[]⟩]) S->(∀b o,b≠la->H b=some o->f b=some o)->Q (.ref l) f
def aZZ(K:cQz)(Rf:Nat×Nat):Sp:=λa H Q E=>∃t:Int,a= [.int t]/\(0<=t->Q .non H)/\(t<0->xS K Rf H E "no term")
def aZY(K:cQz)(Rf:Nat×Nat):Sp:=λc H Q E=>∃a b:Int,c= [.int a,.int b]/\(a<=b->Q .non H)/\(b<a->xS K Rf H E "too early")
section
variable {K:cQz}
abbrev bQT:Stmt:=xQ "Book" "__init__"
abbrev bYS:Stmt:=xQ "Book" "add_letter"
abbrev bQ6:Stmt:=xM "check_term"
abbrev bQX:Stmt:=xM "check_days"
def bJj:yO ["self"] ["self"] (yH bQT):=scM
def bZH(cl:Cl K CB CL)(F:Fun K "__init__" "Book.__init__" bQT f fd):xL P w K mg base CX0 (n+1) f fd ["self"] (aV4 CB):=by
 have r:=bJj;refine F.ok (k:=n) r (λt A outer s H u Q E v h=>?_);obtain⟨x,l,rfl,m,q⟩:=h;refine⟨_,(yC (wJ (pv 0) (xB yD) rfl) (yF (wJ (pv 0) (xB yD) rfl))),?_⟩;refine⟨z0,λla g=>?_⟩;have c:x≠la:=yI m g;refine⟨_,rfl,x,CB,l,_,rfl,(yJ c).trans m,cl.b,cl.letters,(show 0<1000 by decide),?_⟩;refine⟨z0,λsa a=>?_⟩;have d:x≠sa:=yI yB a;have e:la≠sa:=λz=>by rw[<- z,yJ (cXg c),yB]at a;cases a
 refine⟨_,rfl,x,CB,l,_,rfl,(yJ d).trans yB,cl.b,cl.shut,(show 1<1000 by decide),?_⟩;have i:H sa=none:=by rw[yJ (cXg d),yJ (cXg e)]at a;exact a
 refine q la sa _ g i e yB ?_ ?_ λb j o p=>?_
 ·rw[yJ (cXg c),yJ e,yJ (cXg c),yB]
 ·rw[yJ (cXg d),yB]
 ·rw[yJ j,yJ p,yJ j,yJ o]
def bK6:yO ["self","way","day","partner","term","letter"] ["self","way","day","partner","term"] (yH bYS):=scM
def bKN(T:uJ mg)(cl:Cl K CB CL)(a:MkG P w K mg base n "Letter" CL ["self","number","way","day","partner","term"] (bXB CL))(F:Fun K "add_letter" "Book.add_letter" bYS f fd): xL P w K mg base CX0 (n+2) f fd ["self","way","day","partner","term"] (bW4 CB CL):=by
 have W:=bK6;refine F.ok (k:=n+1) W (λZ A outer s H vs Q E Y h=>?_);obtain⟨ba,la,sa,ls,cs,R,S,B,d,D,t,rfl,l,hR,q⟩:=h;refine⟨_,(yC (yU (i:=5) (bYO a Y rfl (yA (yR yN rfl T.b_len xG (yA (xC (pv 0) rfl) yD)) (yA (pv 1) (yA (pv 2) (yA (pv 3) (yA (pv 4) yD))))))) (yC (yZ (jC cQ3 cXc cXd xR (xC (pv 0) rfl) (yA (pv 5) yD))) (yF (yP (pv 5))))),?_⟩;obtain⟨I,J⟩:=l.book;have hl:(ls.map V.ref).length=R.length:=by rw[cQB];exact l.len
 refine⟨_,rfl,ba,CB,I,_,_,rfl,J,cl.b,cl.letters,rfl,la,_,rfl,.inl (SqL.of l.lst),?_⟩;rw[hl];refine⟨_,rfl,_,rfl,_,rfl,_,rfl,λx xd G y u=>?_⟩;refine⟨x,xd,R.length,B,d,D,t,rfl,yB,λc U j O L M=>⟨rfl,?_⟩⟩;dsimp only[yW];have m:c≠x:=λz=>by rw[z,yB]at j;cases j
 have C:c≠xd:=λz=>by rw[z,yJ u,yB]at j;cases j
 have g:H c=none:=by rw[yJ m,yJ C]at j;exact j
 have p:∀b o,H b=some o->U b=some o:=λb o e=>by have b1:=yI e G;have X:=yI e g;have N:=yI e y;rw[M b b1 X,yJ b1,yJ N];exact e
 refine⟨_,rfl,ba,CB,I,_,_,rfl,p _ _ J,cl.b,cl.letters,rfl,.inl ⟨rfl,_,SqL.of (p _ _ l.lst)⟩,_,rfl,la,_,_,rfl,rfl,p _ _ l.lst,zlt (by omega),?_⟩;refine⟨_,rfl,?_⟩;have r:=l.enter G g (cXg m) rfl O L p;rw[cXU]at r;refine q x c _ G g r λb o v e=>?_;rw[yJ v];exact p b o e
def bJx:yO ["term"] ["term"] (yH bQ6):=scM
def bZV(a:ExG P w K mg base n "NoTerm" Rf.1 C1 "no term")(F:Fun K "check_term" "check_term" bQ6 f fd):xL P w K mg base (CXR P w) (n+2) f fd ["term"] (aZZ K Rf):=by
 have e:=bJx;refine F.okX (k:=n+1) e (λg A outer s H i Q E d h=>?_);obtain⟨t,rfl,q,b⟩:=h;refine⟨_,(yF (xA (yM uM (pv 0) yG) (yF (vB a d rfl)) yS)),?_⟩;refine⟨_,rfl,_,_,rfl,rfl,_,rfl,?_⟩;refine X2 (λc=>?_) (λc=>?_)
 ·exact(b (of_decide_eq_true c)).raise a
 ·exact q (by have:=of_decide_eq_false (Bool.eq_false_iff.mpr c);omega)
def bJn:yO ["asked_day","reply_day"] ["asked_day","reply_day"] (yH bQX):=scM
def bZL(d:ExG P w K mg base n "TooEarly" Rf.1 C1 "too early")(F:Fun K "check_days" "check_days" bQX f fd):xL P w K mg base (CXR P w) (n+2) f fd ["asked_day","reply_day"] (aZY K Rf):=by
 have g:=bJn;refine F.okX (k:=n+1) g (λj A outer s H l Q E i h=>?_);obtain⟨a,b,rfl,q,e⟩:=h;refine⟨_,(yF (xA (yM uM (pv 1) (pv 0)) (yF (vB d i rfl)) yS)),?_⟩;refine⟨_,rfl,_,rfl,_,_,rfl,rfl,_,rfl,?_⟩;refine X2 (λc=>?_) (λc=>?_)
 ·exact(e (of_decide_eq_true c)).raise d
 ·exact q (by have:=of_decide_eq_false (Bool.eq_false_iff.mpr c);omega)
end
end Desk
namespace Desk
open PySem L2 PyProof.Rows
open Bk (Row Rows)
def uO(o:List Nat)(H a:Hp):Prop:=∀b u,b∉o->H b=some u->a b=some u
def uO.of{o:List Nat}{H a:Hp}(k:xJ H a):uO o H a:=λb u _ e=>k b u e
def uO.trans{o:List Nat}{H f d:Hp}(a:uO o H f)(b:uO o f d):uO o H d:=λc u n e=>b c u n (a c u n e)
def uO.upd{o:List Nat}{H:Hp}{b:Nat}(a:b∈o)(u:HO):uO o H (upd H b u):=λc v n e=>by
 rw[yJ (λz=>n (by rw[z];exact a))];exact e
def uO.t{o:List Nat}{H a:Hp}(k:uO o H a):Q3 o H a:=λb u n _ e=>k b u n e
def Z4(H:Hp)(o a:List Nat):Prop:=∀b∈a,b∈o\/H b=none
def Z4.refl{H:Hp}{o:List Nat}:Z4 H o o:=λb h=> .inl h
def Z4.snoc{H:Hp}{la sa l c:Nat}{ls cs:List Nat}(hl:H l=none)(a:H c=none):Z4 H (own la sa ls cs) (own la sa (ls++ [l]) (cs++ [c])):=λb h=>by
 rcases cQG.mp h with e|h
 ·exact .inl (by rw[e];exact aWu)
 rcases cQG.mp h with e|h
 ·exact .inl (by rw[e];exact bQC)
 rcases cQ4.mp h with h|h
 ·rcases cQ4.mp h with h|h
  ·exact .inl (aVD h)
  ·exact .inr (by rw[cQL.mp h];exact hl)
 ·rcases cQ4.mp h with h|h
  ·exact .inl (bWq h)
  ·exact .inr (by rw[cQL.mp h];exact a)
def aZ2(d CL f la sa:Nat)(ls cs:List Nat)(H:Hp)(e:Rows)(g:List Int)(q:Hp->Prop):Prop:=∀ (c:Hp)(a b:List Nat),PB d CL c f la sa a b e g->uO (own la sa ls cs) H c->Z4 H (own la sa ls cs) (own la sa a b)->q c
def bKJ(i:Nat)(r:Row)(c:Nat)(t:Int):List (Str×V):=
 [("number",.int (i:Nat)),("way",.str r.way),("day",.int r.date),("partner",.str r.partner),("term",.int t),("link",zV r.link),("file",W4 r),("copies",.ref c),("void",.bl r.void)]
def bXA(K:cQz)(Rf:Nat×Nat)(h CL:Nat):Sp:=λj H Q E=>∃ (c i f:Nat)(g e:List Nat)(R:Rows)(S:List Int)(a:Str)(d:Int)(b:Str)(t:Int),j= [.ref c,.str a,.int d,.str b,.int t]/\PB h CL H c i f g e R S/\R.length<=1000/\
 (0<=t->aZ2 h CL c i f g e H (R++ [⟨a,d,b,t,none,"",false,[]⟩]) S (Q (.int (R.length:Nat))))/\(t<0->xS K Rf H E "no term")
def bXF(K:cQz)(Rf:Nat×Nat)(f CL:Nat):Sp:=λh H Q E=>∃ (a g c:Nat)(e b:List Nat)(R:Rows)(S:List Int)(m d t:Int),h= [.ref a,.int m,.int d,.int t]/\PB f CL H a g c e b R S/\R.length<=1000/\
 (Bk.vK R m=false->xS K Rf H E "no letter")/\(Bk.vK R m=true->t<0->xS K Rf H E "no term")/\
 ∀ (k:Nat)(r:Row),m=(k:Int)->R[k]? =some r->r.void=false->0<=t->(d<r.date->xS K Rf H E "too early")/\(r.date<=d->aZ2 f CL a g c e b H (R++ [⟨Bk.Y4 r.way,d,r.partner,t,some k,r.place,false,[]⟩]) S (Q (.int (R.length:Nat))))
def aWS(K:cQz)(Rf:Nat×Nat)(c CL:Nat):Sp:=λg H Q E=>∃ (a f d:Nat)(e b:List Nat)(R:Rows)(S:List Int)(m:Int),g= [.ref a,.int m]/\PB c CL H a f d e b R S/\
 (Bk.vK R m=false->xS K Rf H E "no letter")/\∀ (k:Nat)(r:Row),m=(k:Int)->R[k]? =some r->r.void=false->(r.link=none->xS K Rf H E "has none")/\(r.link≠none->aZ2 c CL a f d e b H (Bk.xW R k λr=>{r with link:=none}) S (Q .non))
def aJX(K:cQz)(Rf:Nat×Nat)(e CL:Nat):Sp:=λg H Q E=>∃ (a f c:Nat)(d b:List Nat)(R:Rows)(S:List Int)(m t:Int),g= [.ref a,.int m,.int t]/\PB e CL H a f c d b R S/\
 (Bk.vK R m=false->xS K Rf H E "no letter")/\∀ (k:Nat)(r:Row),m=(k:Int)->R[k]? =some r->r.void=false->(t<0->xS K Rf H E "no term")/\(0<=t->aZ2 e CL a f c d b H (Bk.xW R k λr=>{r with term:=t}) S (Q .non))
def bVn(K:cQz)(Rf:Nat×Nat)(f CL:Nat):Sp:=λh H Q E=>∃ (b g d:Nat)(e c:List Nat)(R:Rows)(S:List Int)(m:Int)(a:Str),h= [.ref b,.int m,.str a]/\PB f CL H b g d e c R S/\(∀r∈R,r.copies.length<=1000)/\
 (Bk.vK R m=false->xS K Rf H E "no letter")/\∀ (k:Nat)(r:Row),m=(k:Int)->R[k]? =some r->r.void=false->(a=r.partner\/a∈r.copies->xS K Rf H E "copied")/\
  (a≠r.partner->a∉r.copies->aZ2 f CL b g d e c H (Bk.xW R k λr=>{r with copies:=r.copies++ [a] }) S (Q (.int ((r.copies.length:Nat)+1))))
def aWL(K:cQz)(Rf:Nat×Nat)(c CL:Nat):Sp:=λg H Q E=>∃ (a f d:Nat)(e b:List Nat)(R:Rows)(S:List Int)(m:Int),g= [.ref a,.int m]/\PB c CL H a f d e b R S/\R.length<=100/\
 (Bk.vK R m=false->xS K Rf H E "no letter")/\∀ (k:Nat)(r:Row),m=(k:Int)->R[k]? =some r->r.void=false->(Bk.vF R k≠ []->xS K Rf H E "answered")/\(Bk.vF R k= []->aZ2 c CL a f d e b H (Bk.xW R k λr=>{r with link:=none,void:=true}) S (Q .non))
def bVo(K:cQz)(Rf:Nat×Nat)(c CL:Nat):Sp:=λh H Q E=>∃ (a g e:Nat)(f b:List Nat)(R:Rows)(S:List Int)(d:Int),h= [.ref a,.int d]/\PB c CL H a g e f b R S/\S.length<=1000/\
 (Dm.cts S d=false->xS K Rf H E "counts not")/\(Dm.cts S d=true->aZ2 c CL a g e f b H R (S++ [d]) (Q .non))
def aWT(K:cQz)(Rf:Nat×Nat)(g CL:Nat):Sp:=λi H Q E=>∃ (a h e:Nat)(f b:List Nat)(R:Rows)(S:List Int)(m d:Int),i= [.ref a,.int m,.int d]/\PB g CL H a h e f b R S/\R.length<=100/\Bk.Z5 R/\
 (Bk.vK R m=false->xS K Rf H E "no letter")/\∀ (k:Nat)(r:Row),m=(k:Int)->R[k]? =some r->r.void=false->(((∃j,r.link=some j/\d<Bk.dt R j)\/∃c∈Bk.vF R k,Bk.dt R c<d)->xS K Rf H E "too early")/\
  ((∀j,r.link=some j->Bk.dt R j<=d)->(∀c∈Bk.vF R k,d<=Bk.dt R c)->aZ2 g CL a h e f b H (Bk.xW R k λr=>{r with date:=d}) S (Q .non))
def aYg(R:Rows)(r:Row)(f:Row->Row):Bk.xW (R++ [r]) R.length f=R++ [f r]:=by
 apply cZN;intro i;rw[Bk.wA];by_cases e:i=R.length
 ·subst e;rw[if_pos rfl,cQX (cQE _),cQX (cQE _),cXV];rfl
 ·rw[if_neg e];by_cases h:i<R.length
  ·rw[cXh h,cXh h]
  ·rw[cXa (by simp;omega),cXa (by simp;omega)]
section
variable {K:cQz}
abbrev bQZ:Stmt:=xQ "Book" "enter"
abbrev bQ4:Stmt:=xQ "Book" "reply"
abbrev aVP:Stmt:=xQ "Book" "loosen"
abbrev aZN:Stmt:=xQ "Book" "put_term"
abbrev bWJ:Stmt:=xQ "Book" "send_copy"
abbrev aVL:Stmt:=xQ "Book" "cancel"
abbrev bWK:Stmt:=xQ "Book" "shut_day"
abbrev aVQ:Stmt:=xQ "Book" "put_day"
def bJp:yO ["self","way","day","partner","term"] ["self","way","day","partner","term"] (yH bQZ):=scM
def bZN(cl:Cl K CB CL)(g:FnX P w K mg base n "check_term" ["term"] (aZZ K Rf))(a:MG P w K mg base CX0 n CB "add_letter" ["self","way","day","partner","term"] (bW4 CB CL)) (F:Fun K "enter" "Book.enter" bQZ f fd):xL P w K mg base (CXR P w) (n+1) f fd ["self","way","day","partner","term"] (bXA K Rf CB CL):=by
 have U:=bJp;refine F.okX (k:=n) U (λW A outer s H Y Q E y h=>?_);obtain⟨x,N,C,v,r,R,S,o,d,p,t,rfl,j,hR,q,G⟩:=h;refine⟨_,(yC (yZ (aXm g y rfl (yA (pv 4) yD))) (yF (yP (xC (jD a y uT (pv 0) (yA (pv 1) (yA (pv 2) (yA (pv 3) (yA (pv 4) yD))))) rfl)))),?_⟩;obtain⟨O,V⟩:=j.book;refine⟨_,rfl,t,rfl,λT=>?_,G⟩;refine⟨_,rfl,x,O,_,rfl,V,rfl,_,rfl,_,rfl,_,rfl,_,rfl,x,N,C,v,r,R,S,o,d,p,t,rfl,j,hR,λl c L hl B i M=>?_⟩;have J:(v++ [l])[R.length]? =some l:=by rw[<- j.len,cQX (cQE _),cXV];rfl
 have D:(r++ [c])[R.length]? =some c:=by rw[<- j.clen,cQX (cQE _),cXV];rfl
 obtain⟨⟨m,I⟩,X⟩:=i.row R.length l c _ J D (by rw[cQX (cQE _),cXV];rfl);exact⟨l,CL,m,_,_,rfl,I,cl.l,cl.number,rfl,q T L _ _ i (λb u n e=>M b u (λz=>n (by rw[z];exact aWu)) e) (Z4.snoc hl B)⟩
def bJu:yO ["self","number","day","term","asked","letter"] ["self","number","day","term"] (yH bQ4):=scM
def W5{R:Rows}{k:Nat}{r:Row}(a:R[k]? =some r)(b:r.void=false):Bk.vK R (k:Int)=true:=by rw[aJm a,b];rfl
def aZr{r:Row}(a:r.void=false):W4 r= .str r.place:=by unfold W4;rw[a];rfl
def bJJ{r:Row}(a:r.void=false):aQr r=r.term:=by unfold aQr;rw[a];rfl
def bZS(cl:Cl K CB CL)(p:MG P w K mg base (CXR P w) n CB "letter_at" ["self","number"] (aWJ K Rf CB CL))(g:FnX P w K mg base n "check_term" ["term"] (aZZ K Rf)) (j:FnX P w K mg base n "check_days" ["asked_day","reply_day"] (aZY K Rf)) (o:FnG P w K mg base n "other_way" ["way"] bXD) (a:MG P w K mg base CX0 n CB "add_letter" ["self","way","day","partner","term"] (bW4 CB CL)) (F:Fun K "reply" "Book.reply" bQ4 f fd):xL P w K mg base (CXR P w) (n+1) f fd ["self","number","day","term"] (bXF K Rf CB CL):=by
 have sc:=bJu;refine F.okX (k:=n) sc (λa0 A outer s H vs Q E C h=>?_);obtain⟨J,X,sa,L,I,R,S,m,d,t,rfl,B,hR,q1,q2,q3⟩:=h;refine⟨_,(yC (yU (i:=4) (jD p C wV (pv 0) (yA (pv 1) yD))) (yC (yZ (aXm g C rfl (yA (pv 3) yD))) (yC (yZ (aXm j C rfl (yA (xC (pv 4) rfl) (yA (pv 2) yD)))) (yC (yU (i:=5) (jD a C uT (pv 0) (yA (xU o C rfl (yA (xC (pv 4) rfl) yD)) (yA (pv 2) (yA (xC (pv 4) rfl) (yA (pv 3) yD)))))) (yC (wJ (pv 5) (pv 1) rfl) (yC (wJ (pv 5) (xC (pv 4) rfl) rfl) (yF (yP (xC (pv 5) rfl))))))))),?_⟩;obtain⟨O,hb⟩:=B.book;refine⟨_,rfl,J,O,_,rfl,hb,rfl,_,rfl,J,X,sa,L,I,R,S,m,rfl,B,λk r b em V Z U=>?_,q1⟩;subst em;obtain⟨W,cc,g1,g2,g3,⟨q,y⟩,g5⟩:=B.get V;obtain rfl:b=W:=cQS (U.symm.trans g2);dsimp only[yW];refine⟨_,rfl,t,rfl,λN=>?_,λN=>q2 (W5 V Z) N⟩;obtain⟨q4,q5⟩:=q3 k r rfl V Z N;refine⟨_,rfl,b,CL,q,_,_,rfl,y,cl.l,cl.day,rfl,_,rfl,r.date,d,rfl,λhd=>?_,q4⟩;refine⟨_,rfl,J,O,_,rfl,hb,rfl,_,rfl,b,CL,q,_,_,rfl,y,cl.l,cl.way,rfl,r.way,rfl,_,rfl,_,rfl,b,CL,q,_,_,rfl,y,cl.l,cl.partner,rfl,_,rfl,J,X,sa,L,I,R,S,Bk.Y4 r.way,d,r.partner,t,rfl,B,hR,λl c H1 hl hc G k1=>?_⟩;dsimp only[yW];have h1:(L++ [l])[R.length]? =some l:=by rw[<- B.len,cQX (cQE _),cXV];rfl
 have h2:(I++ [c])[R.length]? =some c:=by rw[<- B.clen,cQX (cQE _),cXV];rfl
 have h3:(R++ [(⟨Bk.Y4 r.way,d,r.partner,t,none,"",false,[]⟩:Row)])[R.length]? =some ⟨Bk.Y4 r.way,d,r.partner,t,none,"",false,[]⟩:=by rw[cQX (cQE _),cXV];rfl
 obtain⟨⟨v,f1⟩,f2⟩:=G.row R.length l c _ h1 h2 h3;refine⟨_,rfl,_,rfl,l,CL,v,_,rfl,f1,cl.l,cl.link,(show 9<1000 by decide),?_⟩;have Y:b≠l:=yI y hl;have M:b≠X:=λz=>by rw[z,B.lst]at y;cases y
 have T:upd H1 l (.ins CL v (aX0 "link" (.int (k:Nat)) (aJw R.length ⟨Bk.Y4 r.way,d,r.partner,t,none,"",false,[]⟩ c))) b=some (.ins CL q (aJw k r cc)):=(yJ Y).trans (k1 _ _ M y);refine⟨_,rfl,b,CL,q,_,_,rfl,T,cl.l,cl.file,rfl,_,rfl,l,CL,v,_,rfl,yB,cl.l,cl.file,(show 9<1000 by decide),?_⟩;rw[qM];refine⟨_,rfl,l,CL,v,_,_,rfl,yB,cl.l,cl.number,rfl,?_⟩;have D:=G.set (dx:=v) h1 h2 h3 (λx=>{x with link:=some k,place:=r.place}) rfl;rw[aYg]at D;have e9:aX0 "file" (W4 r) (aX0 "link" (.int (k:Nat)) (aJw R.length ⟨Bk.Y4 r.way,d,r.partner,t,none,"",false,[]⟩ c))=aJw R.length ⟨Bk.Y4 r.way,d,r.partner,t,some k,r.place,false,[]⟩ c:=by rw[aZr Z];rfl
 refine q5 hd _ (L++ [l]) (I++ [c]) ?_ (λW u nb e=>?_) (Z4.snoc hl hc)
 ·rw[e9];exact D
 ·rw[yJ (λz=>by rw[z]at e;rw[hl]at e;cases e)];exact k1 W u (λz=>nb (by rw[z];exact aWu)) e
def bXl:yO ["self","number","letter"] ["self","number"] (yH aVP):=scM
def bQv(cl:Cl K CB CL)(c:MG P w K mg base (CXR P w) (n+1) CB "letter_at" ["self","number"] (aWJ K Rf CB CL))(a:ExG P w K mg base n "HasNone" Rf.1 C1 "has none") (F:Fun K "loosen" "Book.loosen" aVP f fd):xL P w K mg base (CXR P w) (n+2) f fd ["self","number"] (aWS K Rf CB CL):=by
 have M:=bXl;refine F.okX (k:=n+1) M (λV A outer s H Y Q E v h=>?_);obtain⟨t,J,z,B,x,R,S,m,rfl,g,N,U⟩:=h;refine⟨_,(yC (yU (i:=2) (jD c v wV (pv 0) (yA (pv 1) yD))) (yC (xA (yM aX9 (xC (pv 2) rfl) zL) (yF (vB a v rfl)) yS) (yF (wJ (pv 2) zL rfl)))),?_⟩;obtain⟨L,O⟩:=g.book;refine⟨_,rfl,t,L,_,rfl,O,rfl,_,rfl,t,J,z,B,x,R,S,m,rfl,g,λk r b D p G o=>?_,N⟩;obtain⟨y,X,W,q,C,⟨d,u⟩,Z⟩:=g.get p;obtain rfl:b=y:=cQS (o.symm.trans q);obtain⟨I,T⟩:=U k r D p G;dsimp only[yW];refine⟨_,rfl,b,CL,d,_,_,rfl,u,cl.l,cl.link,rfl,rfl,_,rfl,?_⟩;cases e:r.link with
 |none=>exact onT rfl ((I e).raise a)
 |some j=>refine onF rfl ⟨_,rfl,b,CL,d,_,rfl,u,cl.l,cl.link,(show 9<1000 by decide),?_⟩;exact T (by rw[e];simp) _ _ _ (g.set q C p (λr=>{r with link:=none}) rfl) (uO.upd (aVD (cQP q)) _) Z4.refl
def aYc:yO ["self","number","term","letter"] ["self","number","term"] (yH aZN):=scM
def aKP(cl:Cl K CB CL)(c:MG P w K mg base (CXR P w) n CB "letter_at" ["self","number"] (aWJ K Rf CB CL))(a:FnX P w K mg base n "check_term" ["term"] (aZZ K Rf)) (F:Fun K "put_term" "Book.put_term" aZN f fd):xL P w K mg base (CXR P w) (n+1) f fd ["self","number","term"] (aJX K Rf CB CL):=by
 have N:=aYc;refine F.okX (k:=n) N (λX A outer s H Z Q E v h=>?_);obtain⟨q,J,z,B,x,R,S,m,t,rfl,d,O,W⟩:=h;refine⟨_,(yC (yU (i:=3) (jD c v wV (pv 0) (yA (pv 1) yD))) (yC (yZ (aXm a v rfl (yA (pv 2) yD))) (yF (wJ (pv 3) (pv 2) rfl)))),?_⟩;obtain⟨L,U⟩:=d.book;refine⟨_,rfl,q,L,_,rfl,U,rfl,_,rfl,q,J,z,B,x,R,S,m,rfl,d,λk r b G g u e=>?_,O⟩;obtain⟨y,p,Y,o,D,⟨j,T⟩,g5⟩:=d.get g;obtain rfl:b=y:=cQS (e.symm.trans o);obtain⟨I,V⟩:=W k r G g u;dsimp only[yW];refine⟨_,rfl,t,rfl,λM=>?_,I⟩;refine⟨_,rfl,_,rfl,b,CL,j,_,rfl,T,cl.l,cl.term,(show 9<1000 by decide),?_⟩;have C:aX0 "term" (.int t) (aJw k r p)=aJw k {r with term:=t} p:=by show bKJ k {r with term:=t} p t=_;unfold bKJ aJw;rw[bJJ (r:={r with term:=t}) u]
 rw[C];exact V M _ _ _ (d.set o D g (λr=>{r with term:=t}) rfl) (uO.upd (aVD (cQP o)) _) Z4.refl
def bWX:yO ["self","number","person","letter"] ["self","number","person"] (yH bWJ):=scM
def bWl(T:uJ mg)(cl:Cl K CB CL)(e:MG P w K mg base (CXR P w) (n+1) CB "letter_at" ["self","number"] (aWJ K Rf CB CL))(a:MG P w K mg base CX0 (n+1) CL "has_gone_to" ["self","person"] (bVi CL))(d:ExG P w K mg base n "Copied" Rf.1 C1 "copied") (F:Fun K "send_copy" "Book.send_copy" bWJ f fd):xL P w K mg base (CXR P w) (n+2) f fd ["self","number","person"] (bVn K Rf CB CL):=by
 have sc:=bWX;refine F.okX (k:=n+1) sc (λa0 A outer s H vs Q E B h=>?_);obtain⟨C,X,L,M,I,R,S,m,g,rfl,q,y,q1,q2⟩:=h;refine⟨_,(yC (yU (i:=3) (jD e B wV (pv 0) (yA (pv 1) yD))) (yC (xA (zA (jD a B uT (pv 3) (yA (pv 2) yD))) (yF (vB d B rfl)) yS) (yC (yZ (jC cQ3 cXc cXd xR (xC (pv 3) rfl) (yA (pv 2) yD))) (yF (yP (yR yN rfl T.b_len xG (yA (xC (pv 3) rfl) yD))))))),?_⟩;obtain⟨Z,hb⟩:=q.book;refine⟨_,rfl,C,Z,_,rfl,hb,rfl,_,rfl,C,X,L,M,I,R,S,m,rfl,q,λk r b O p U v=>?_,q1⟩;obtain⟨J,t,g1,Y,D,⟨j,o⟩,u⟩:=q.get p;obtain rfl:b=J:=cQS (v.symm.trans Y);obtain⟨W,q4⟩:=q2 k r O p U;have G:=y r (cQP p);dsimp only[yW];refine⟨_,rfl,b,j,_,rfl,o,rfl,_,rfl,b,k,r,t,g,rfl,⟨j,o⟩,u,_,rfl,?_⟩;refine X2 (λc=>?_) (λc=>?_)
 ·refine(W ?_).raise d;rw[Bool.or_eq_true,decide_eq_true_eq,cZe]at c;exact c
 ·rw[Bool.or_eq_true,decide_eq_true_eq,cZe,not_or]at c;have x:b≠t:=λz=>by rw[z,u]at o;cases o
  refine⟨_,rfl,b,CL,j,_,_,rfl,o,cl.l,cl.copies,rfl,.inl ⟨rfl,_,SqL.of u⟩,_,rfl,t,_,_,rfl,rfl,u,zlt (by rw[cQB];omega),?_⟩;refine⟨_,rfl,b,CL,j,_,_,rfl,(yJ x).trans o,cl.l,cl.copies,rfl,t,_,rfl,.inl (SqL.of yB),?_⟩;have N:r.copies.map V.str++ [V.str g]=(r.copies++ [g]).map V.str:=by simp
  rw[N];have e8:((r.copies++ [g]).map V.str).length=r.copies.length+1:=by simp
  rw[e8];exact q4 c.1 c.2 _ _ _ (q.copy D p g) (uO.upd (bWq (cQP D)) _) Z4.refl
def bXf:yO ["self","number","letter"] ["self","number"] (yH aVL):=scM
def bQp(T:uJ mg)(cl:Cl K CB CL)(e:MG P w K mg base (CXR P w) (n+1) CB "letter_at" ["self","number"] (aWJ K Rf CB CL))(d:MG P w K mg base CX0 (n+1) CB "answers_to" ["self","letter"] (aV3 CB CL))(g:MG P w K mg base CX0 (n+1) CL "make_void" ["self"] (bVp CL))(a:ExG P w K mg base n "Answered" Rf.1 C1 "answered") (F:Fun K "cancel" "Book.cancel" aVL f fd):xL P w K mg base (CXR P w) (n+2) f fd ["self","number"] (aWL K Rf CB CL):=by
 have X:=bXf;refine F.okX (k:=n+1) X (λa0 A outer s H vs Q E u h=>?_);obtain⟨q,G,D,y,C,R,S,m,rfl,o,hR,Y,q2⟩:=h;refine⟨_,(yC (yU (i:=2) (jD e u wV (pv 0) (yA (pv 1) yD))) (yC (xA (yM aXY (yR yN rfl T.b_len xG (yA (jD d u uT (pv 0) (yA (pv 2) yD)) yD)) yG) (yF (vB a u rfl)) yS) (yF (yZ (bZ3 g u uT (pv 2)))))),?_⟩;obtain⟨I,L⟩:=o.book;refine⟨_,rfl,q,I,_,rfl,L,rfl,_,rfl,q,G,D,y,C,R,S,m,rfl,o,λk r b O x U v=>?_,Y⟩;obtain⟨M,Z,g1,t,N,⟨j,J⟩,g5⟩:=o.get x;obtain rfl:b=M:=cQS (v.symm.trans t);obtain⟨W,q4⟩:=q2 k r O x U;dsimp only[yW];refine⟨_,rfl,q,I,_,rfl,L,rfl,_,rfl,q,G,D,y,C,R,S,k,b,rfl,o,t,hR,λl hl=>?_⟩;refine⟨l,_,rfl,.inl (SqL.of yB),_,_,rfl,rfl,_,rfl,?_⟩;have p:=yE hl (.lst ((Bk.vF R k).map λk=>(y.map V.ref).getD k .non));rw[cQB];refine X2 (λc=>?_) (λc=>?_)
 ·refine((W λz=>?_).go (aYq.of p)).raise a;have:=of_decide_eq_true c;rw[z]at this;simp at this
 ·have B:Bk.vF R k= []:=by
   have:=of_decide_eq_false (Bool.eq_false_iff.mpr c);exact cZQ (by omega)
  refine⟨_,rfl,b,j,_,rfl,p _ _ J,rfl,b,j,k,r,Z,rfl,p _ _ J,?_⟩;exact q4 B _ _ _ ((o.same p).set t N x (λr=>{r with link:=none,void:=true}) rfl) ((uO.of p).trans (uO.upd (aVD (cQP t)) _)) Z4.refl
def bWY:yO ["self","day"] ["self","day"] (yH bWK):=scM
def bWm(cl:Cl K CB CL)(c:FnG P w K mg base (n+1) "counts" ["shut","date"] (Days.aWO K))(a:ExG P w K mg base n "CountsNot" Rf.1 C1 "counts not") (F:Fun K "shut_day" "Book.shut_day" bWK f fd):xL P w K mg base (CXR P w) (n+2) f fd ["self","day"] (bVo K Rf CB CL):=by
 have q:=bWY;refine F.okX (k:=n+1) q (λu A outer s H B Q E o h=>?_);obtain⟨j,y,i,x,v,R,S,d,rfl,e,z,r,t⟩:=h;refine⟨_,(yC (xA (vH (zA (xU c o rfl (yA (xC (pv 0) rfl) (yA (pv 1) yD))))) (yF (vB a o rfl)) yS) (yF (yZ (jC cQ3 cXc cXd xR (xC (pv 0) rfl) (yA (pv 1) yD))))),?_⟩;obtain⟨l,m⟩:=e.book;refine⟨_,rfl,j,CB,l,_,_,rfl,m,cl.b,cl.shut,rfl,_,rfl,i,S,d,rfl,SqL.of e.sht,_,rfl,?_⟩;cases g:Dm.cts S d with
 |false=>exact onT rfl ((r g).raise a)
 |true=>
  refine onF rfl ⟨_,rfl,j,CB,l,_,_,rfl,m,cl.b,cl.shut,rfl,.inl ⟨rfl,_,SqL.of e.sht⟩,_,rfl,i,_,_,rfl,rfl,e.sht,zlt (by rw[cQB];omega),?_⟩;have p:S.map V.int++ [V.int d]=(S++ [d]).map V.int:=by simp
  rw[p];exact t g _ _ _ (e.shutD d) (uO.upd bQC _) Z4.refl
def bXm:yO ["self","number","day","letter","reply"] ["self","number","day"] (yH aVQ):=scM
def bQw(cl:Cl K CB CL)(g:MG P w K mg base (CXR P w) n CB "letter_at" ["self","number"] (aWJ K Rf CB CL))(p:MG P w K mg base CX0 n CB "answers_to" ["self","letter"] (aV3 CB CL))(a:FnX P w K mg base n "check_days" ["asked_day","reply_day"] (aZY K Rf)) (F:Fun K "put_day" "Book.put_day" aVQ f fd):xL P w K mg base (CXR P w) (n+1) f fd ["self","number","day"] (aWT K Rf CB CL):=by
 have sc:=bXm;refine F.okX (k:=n) sc (λa6 A outer s H vs Q E M h=>?_);obtain⟨y,la,sa,I,cs,R,S,m,d,rfl,B,hR,a3,q1,q2⟩:=h;refine⟨_,(yC (yU (i:=3) (jD g M wV (pv 0) (yA (pv 1) yD))) (yC (xA (yM wZ (xC (pv 3) rfl) zL) (yF (yZ (aXm a M rfl (yA (xC (jD g M wV (pv 0) (yA (xC (pv 3) rfl) yD)) rfl) (yA (pv 2) yD))))) yS) (yC (wT PassesOwn.leaving rfl (xN (jD p M uT (pv 0) (yA (pv 3) yD))) (xI (i:=4)) (yF (yZ (aXm a M rfl (yA (pv 2) (yA (xC (pv 4) rfl) yD)))))) (yF (wJ (pv 3) (pv 2) rfl))))),?_⟩;obtain⟨dx,hb⟩:=B.book;refine⟨_,rfl,y,dx,_,rfl,hb,rfl,_,rfl,y,la,sa,I,cs,R,S,m,rfl,B,λk r b em hk hv a2=>?_,q1⟩;obtain⟨b',cc,g1,g2,g3,⟨C,g4⟩,g5⟩:=B.get hk;obtain rfl:b=b':=cQS (a2.symm.trans g2);obtain⟨q3,q4⟩:=q2 k r em hk hv;dsimp only[yW];refine zU (λU H'=>U= [some (.ref y),some (.int m),some (.int d),some (.ref b),none]/\H'=H/\∀j,r.link=some j->Bk.dt R j<=d) ?_ λjn=>?_
 ·rintro U H' ⟨rfl,rfl,hj⟩;refine⟨_,rfl,y,dx,_,rfl,hb,rfl,_,rfl,y,la,sa,I,cs,R,S,k,b,rfl,B,g2,hR,λl hl=>?_⟩;have Y:=yE hl (.lst ((Bk.vF R k).map λk=>(I.map V.ref).getD k .non));refine⟨l,rfl,⟨_,SqL.of yB⟩,?_⟩;refine zS (xs:=(Bk.vF R k).map λk=>(I.map V.ref).getD k .non) (λt σ H1=>∃o:Option V,σ= [some (.ref y),some (.int m),some (.int d),some (.ref b),o]/\H1=upd H' l (.lst ((Bk.vF R k).map λk=>(I.map V.ref).getD k .non))/\∀i c,i<t->(Bk.vF R k)[i]? =some c->d<=Bk.dt R c) ?_ ?_ ?_ ?_
  ·exact⟨none,rfl,rfl,λi c z=>absurd z (cZg _)⟩
  ·rintro t σ H1 ht ⟨o,rfl,rfl,Z⟩;exact SqL.of yB
  ·rintro t x σ H1 W ⟨o,rfl,rfl,Z⟩;rw[cQR]at W;cases J:(Bk.vF R k)[t]? with
   |none=>rw[J]at W;cases W
   |some c=>
    rw[J]at W;have N:=cQP J;have a5:c<R.length:=cQ5.mp (cXA.mp N).1;have D:=cQw a5;obtain⟨bc,c2,f1,f2,f3,⟨a0,f4⟩,f5⟩:=(B.same Y).get D;have ex:(I.map V.ref).getD c .non= .ref bc:=by simp only[cXk,f1];rfl
    obtain rfl:x= .ref bc:=by have z:=cQS W;rw[<- z];exact ex
    dsimp only[yW];refine⟨_,rfl,_,rfl,bc,CL,a0,_,_,rfl,f4,cl.l,cl.day,rfl,d,R[c].date,rfl,λq=>?_,λq=>?_⟩
    ·refine⟨_,rfl,rfl,λi c' hi G=>?_⟩;by_cases e:i=t
     ·subst e;rw[J]at G;cases G;rw[Bk.uK D];exact q
     ·exact Z i c' (by omega) G
    ·exact(q3 (.inr ⟨c,N,by rw[Bk.uK D];exact q⟩)).go (aYq.of Y)
  ·rintro σ H1 ⟨o,rfl,rfl,Z⟩;have T:∀c∈Bk.vF R k,d<=Bk.dt R c:=λc J=>by
    obtain⟨i,hi,e⟩:=cXq J;exact Z i c (by rw[cQB];exact hi) (by rw[cQw hi,e])
   refine⟨_,rfl,_,rfl,b,CL,C,_,rfl,Y _ _ g4,cl.l,cl.day,(show 9<1000 by decide),?_⟩;exact q4 hj T _ _ _ ((B.same Y).set g2 g3 hk (λr=>{r with date:=d}) rfl) ((uO.of Y).trans (uO.upd (aVD (cQP g2)) _)) Z4.refl
 ·refine⟨_,rfl,b,CL,C,_,_,rfl,g4,cl.l,cl.link,rfl,rfl,_,rfl,?_⟩;cases v:r.link with
  |none=>exact onF rfl (jn _ _ ⟨rfl,rfl,λj hj=>by rw[v]at hj;cases hj⟩)
  |some j=>
   obtain⟨qj,u,a4⟩:=a3.ans k j r hk v;obtain⟨bj,cj,f1,f2,f3,⟨a1,f4⟩,f5⟩:=B.get u;refine onT rfl ⟨_,rfl,y,dx,_,rfl,hb,rfl,_,rfl,b,CL,C,_,_,rfl,g4,cl.l,cl.link,rfl,?_⟩;rw[v];refine⟨y,la,sa,I,cs,R,S,(j:Nat),rfl,B,λk2 r2 b2 e2 O a7 X=>?_,λhg=>?_⟩
   ·obtain rfl:j=k2:=by omega
    rw[u]at O;cases O;rw[f2]at X;cases X;refine⟨bj,CL,a1,_,_,rfl,f4,cl.l,cl.day,rfl,_,rfl,qj.date,d,rfl,λq=>?_,λq=>?_⟩
    ·refine jn _ _ ⟨rfl,rfl,λj' L=>?_⟩;rw[v]at L;cases L;rw[Bk.uK u];exact q
    ·exact q3 (.inl ⟨j,v,by rw[Bk.uK u];exact q⟩)
   ·rw[W5 u a4.2.1]at hg;cases hg
end
end Desk
namespace Desk
open PySem L2 PyProof.Rows
open Bk (Row Rows)
open Thr (vE jB W1)
def bXU{R:Rows}(b:Bk.Z5 R){rk:Nat->Nat}(o:Fm.Ok R.length (Bk.lk R) rk){i:Nat}(f:i<R.length):∀r q,R[i]? =some r->R[Fm.tp (Bk.lk R) rk i]? =some q->r.void=q.void:=
 Fm.aZk o (P:=λi=>∀r q,R[i]? =some r->R[Fm.tp (Bk.lk R) rk i]? =some q->r.void=q.void)
  (λi _ h r q a c=>by rw[Fm.wM h,a]at c;cases c;rfl)
  (λi j f h g r q a c=>by
   rw[Bk.uL a]at h;obtain⟨k,e,d⟩:=b.ans i j r a h;rw[Fm.uW o f (by rw[Bk.uL a];exact h)]at c;rw[d.1,<- g k q e c,d.2.1]) (rk i) i (cQE _) f
def bJK{R:Rows}(b:Bk.Z5 R){k j:Nat}{r:Row}(f:R[k]? =some r)(g:r.void=false)(h:j∈Bk.thr R k):∃q,R[j]? =some q/\q.void=false:=by
 obtain⟨l,o,_,i⟩:=Bk.Q0 b.tree k;obtain⟨a,d⟩:=(i j).mp h;have c:=Bk.wU f;have e:=(Fm.bXS o c).1;refine⟨_,cQw a,?_⟩;rw[bXU b o a _ _ (cQw a) (by rw[d];exact cQw e),<- bXU b o c _ _ f (cQw e)];exact g
def bKc{R:Rows}(t:Bk.qN R){i j:Nat}{r:Row}(e:R[i]? =some r)(hl:r.link=none)(a:j<R.length):j∈Bk.thr R i↔(Bk.thr R j).head? =some i:=by
 obtain⟨h,o,d⟩:=Bk.Y2 t a;obtain⟨b,f,_,g⟩:=Bk.Q0 t i;rw[g j,d];have c:Fm.tp (Bk.lk R) b i=i:=Fm.wM (by rw[Bk.uL e];exact hl);rw[c,Fm.Z3 f o a];exact⟨λz=>by rw[z.2],λz=>⟨a,cQS z⟩⟩
def Y0(K:cQz)(Rf:Nat×Nat)(g CL:Nat):Sp:=λn H Q E=>∃ (c j e:Nat)(f d:List Nat)(R:Rows)(S:List Int)(m:Int),n= [.ref c,.int m]/\PB g CL H c j e f d R S/\R.length<64/\Bk.qN R/\vE Rf.2 H/\
 (Bk.vK R m=false->xS K Rf H E "no letter")/\∀ (k:Nat)(r:Row),m=(k:Int)->R[k]? =some r->r.void=false->∀ (a:Hp)(l:Nat),(∀b u,(∀h,u≠HO.tbl h)->H b=some u->b≠l)->zI H a->vE Rf.2 a->a l=some (.lst ((Bk.thr R k).map λi=>V.int (i:Nat)))->Q (.ref l) a
def bKh(T d CL f la sa:Nat)(ls cs:List Nat)(H:Hp)(e:Rows)(g:List Int)(q:Hp->Prop):Prop:=∀ (c:Hp)(a b:List Nat),PB d CL c f la sa a b e g->Q3 (own la sa ls cs) H c->Z4 H (own la sa ls cs) (own la sa a b)->vE T c->q c
def bW6(K:cQz)(Rf:Nat×Nat)(h CL:Nat):Sp:=λi H Q E=>∃ (f g d:Nat)(e c:List Nat)(R:Rows)(S:List Int)(m:Int)(a:Str),i= [.ref f,.int m,.str a]/\PB h CL H f g d e c R S/\R.length<64/\Bk.Z5 R/\vE Rf.2 H/\
 (Bk.vK R m=false->xS K Rf H E "no letter")/\∀ (k:Nat)(r:Row),m=(k:Int)->R[k]? =some r->r.void=false->∀ (b:Hp),PB h CL b f g d e c (Bk.laid R (Bk.thr R k) a) S->Q3 (own g d e c) H b->vE Rf.2 b->Q (.int ((Bk.thr R k).length:Nat)) b
section
variable {K:cQz}
abbrev J9:Stmt:=xQ "Book" "thread_of"
abbrev bYV:Stmt:=xQ "Book" "lay_thread"
def aV1:yO ["self","number","links","dates"] ["self","number"] (yH J9):=scM
def aXe:xO ["self","number","links","dates"] (yH J9) "letter" [] [] (lsN [(".0",.local),("letter",.local)]):=
 lcM
def aVB(cl:Cl K CB CL)(c:MG P w K mg base (CXR P w) n CB "letter_at" ["self","number"] (aWJ K Rf CB CL))(d:FnG P w K mg base n "thread" ["links","dates","number"] (Thr.aWV Rf.2)) (F:Fun K "thread_of" "Book.thread_of" J9 f fd):xL P w K mg base (CXR P w) (n+1) f fd ["self","number"] (Y0 K Rf CB CL):=by
 have sc:=aV1;refine F.okX (k:=n) sc (λa3 A outer s H vs Q E hr h=>?_);obtain⟨N,Z,sa,ls,cs,R,S,m,rfl,C,hR,hT,tb,q1,q2⟩:=h;refine⟨_,(yC (yZ (jD c hr wV (pv 0) (yA (pv 1) yD))) (yC (aXZ (i:=2) aXe rfl sc.nd rfl rfl (xN (xC (pv 0) rfl)) (λ_ _ _ _ _=>wQ) (λ_ _ _ _ _=>(aXl (K:=K) (pv 0) rfl))) (yC (aXZ (i:=3) aXe rfl sc.nd rfl rfl (xN (xC (pv 0) rfl)) (λ_ _ _ _ _=>wQ) (λ_ _ _ _ _=>(aXl (K:=K) (pv 0) rfl))) (yF (yP (xU d hr rfl (yA (pv 2) (yA (pv 3) (yA (pv 1) yD))))))))),?_⟩;obtain⟨W,X⟩:=C.book;have hl:(ls.map V.ref).length=R.length:=by rw[cQB];exact C.len
 refine⟨_,rfl,N,W,_,rfl,X,rfl,_,rfl,N,Z,sa,ls,cs,R,S,m,rfl,C,λk r b em hk q a2=>?_,q1⟩;subst em;have J:=Bk.wU hk;have x:(cQJ R.length).filter (λ_=>true)=cQJ R.length:=cZS.mpr λ_ _=>rfl;refine⟨_,rfl,N,CB,W,_,_,rfl,X,cl.b,cl.letters,rfl,Z,rfl,⟨_,SqL.of C.lst⟩,λD T=>?_⟩;refine aKt (λ_=>true) (λi=>Thr.zV (Bk.lk R i)) (SqL.of C.lst) T (zn (by omega)) (λj v q O Y L a=>a) (λj v q _ O Y L a=>?_) ?_
 ·have hj:j<R.length:=by rw[<- hl];exact(cQK.mp q).1
  have g:=cQw hj;obtain⟨I,c2,p,G,U,⟨z,M⟩,k5⟩:=C.get g;obtain rfl:v= .ref I:=cQS (q.symm.trans p);rw[Bk.uL g]at a;exact⟨_,rfl,I,CL,z,_,_,rfl,(L _ (yI M T)).trans M,cl.l,cl.link,rfl,a⟩
 rw[hl,x];dsimp only[yW];have p:=yE T (.lst ((cQJ R.length).map λi=>Thr.zV (Bk.lk R i)));have B:=C.same p;refine⟨_,rfl,N,CB,W,_,_,rfl,p _ _ X,cl.b,cl.letters,rfl,Z,rfl,⟨_,SqL.of B.lst⟩,λD2 y=>?_⟩;refine aKt (λ_=>true) (λi=>V.int (Bk.dt R i)) (SqL.of B.lst) y (zn (by omega)) (λj v q O Y L a=>a) (λj v q _ O Y L a=>?_) ?_
 ·have hj:j<R.length:=by rw[<- hl];exact(cQK.mp q).1
  have g:=cQw hj;obtain⟨I,c2,p,G,U,⟨z,M⟩,k5⟩:=B.get g;obtain rfl:v= .ref I:=cQS (q.symm.trans p);rw[Bk.uK g]at a;exact⟨_,rfl,I,CL,z,_,_,rfl,(L _ (yI M y)).trans M,cl.l,cl.day,rfl,a⟩
 rw[hl,x];dsimp only[yW];have G:=yE y (.lst ((cQJ R.length).map λi=>V.int (Bk.dt R i)));obtain⟨rk,o⟩:=hT;have a0:vE Rf.2 (upd (upd H D (.lst ((cQJ R.length).map λi=>Thr.zV (Bk.lk R i)))) D2 (.lst ((cQJ R.length).map λi=>V.int (Bk.dt R i)))):=by
  have kk:=p.trans G;rcases tb with t|⟨c',t1,t2⟩
  ·exact .inl (kk _ _ t)
  ·exact .inr ⟨c',kk _ _ t1,kk _ _ t2⟩
 refine⟨_,rfl,_,rfl,_,rfl,D,D2,R.length,Bk.lk R,rk,Bk.dt R,k,rfl,G _ _ yB,yB,o,by omega,J,a0,λH3 r3 a1 n3 U t3 h3 hp hm=>?_⟩;have e:=Bk.aZj J ⟨rk,o,hp,hm⟩;refine q2 k r rfl hk q H3 r3 (λb u nt e=>n3 b u nt ((p.trans G) _ _ e)) ((p.trans G).t.trans U) t3 ?_;rw[e];exact h3
end
end Desk
namespace Desk
open PySem L2 PyProof.Rows
open Bk (Row Rows)
open Thr (vE jB W1)
def zC{T:Nat}{o:List Nat}{H g:Hp}(t:vE T H)(k:uO o H g)(l:∀b∈o,∀u,H b=some u->(∃a,u= .lst a)\/∃C c fs,u= .ins C c fs):vE T g:=by
 have no:∀b u,H b=some u->(∀a,u≠ .lst a)->(∀C c fs,u≠ .ins C c fs)->b∉o:=λb u e j h z=>by
  rcases l b z u e with⟨a,q⟩|⟨C,c,fs,q⟩
  ·exact j _ q
  ·exact h _ _ _ q
 rcases t with t|⟨i,f,d⟩
 ·exact .inl (k _ _ (no _ _ t (by intro _ z;cases z) (by intro _ _ _ z;cases z)) t)
 ·exact .inr ⟨i,k _ _ (no _ _ f (by intro _ z;cases z) (by intro _ _ _ z;cases z)) f,k _ _ (no _ _ d (by intro _ z;cases z) (by intro _ _ _ z;cases z)) d⟩
def PB.kinds{r CL:Nat}{H:Hp}{o la sa:Nat}{ls cs:List Nat}{R:Rows}{S:List Int}(h:PB r CL H o la sa ls cs R S):∀b∈own la sa ls cs,∀u,H b=some u->(∃l,u= .lst l)\/∃C g fs,u= .ins C g fs:=λb a u e=>by
 rcases cQG.mp a with rfl|a
 ·rw[h.lst]at e;cases e;exact .inl ⟨_,rfl⟩
 rcases cQG.mp a with rfl|a
 ·rw[h.sht]at e;cases e;exact .inl ⟨_,rfl⟩
 rcases cQ4.mp a with a|a
 ·obtain⟨i,c,q⟩:=cXq a;obtain⟨m,p,n,f,d,⟨g,j⟩,k⟩:=h.get (cQw (show i<R.length by rw[<- h.len];exact c));rw[cQw c,q]at f;cases f;rw[j]at e;cases e;exact .inr ⟨_,_,_,rfl⟩
 ·obtain⟨i,c,q⟩:=cXq a;obtain⟨m,p,n,f,d,j,k⟩:=h.get (cQw (show i<R.length by rw[<- h.clen];exact c));rw[cQw c,q]at d;cases d;rw[k]at e;cases e;exact .inl ⟨_,rfl⟩
def PB.notown{r CL:Nat}{H:Hp}{o la sa:Nat}{ls cs:List Nat}{R:Rows}{S:List Int}(h:PB r CL H o la sa ls cs R S){l:Nat}(n:∀b u,(∀s,u≠HO.tbl s)->H b=some u->b≠l):l∉own la sa ls cs:=λa=>by
 rcases cQG.mp a with e|a
 ·exact n la _ (by intro _ z;cases z) h.lst e.symm
 rcases cQG.mp a with e|a
 ·exact n sa _ (by intro _ z;cases z) h.sht e.symm
 rcases cQ4.mp a with a|a
 ·obtain⟨i,c,q⟩:=cXq a;obtain⟨k,p,m,f,d,⟨t,g⟩,j⟩:=h.get (cQw (show i<R.length by rw[<- h.len];exact c));rw[cQw c,q]at f;cases f;exact n l _ (by intro _ z;cases z) g rfl
 ·obtain⟨i,c,q⟩:=cXq a;obtain⟨k,p,m,f,d,g,j⟩:=h.get (cQw (show i<R.length by rw[<- h.clen];exact c));rw[cQw c,q]at d;cases d;exact n l _ (by intro _ z;cases z) j rfl
def PB.notnone{a CL:Nat}{H:Hp}{c la sa:Nat}{ls cs:List Nat}{R:Rows}{S:List Int}(h:PB a CL H c la sa ls cs R S){l:Nat}(n:H l=none):l∉own la sa ls cs:=h.notown λb u _ e=>yI e n
def bZ8{j:Nat}{q:Row}{c:Nat}{name:Str}(b:q.void=false):aX0 "file" (.str name) (aJw j q c)=aJw j {q with place:=name} c:=by
 have a:W4 {q with place:=name}= .str name:=aZr (r:={q with place:=name}) b;unfold aJw;rw[a];rfl
def aXc(R:Rows)(l:List Nat)(k:Nat)(name:Str):Bk.laid R (l++ [k]) name=Bk.xW (Bk.laid R l name) k λr=>{r with place:=name}:=by
 unfold Bk.laid;rw[cVX];rfl
def aJu{R:Rows}{l:List Nat}{name:Str}{j:Nat}{q:Row}(h:R[j]? =some q):∃a,(Bk.laid R l name)[j]? =some a/\a.void=q.void:=by
 rw[Bk.vV,h];by_cases e:j∈l
 ·rw[if_pos e];exact⟨_,rfl,rfl⟩
 ·rw[if_neg e];exact⟨q,rfl,rfl⟩
def bXw(K:cQz)(Rf:Nat×Nat)(h CL:Nat):Sp:=λl H Q E=>∃ (d k g:Nat)(a f:List Nat)(R:Rows)(S:List Int)(i j:Nat)(b e:Nat)(r q:Row),l= [.ref d,.ref b,.ref e]/\PB h CL H d k g a f R S/\R.length<64/\Bk.qN R/\vE Rf.2 H/\
 R[i]? =some r/\r.void=false/\R[j]? =some q/\q.void=false/\a[i]? =some b/\a[j]? =some e/\(r.link≠none->xS K Rf H E "has one")/\(r.link=none->(Bk.thr R j).head? =some i->xS K Rf H E "own thread")/\
 (r.link=none->(Bk.thr R j).head? ≠some i->(r.way=q.way->xS K Rf H E "same way")/\(r.way≠q.way->(r.partner≠q.partner->xS K Rf H E "other partner")/\(r.partner=q.partner->(r.date<q.date->xS K Rf H E "too early")/\(q.date<=r.date->∀c,zI H c->vE Rf.2 c->Q .non c))))
section
variable {K:cQz}
def bYa:yO ["self","number","name","numbers","member","letter"] ["self","number","name"] (yH bYV):=scM
def bKR(T:uJ mg)(cl:Cl K CB CL)(a:MG P w K mg base (CXR P w) n CB "thread_of" ["self","number"] (Y0 K Rf CB CL))(F:Fun K "lay_thread" "Book.lay_thread" bYV f fd):xL P w K mg base (CXR P w) (n+1) f fd ["self","number","name"] (bW6 K Rf CB CL):=by
 have sc:=bYa;refine F.okX (k:=n) sc (λa2 A outer s H vs Q E hr h=>?_);obtain⟨v,J,X,ls,U,R,S,m,d,rfl,hB,hR,y,tb,q1,q2⟩:=h;refine⟨_,(yC (yU (i:=3) (jD a hr wV (pv 0) (yA (pv 1) yD))) (yC (wT PassesOwn.leaving rfl (xN (pv 3)) (xI (i:=4)) (yC (yU (i:=5) (yL yK (xC (pv 0) rfl) (pv 4))) (yF (wJ (pv 5) (pv 2) rfl)))) (yF (yP (yR yN rfl T.b_len xG (yA (pv 3) yD)))))),?_⟩;obtain⟨dx,hb⟩:=hB.book;refine⟨_,rfl,v,dx,_,rfl,hb,rfl,_,rfl,v,J,X,ls,U,R,S,m,rfl,hB,hR,y.tree,tb,q1,λk r em W hv H1 l _ k1 t1 hl=>?_⟩;dsimp only[yW];have G:=hB.sameT k1;have a1:=Bk.wU W;refine⟨_,rfl,l,rfl,⟨_,SqL.of hl⟩,?_⟩;refine zS (xs:=(Bk.thr R k).map λi=>V.int (i:Nat)) (λt σ p=>∃M I:Option V,σ= [some (.ref v),some (.int m),some (.str d),some (.ref l),M,I]/\PB CB CL p v J X ls U (Bk.laid R ((Bk.thr R k).take t) d) S/\uO (own J X ls U) H1 p/\p l=some (.lst ((Bk.thr R k).map λi=>V.int (i:Nat)))) ?_ ?_ ?_ ?_
 ·exact⟨none,none,rfl,G,λb u _ e=>e,hl⟩
 ·rintro t σ p ht ⟨M,I,rfl,g,C,o⟩;exact SqL.of o
 ·rintro t x σ p D ⟨M,I,rfl,g,C,o⟩;rw[cQR]at D;cases L:(Bk.thr R k)[t]? with
  |none=>rw[L]at D;cases D
  |some j=>
   rw[L]at D;cases D;obtain⟨qj,N,Z⟩:=bJK y W hv (cQP L);obtain⟨q',B,q⟩:=aJu (l:=(Bk.thr R k).take t) (name:=d) N;rw[Z]at q;obtain⟨b,c,g1,g2,g3,⟨Y,g4⟩,g5⟩:=g.get B;obtain⟨O,a0⟩:=g.book;dsimp only[yW];refine⟨_,rfl,v,CB,O,_,_,rfl,a0,cl.b,cl.letters,rfl,_,rfl,J,_,_,_,rfl,rfl,SqL.of g.lst,yT g1,?_⟩;dsimp only[yW];refine⟨_,rfl,_,rfl,b,CL,Y,_,rfl,g4,cl.l,cl.file,(show 9<1000 by decide),_,_,rfl,?_,C.trans (uO.upd (aVD (cQP g2)) _),?_⟩
   ·rw[bZ8 q,show(Bk.thr R k).take (t+1)=(Bk.thr R k).take t++ [j]from by rw[cXx,L];rfl,aXc];exact g.set g2 g3 B (λr=>{r with place:=d}) rfl
   ·rw[yJ (λz=>by rw[z,g4]at o;cases o)];exact o
 ·rintro σ p ⟨M,I,rfl,g,C,o⟩;rw[cQB,cXs]at g;refine⟨_,rfl,l,_,rfl,.inl (SqL.of o),?_⟩;rw[cQB];exact q2 k r em W hv p g ((Q3.of k1).trans C.t) (zC t1 C G.kinds)
abbrev bQU:Stmt:=xQ "Book" "check_hanging"
abbrev bWD:Stmt:=xQ "Book" "hang"
def bJk:yO ["self","letter","asked"] ["self","letter","asked"] (yH bQU):=scM
def aWh(d:Nat):∀ns:List Nat,inV (.int (d:Nat)) (ns.map λi=>V.int (i:Nat))=ns.contains d
 |[]=>rfl
 |n::r=>by have a:=aWh d r;unfold inV at a ⊢;rw[cXb,cZP,a,cZY];congr 1;show((n:Int)==(d:Int))=(d==n);rw[Bool.eq_iff_iff,beq_iff_eq,beq_iff_eq];omega
def aJi:∀ns:List Nat,(ns.map λi=>V.int (i:Nat)).all aQK=true
 |[]=>rfl
 |n::r=>by rw[cXb,cJV,aJi r];rfl
def bZI(cl:Cl K CB CL)(o:MG P w K mg base (CXR P w) (n+1) CB "thread_of" ["self","number"] (Y0 K Rf CB CL))(g:FnX P w K mg base (n+1) "check_days" ["asked_day","reply_day"] (aZY K Rf)) (m:ExG P w K mg base n "HasOne" Rf.1 C1 "has one") (d:ExG P w K mg base n "OwnThread" Rf.1 C2 "own thread") (e:ExG P w K mg base n "SameWay" Rf.1 C3 "same way") (a:ExG P w K mg base n "OtherPartner" Rf.1 C4 "other partner") (F:Fun K "check_hanging" "Book.check_hanging" bQU f fd):xL P w K mg base (CXR P w) (n+2) f fd ["self","letter","asked"] (bXw K Rf CB CL):=by
 have sc:=bJk;refine F.okX (k:=n+1) sc (λa1 A outer s H vs Q E C h=>?_);obtain⟨ba,la,sa,ls,cs,R,S,i,j,b,G,r,q,rfl,I,hR,hT,tb,X,hv,hj,hw,W,Y,q1,q2,q3⟩:=h;refine⟨_,(yC (xA (yM wZ (xC (pv 1) rfl) zL) (yF (vB m C rfl)) yS) (yC (xA (yM uE (xC (pv 2) rfl) (jD o C wV (pv 0) (yA (xC (pv 1) rfl) yD))) (yF (vB d C rfl)) yS) (yC (xA (yM zR (xC (pv 1) rfl) (xC (pv 2) rfl)) (yF (vB e C rfl)) yS) (yC (xA (yM J7 (xC (pv 1) rfl) (xC (pv 2) rfl)) (yF (vB a C rfl)) yS) (yF (yZ (aXm g C rfl (yA (xC (pv 2) rfl) (yA (xC (pv 1) rfl) yD))))))))),?_⟩;obtain⟨dx,hb⟩:=I.book;obtain⟨b',c1,g1,g2,g3,⟨p,L⟩,g5⟩:=I.get X;obtain rfl:b=b':=cQS (W.symm.trans g2);obtain⟨U,c2,f1,f2,f3,⟨t,Z⟩,f5⟩:=I.get hj;obtain rfl:G=U:=cQS (Y.symm.trans f2);refine⟨_,rfl,b,CL,p,_,_,rfl,L,cl.l,cl.link,rfl,rfl,_,rfl,?_⟩;cases u:r.link with
 |some x=>exact onT rfl ((q1 (by rw[u];simp)).raise m)
 |none=>
  have M:=q2 u;have T:=q3 u;refine onF rfl ⟨_,rfl,G,CL,t,_,_,rfl,Z,cl.l,cl.number,rfl,_,rfl,ba,dx,_,rfl,hb,rfl,_,rfl,b,CL,p,_,_,rfl,L,cl.l,cl.number,rfl,?_⟩;refine⟨ba,la,sa,ls,cs,R,S,(i:Nat),rfl,I,hR,hT,tb,(λhg=>by rw[W5 X hv]at hg;cases hg),λk r' em hk a0 H1 l _ B D hl=>?_⟩;obtain rfl:i=k:=by omega
  refine⟨l,_,rfl,.inl (SqL.of hl),rfl,aJi _,_,rfl,?_⟩;rw[if_neg (by decide),aWh];have O:=Bk.wU hj;have own:=bKc hT X u O;have y:=B _ _ (λ_ z=>by cases z) L;have v:=B _ _ (λ_ z=>by cases z) Z;refine X2 (λc=>?_) (λc=>?_)
  ·exact((M (own.mp (cZe.mp c))).go ⟨B,λ_=>D⟩).raise d
  ·have N:(Bk.thr R j).head? ≠some i:=λz=>c (cZe.mpr (own.mpr z));obtain⟨q4,q5⟩:=T N;refine⟨_,rfl,b,CL,p,_,_,rfl,y,cl.l,cl.way,rfl,_,rfl,G,CL,t,_,_,rfl,v,cl.l,cl.way,rfl,rfl,_,rfl,?_⟩;have e1:decide (V.str r.way=V.str q.way)=decide (r.way=q.way):=by rw[Bool.eq_iff_iff];simp
   rw[e1];refine X2 (λc=>?_) (λc=>?_)
   ·exact((q4 (of_decide_eq_true c)).go ⟨B,λ_=>D⟩).raise e
   ·obtain⟨q6,q7⟩:=q5 (of_decide_eq_false (Bool.eq_false_iff.mpr c));refine⟨_,rfl,b,CL,p,_,_,rfl,y,cl.l,cl.partner,rfl,_,rfl,G,CL,t,_,_,rfl,v,cl.l,cl.partner,rfl,rfl,_,rfl,?_⟩;have e2:decide (V.str r.partner=V.str q.partner)=decide (r.partner=q.partner):=by rw[Bool.eq_iff_iff];simp
    rw[e2];cases hp:decide (r.partner=q.partner)with
    |false=>exact onT rfl (((q6 (of_decide_eq_false hp)).go ⟨B,λ_=>D⟩).raise a)
    |true=>obtain⟨q8,q9⟩:=q7 (of_decide_eq_true hp);refine onF rfl ⟨_,rfl,G,CL,t,_,_,rfl,v,cl.l,cl.day,rfl,_,rfl,b,CL,p,_,_,rfl,y,cl.l,cl.day,rfl,q.date,r.date,rfl,λJ=>q9 J H1 B D,λJ=>(q8 J).go ⟨B,λ_=>D⟩⟩
def bVj(K:cQz)(Rf:Nat×Nat)(e CL:Nat):Sp:=λg H Q E=>∃ (a f c:Nat)(d b:List Nat)(R:Rows)(S:List Int)(m o:Int),g= [.ref a,.int m,.int o]/\PB e CL H a f c d b R S/\R.length<64/\Bk.Z5 R/\vE Rf.2 H/\
 (Bk.vK R m=false\/Bk.vK R o=false->xS K Rf H E "no letter")/\∀ (i j:Nat)(r q:Row),m=(i:Int)->o=(j:Int)->R[i]? =some r->r.void=false->R[j]? =some q->q.void=false->
 (r.link≠none->xS K Rf H E "has one")/\(r.link=none->(Bk.thr R j).head? =some i->xS K Rf H E "own thread")/\
 (r.link=none->(Bk.thr R j).head? ≠some i->(r.way=q.way->xS K Rf H E "same way")/\(r.way≠q.way->(r.partner≠q.partner->xS K Rf H E "other partner")/\(r.partner=q.partner->(r.date<q.date->xS K Rf H E "too early")/\ (q.date<=r.date->bKh Rf.2 e CL a f c d b H (Bk.xW (Bk.laid R (Bk.thr R i) q.place) i λr=>{r with link:=some j}) S (Q .non)))))
def bWR:yO ["self","number","other","letter","asked"] ["self","number","other"] (yH bWD):=scM
def bWe(cl:Cl K CB CL)(a:MG P w K mg base (CXR P w) n CB "letter_at" ["self","number"] (aWJ K Rf CB CL))(c:MG P w K mg base (CXR P w) n CB "check_hanging" ["self","letter","asked"] (bXw K Rf CB CL))(d:MG P w K mg base (CXR P w) n CB "lay_thread" ["self","number","name"] (bW6 K Rf CB CL)) (F:Fun K "hang" "Book.hang" bWD f fd):xL P w K mg base (CXR P w) (n+1) f fd ["self","number","other"] (bVj K Rf CB CL):=by
 have sc:=bWR;refine F.okX (k:=n) sc (λa4 A outer s H vs Q E L h=>?_);obtain⟨e,y,x,M,v,R,S,m,o,rfl,I,hR,C,tb,q1,q2⟩:=h;refine⟨_,(yC (yU (i:=3) (jD a L wV (pv 0) (yA (pv 1) yD))) (yC (yU (i:=4) (jD a L wV (pv 0) (yA (pv 2) yD))) (yC (yZ (jD c L wV (pv 0) (yA (pv 3) (yA (pv 4) yD)))) (yC (yZ (jD d L wV (pv 0) (yA (pv 1) (yA (xC (pv 4) rfl) yD)))) (yF (wJ (pv 3) (pv 2) rfl)))))),?_⟩;obtain⟨W,X⟩:=I.book;refine⟨_,rfl,e,W,_,rfl,X,rfl,_,rfl,e,y,x,M,v,R,S,m,rfl,I,λi r b em G hv B=>?_,λu=>q1 (.inl u)⟩;dsimp only[yW];refine⟨_,rfl,e,W,_,rfl,X,rfl,_,rfl,e,y,x,M,v,R,S,o,rfl,I,λj q T eo Z hw J=>?_,λu=>q1 (.inr u)⟩;dsimp only[yW];obtain⟨q3,q4,q5⟩:=q2 i j r q em eo G hv Z hw;refine⟨_,rfl,e,W,_,rfl,X,rfl,_,rfl,_,rfl,e,y,x,M,v,R,S,i,j,b,T,r,q,rfl,I,hR,C.tree,tb,G,hv,Z,hw,B,J,q3,q4,λh1 h2=>?_⟩;obtain⟨q6,q7⟩:=q5 h1 h2;refine⟨q6,λh3=>?_⟩;obtain⟨q8,q9⟩:=q7 h3;refine⟨q8,λh4=>?_⟩;obtain⟨U,a1⟩:=q9 h4;refine⟨U,λh5 H1 k1 t1=>?_⟩;have p:=I.sameT k1;obtain⟨a0,V⟩:=p.book;obtain⟨Y,c2,f1,f2,f3,⟨O,f4⟩,f5⟩:=p.get Z;obtain rfl:T=Y:=cQS (J.symm.trans f2);refine⟨_,rfl,e,a0,_,rfl,V,rfl,_,rfl,_,rfl,T,CL,O,_,_,rfl,f4,cl.l,cl.file,rfl,?_⟩;rw[aZr hw];refine⟨e,y,x,M,v,R,S,m,q.place,rfl,p,hR,C,t1,(λu=>by rw[em,W5 G hv]at u;cases u),λk r' a3 hk a2 H2 g k2 t2=>?_⟩;obtain rfl:i=k:=by omega
 rw[G]at hk;cases hk;obtain⟨r2,D,a5⟩:=aJu (l:=Bk.thr R i) (name:=q.place) G;obtain⟨b',c1,g1,N,g3,⟨z,g4⟩,g5⟩:=g.get D;obtain rfl:b=b':=cQS (B.symm.trans N);subst eo;refine⟨_,rfl,_,rfl,b,CL,z,_,rfl,g4,cl.l,cl.link,(show 9<1000 by decide),?_⟩;have kk:=uO.upd (H:=H2) (aVD (la:=y) (sa:=x) (cs:=v) (cQP N)) (.ins CL z (aJw i {r2 with link:=some j} c1));exact a1 h5 _ _ _ (g.set N g3 D (λr=>{r with link:=some j}) rfl) (((Q3.of k1).trans k2).trans kk.t) Z4.refl (zC t2 kk g.kinds)
end
end Desk
namespace Desk
open PySem L2 PyProof.Rows
open Bk (Row Rows xV Ans xZ)
open Thr (vE jB W1)
def xP:xV->List V
 |.enter e d b t=> [.str e,.int d,.str b,.int t]
 |.reply m d t=> [.str "reply",.int m,.int d,.int t]
 |.hang m o=> [.str "hang",.int m,.int o]
 |.loose m=> [.str "loose",.int m]
 |.date m d=> [.str "date",.int m,.int d]
 |.term m t=> [.str "term",.int m,.int t]
 |.copy m b=> [.str "copy",.int m,.str b]
 |.file m a=> [.str "file",.int m,.str a]
 |.void m=> [.str "void",.int m]
 |.shut d=> [.str "shut",.int d]
 |.state m=> [.str "state",.int m]
 |.thread m=> [.str "thread",.int m]
 |.copies m=> [.str "copies",.int m]
 |.letters a=> [.str "letters",.str a]
 |.on c d=> [.str (if c then "overdue" else "waiting"),.int d]
def uA(o:List Nat)(H:Hp):Ans->V->Prop
 |.num n,v=>v= .int n
 |.txt x,v=>v= .str x
 |.nums l,v=>∃p,v= .ref p/\p∉o/\H p=some (.lst (l.map λi=>V.int (i:Nat)))
 |.txts l,v=>∃p,v= .ref p/\p∉o/\H p=some (.lst (l.map V.str))
 |.row r,v=>∃p,v= .ref p/\p∉o/\H p=some (.tup (stV r))
def qB(H:Hp)(v:V):Prop:=∀p,v= .ref p->∀u,(∀a,u≠HO.tbl a)->H p≠some u
def qB.none{H:Hp}{l:Nat}(h:H l=none):qB H (.ref l):=λp z u _ e=>by cases z;rw[h]at e;cases e
def qB.nl{H:Hp}{l:Nat}(h:∀b u,(∀a,u≠HO.tbl a)->H b=some u->b≠l):qB H (.ref l):=λp z u c e=>by cases z;exact h _ u c e rfl
structure Sz(R:Rows)(S:List Int):Prop where
 r:R.length<64
 s:S.length<64
 c:∀r∈R,r.copies.length<=1000
def aJU(K:cQz)(Rf:Nat×Nat)(l CL:Nat)(p:xV->Prop):Sp:=λo H Q E=>∃ (j m f d:Nat)(i h:List Nat)(R:Rows)(S:List Int)(e:xV),o= [.ref j,.ref m]/\p e/\H m=some (.tup (xP e))/\PB l CL H j f d i h R S/\Sz R S/\Bk.Z5 R/\vE Rf.2 H/\
 (∀ (a:Ans)(n:Rows)(k:List Int)(v:V)(g:Hp)(c b:List Nat),xZ R S e a n k->PB l CL g j f d c b n k->Q3 (own f d i h) H g->Z4 H (own f d i h) (own f d c b)->vE Rf.2 g->uA (own f d c b) g a v->qB H v->Q v g)/\(∀t,xZ R S e (.txt t) R S->xS K Rf H E t)
section
variable {K:cQz}
abbrev aQo:Stmt:=xM "do_enter"
def aVX:yO ["book","deed"] ["book","deed"] (yH aQo):=scM
def aVx(a:MG P w K mg base (CXR P w) n CB "enter" ["self","way","day","partner","term"] (bXA K Rf CB CL))(F:Fun K "do_enter" "do_enter" aQo f fd):xL P w K mg base (CXR P w) (n+1) f fd ["book","deed"] (aJU K Rf CB CL λe=>∃ (b:Str)(d:Int)(c:Str)(t:Int),e= .enter b d c t):=by
 have M:=aVX;refine F.okX (k:=n) M (λT A outer s H U Q E O h=>?_);obtain⟨B,i,C,x,y,v,R,S,e,rfl,⟨b,d,c,t,rfl⟩,g,m,G,J,tb,q,D⟩:=h;refine⟨_,(yF (yP (jD a O wV (pv 0) (yA (yL yX (pv 1) yG) (yA (yL yX (pv 1) yG) (yA (yL yX (pv 1) yG) (yA (yL yX (pv 1) yG) yD))))))),?_⟩;obtain⟨L,N⟩:=m.book;have tk:∀ {j},uO (own C x y v) H j->vE Rf.2 j:=λk=>zC tb k m.kinds;have g:H i=some (.tup _):=g;refine⟨_,rfl,B,L,_,rfl,N,rfl,_,rfl,i,_,0,_,rfl,rfl,SqT.of g,rfl,_,rfl,i,_,1,_,rfl,rfl,SqT.of g,rfl,_,rfl,i,_,2,_,rfl,rfl,SqT.of g,rfl,_,rfl,i,_,3,_,rfl,rfl,SqT.of g,rfl,?_⟩;refine⟨B,C,x,y,v,R,S,b,d,c,t,rfl,m,by have:=G.r;omega,λu j p l o k I=>?_,λu=>D _ (.enterT u)⟩;exact q (.num R.length) _ _ _ j p l (.enter u) o k.t I (tk k) rfl (λ_ z=>nomatch z)
abbrev aQq:Stmt:=xM "do_reply"
def aVZ:yO ["book","deed"] ["book","deed"] (yH aQq):=scM
def aVz(a:MG P w K mg base (CXR P w) n CB "reply" ["self","number","day","term"] (bXF K Rf CB CL))(F:Fun K "do_reply" "do_reply" aQq f fd):xL P w K mg base (CXR P w) (n+1) f fd ["book","deed"] (aJU K Rf CB CL λe=>∃ (m:Int)(d:Int)(t:Int),e= .reply m d t):=by
 have O:=aVZ;refine F.okX (k:=n) O (λV A outer s H W Q E U h=>?_);obtain⟨C,i,G,y,B,v,R,S,e,rfl,⟨m,d,t,rfl⟩,b,o,I,M,tb,q,j⟩:=h;refine⟨_,(yF (yP (jD a U wV (pv 0) (yA (yL yX (pv 1) yG) (yA (yL yX (pv 1) yG) (yA (yL yX (pv 1) yG) yD)))))),?_⟩;obtain⟨N,T⟩:=o.book;have tk:∀ {c},uO (own G y B v) H c->vE Rf.2 c:=λk=>zC tb k o.kinds;have b:H i=some (.tup _):=b;refine⟨_,rfl,C,N,_,rfl,T,rfl,_,rfl,i,_,1,_,rfl,rfl,SqT.of b,rfl,_,rfl,i,_,2,_,rfl,rfl,SqT.of b,rfl,_,rfl,i,_,3,_,rfl,rfl,SqT.of b,rfl,?_⟩;refine⟨C,G,y,B,v,R,S,m,d,t,rfl,o,by have:=I.r;omega,λh=>j _ (.replyN h),λh g=>j _ (.replyT h g),λk r L x D g=>?_⟩;subst L;exact⟨λb=>j _ (.replyE x D g b),λb c u l p k J=>q (.num R.length) _ _ _ c u l (.reply x D g b) p k.t J (tk k) rfl (λ_ z=>nomatch z)⟩
abbrev aXD:Stmt:=xM "do_hang"
def aK4:yO ["book","deed"] ["book","deed"] (yH aXD):=scM
def aKH(a:MG P w K mg base (CXR P w) n CB "hang" ["self","number","other"] (bVj K Rf CB CL))(F:Fun K "do_hang" "do_hang" aXD f fd):xL P w K mg base (CXR P w) (n+1) f fd ["book","deed"] (aJU K Rf CB CL λe=>∃ (m:Int)(o:Int),e= .hang m o):=by
 have Y:=aK4;refine F.okX (k:=n) Y (λa0 A outer s H vs Q E hr h=>?_);obtain⟨O,J,T,M,N,L,R,S,e,rfl,⟨m,o,rfl⟩,v,C,U,y,tb,q,c⟩:=h;refine⟨_,(yC (yZ (jD a hr wV (pv 0) (yA (yL yX (pv 1) yG) (yA (yL yX (pv 1) yG) yD)))) (yF (yP yQ))),?_⟩;obtain⟨X,hb⟩:=C.book;have tk:∀ {x},uO (own T M N L) H x->vE Rf.2 x:=λk=>zC tb k C.kinds;have v:H J=some (.tup _):=v;refine⟨_,rfl,O,X,_,rfl,hb,rfl,_,rfl,J,_,1,_,rfl,rfl,SqT.of v,rfl,_,rfl,J,_,2,_,rfl,rfl,SqT.of v,rfl,?_⟩;refine⟨O,T,M,N,L,R,S,m,o,rfl,C,U.r,y,tb,λh=>c _ (.hangN h),λi j r q' W Z g l b hw=>?_⟩;subst W;subst Z;refine⟨λh=>c _ (.hangH g l b hw h),λh d=>c _ (.hangO g l b hw h d),λh d=>⟨λp=>c _ (.hangW g l b hw h d p),λp=>⟨λu=>c _ (.hangP g l b hw h d p u),λu=>⟨λI=>c _ (.hangE g l b hw h d p u I),λI x G B D k V t=>?_⟩⟩⟩⟩;exact q (.txt "hung") _ _ _ x G B (.hang g l b hw h d p u I) D k V t rfl (λ_ z=>nomatch z)
abbrev aQp:Stmt:=xM "do_loose"
def aVY:yO ["book","deed"] ["book","deed"] (yH aQp):=scM
def aVy(a:MG P w K mg base (CXR P w) n CB "loosen" ["self","number"] (aWS K Rf CB CL))(F:Fun K "do_loose" "do_loose" aQp f fd):xL P w K mg base (CXR P w) (n+1) f fd ["book","deed"] (aJU K Rf CB CL λe=>∃ (m:Int),e= .loose m):=by
 have L:=aVY;refine F.okX (k:=n) L (λO A outer s H U Q E N h=>?_);obtain⟨x,C,B,p,u,l,R,S,e,rfl,⟨m,rfl⟩,c,g,T,I,tb,q,v⟩:=h;refine⟨_,(yC (yZ (jD a N wV (pv 0) (yA (yL yX (pv 1) yG) yD))) (yF (yP yQ))),?_⟩;obtain⟨J,M⟩:=g.book;have tk:∀ {b},uO (own B p u l) H b->vE Rf.2 b:=λk=>zC tb k g.kinds;have c:H C=some (.tup _):=c;refine⟨_,rfl,x,J,_,rfl,M,rfl,_,rfl,C,_,1,_,rfl,rfl,SqT.of c,rfl,?_⟩;refine⟨x,B,p,u,l,R,S,m,rfl,g,λh=>v _ (.oneN h (.inl rfl)),λk r G o y=>?_⟩;subst G;exact⟨λh=>v _ (.looseN o y h),λh b j d i k D=>q (.txt "loose") _ _ _ b j d (.loose o y h) i k.t D (tk k) rfl (λ_ z=>nomatch z)⟩
abbrev aXB:Stmt:=xM "do_date"
def aK2:yO ["book","deed"] ["book","deed"] (yH aXB):=scM
def aKF(a:MG P w K mg base (CXR P w) n CB "put_day" ["self","number","day"] (aWT K Rf CB CL))(F:Fun K "do_date" "do_date" aXB f fd):xL P w K mg base (CXR P w) (n+1) f fd ["book","deed"] (aJU K Rf CB CL λe=>∃ (m:Int)(d:Int),e= .date m d):=by
 have T:=aK2;refine F.okX (k:=n) T (λW A outer s H X Q E V h=>?_);obtain⟨C,p,G,x,y,u,R,S,e,rfl,⟨m,d,rfl⟩,b,j,J,g,tb,q,B⟩:=h;refine⟨_,(yC (yZ (jD a V wV (pv 0) (yA (yL yX (pv 1) yG) (yA (yL yX (pv 1) yG) yD)))) (yF (yP yQ))),?_⟩;obtain⟨O,U⟩:=j.book;have tk:∀ {c},uO (own G x y u) H c->vE Rf.2 c:=λk=>zC tb k j.kinds;have b:H p=some (.tup _):=b;refine⟨_,rfl,C,O,_,rfl,U,rfl,_,rfl,p,_,1,_,rfl,rfl,SqT.of b,rfl,_,rfl,p,_,2,_,rfl,rfl,SqT.of b,rfl,?_⟩;refine⟨C,G,x,y,u,R,S,m,d,rfl,j,by have:=J.r;omega,g,λh=>B _ (.oneN h (.inr (.inl ⟨d,rfl⟩))),λk r N v D=>?_⟩;subst N;exact⟨λh=>B _ (.dateE v D h),λL I c o i l k M=>q (.txt "dated") _ _ _ c o i (.date v D L I) l k.t M (tk k) rfl (λ_ z=>nomatch z)⟩
abbrev aXF:Stmt:=xM "do_term"
def aK6:yO ["book","deed"] ["book","deed"] (yH aXF):=scM
def aKJ(a:MG P w K mg base (CXR P w) n CB "put_term" ["self","number","term"] (aJX K Rf CB CL))(F:Fun K "do_term" "do_term" aXF f fd):xL P w K mg base (CXR P w) (n+1) f fd ["book","deed"] (aJU K Rf CB CL λe=>∃ (m:Int)(t:Int),e= .term m t):=by
 have L:=aK6;refine F.okX (k:=n) L (λO A outer s H U Q E N h=>?_);obtain⟨y,l,C,u,v,o,R,S,e,rfl,⟨m,t,rfl⟩,b,g,T,I,tb,q,x⟩:=h;refine⟨_,(yC (yZ (jD a N wV (pv 0) (yA (yL yX (pv 1) yG) (yA (yL yX (pv 1) yG) yD)))) (yF (yP yQ))),?_⟩;obtain⟨J,M⟩:=g.book;have tk:∀ {c},uO (own C u v o) H c->vE Rf.2 c:=λk=>zC tb k g.kinds;have b:H l=some (.tup _):=b;refine⟨_,rfl,y,J,_,rfl,M,rfl,_,rfl,l,_,1,_,rfl,rfl,SqT.of b,rfl,_,rfl,l,_,2,_,rfl,rfl,SqT.of b,rfl,?_⟩;refine⟨y,C,u,v,o,R,S,m,t,rfl,g,λh=>x _ (.oneN h (.inr (.inr (.inl ⟨t,rfl⟩)))),λk r G p B=>?_⟩;subst G;exact⟨λh=>x _ (.termN p B h),λh c j d i k D=>q (.txt "set") _ _ _ c j d (.term p B h) i k.t D (tk k) rfl (λ_ z=>nomatch z)⟩
abbrev aXA:Stmt:=xM "do_copy"
def aK1:yO ["book","deed"] ["book","deed"] (yH aXA):=scM
def aKE(a:MG P w K mg base (CXR P w) n CB "send_copy" ["self","number","person"] (bVn K Rf CB CL))(F:Fun K "do_copy" "do_copy" aXA f fd):xL P w K mg base (CXR P w) (n+1) f fd ["book","deed"] (aJU K Rf CB CL λe=>∃ (m:Int)(b:Str),e= .copy m b):=by
 have U:=aK1;refine F.okX (k:=n) U (λX A outer s H Y Q E W h=>?_);obtain⟨C,p,G,x,y,u,R,S,e,rfl,⟨m,b,rfl⟩,d,j,J,O,tb,q,B⟩:=h;refine⟨_,(yF (yP (jD a W wV (pv 0) (yA (yL yX (pv 1) yG) (yA (yL yX (pv 1) yG) yD))))),?_⟩;obtain⟨T,V⟩:=j.book;have tk:∀ {g},uO (own G x y u) H g->vE Rf.2 g:=λk=>zC tb k j.kinds;have d:H p=some (.tup _):=d;refine⟨_,rfl,C,T,_,rfl,V,rfl,_,rfl,p,_,1,_,rfl,rfl,SqT.of d,rfl,_,rfl,p,_,2,_,rfl,rfl,SqT.of d,rfl,?_⟩;refine⟨C,G,x,y,u,R,S,m,b,rfl,j,J.c,λh=>B _ (.oneN h (.inr (.inr (.inr (.inl ⟨b,rfl⟩))))),λk r N v D=>?_⟩;subst N;exact⟨λh=>B _ (.copyC v D h),λL I g o i l k M=>q (.num (r.copies.length+1)) _ _ _ g o i (.copy v D L I) l k.t M (tk k) rfl (λ_ z=>nomatch z)⟩
abbrev aXC:Stmt:=xM "do_file"
def aK3:yO ["book","deed"] ["book","deed"] (yH aXC):=scM
def aKG(a:MG P w K mg base (CXR P w) n CB "lay_thread" ["self","number","name"] (bW6 K Rf CB CL))(F:Fun K "do_file" "do_file" aXC f fd):xL P w K mg base (CXR P w) (n+1) f fd ["book","deed"] (aJU K Rf CB CL λe=>∃ (m:Int)(name:Str),e= .file m name):=by
 have J:=aK3;refine F.okX (k:=n) J (λN A outer s H O Q E M h=>?_);obtain⟨t,o,u,p,g,d,R,S,e,rfl,⟨m,name,rfl⟩,b,j,B,i,tb,q,x⟩:=h;refine⟨_,(yF (yP (jD a M wV (pv 0) (yA (yL yX (pv 1) yG) (yA (yL yX (pv 1) yG) yD))))),?_⟩;obtain⟨I,L⟩:=j.book;have tk:∀ {c},uO (own u p g d) H c->vE Rf.2 c:=λk=>zC tb k j.kinds;have b:H o=some (.tup _):=b;refine⟨_,rfl,t,I,_,rfl,L,rfl,_,rfl,o,_,1,_,rfl,rfl,SqT.of b,rfl,_,rfl,o,_,2,_,rfl,rfl,SqT.of b,rfl,?_⟩;refine⟨t,u,p,g,d,R,S,m,name,rfl,j,B.r,i,tb,λh=>x _ (.oneN h (.inr (.inr (.inr (.inr (.inl ⟨name,rfl⟩)))))),λk r C v D c l G y=>?_⟩;subst C;exact q (.num (Bk.thr R k).length) _ _ _ c g d (.file v D) l G Z4.refl y rfl (λ_ z=>nomatch z)
abbrev aXG:Stmt:=xM "do_void"
def aK7:yO ["book","deed"] ["book","deed"] (yH aXG):=scM
def aKK(a:MG P w K mg base (CXR P w) n CB "cancel" ["self","number"] (aWL K Rf CB CL))(F:Fun K "do_void" "do_void" aXG f fd):xL P w K mg base (CXR P w) (n+1) f fd ["book","deed"] (aJU K Rf CB CL λe=>∃ (m:Int),e= .void m):=by
 have M:=aK7;refine F.okX (k:=n) M (λT A outer s H U Q E O h=>?_);obtain⟨x,C,B,p,u,l,R,S,e,rfl,⟨m,rfl⟩,c,g,D,J,tb,q,v⟩:=h;refine⟨_,(yC (yZ (jD a O wV (pv 0) (yA (yL yX (pv 1) yG) yD))) (yF (yP yQ))),?_⟩;obtain⟨L,N⟩:=g.book;have tk:∀ {b},uO (own B p u l) H b->vE Rf.2 b:=λk=>zC tb k g.kinds;have c:H C=some (.tup _):=c;refine⟨_,rfl,x,L,_,rfl,N,rfl,_,rfl,C,_,1,_,rfl,rfl,SqT.of c,rfl,?_⟩;refine⟨x,B,p,u,l,R,S,m,rfl,g,by have:=D.r;omega,λh=>v _ (.oneN h (.inr (.inr (.inr (.inr (.inr (.inl rfl))))))),λk r I o y=>?_⟩;subst I;exact⟨λh=>v _ (.voidA o y h),λh b j d i k G=>q (.txt "void") _ _ _ b j d (.void o y h) i k.t G (tk k) rfl (λ_ z=>nomatch z)⟩
abbrev aXE:Stmt:=xM "do_shut"
def aK5:yO ["book","deed"] ["book","deed"] (yH aXE):=scM
def aKI(a:MG P w K mg base (CXR P w) n CB "shut_day" ["self","day"] (bVo K Rf CB CL))(F:Fun K "do_shut" "do_shut" aXE f fd):xL P w K mg base (CXR P w) (n+1) f fd ["book","deed"] (aJU K Rf CB CL λe=>∃ (d:Int),e= .shut d):=by
 have G:=aK5;refine F.okX (k:=n) G (λL A outer s H M Q E J h=>?_);obtain⟨r,v,u,o,p,m,R,S,e,rfl,⟨d,rfl⟩,c,i,y,C,tb,q,x⟩:=h;refine⟨_,(yC (yZ (jD a J wV (pv 0) (yA (yL yX (pv 1) yG) yD))) (yF (yP yQ))),?_⟩;obtain⟨D,I⟩:=i.book;have tk:∀ {b},uO (own u o p m) H b->vE Rf.2 b:=λk=>zC tb k i.kinds;have c:H v=some (.tup _):=c;refine⟨_,rfl,r,D,_,rfl,I,rfl,_,rfl,v,_,1,_,rfl,rfl,SqT.of c,rfl,?_⟩;refine⟨r,u,o,p,m,R,S,d,rfl,i,by have:=y.s;omega,λh=>x _ (.shutN h),λh b l g j k B=>?_⟩;exact q (.txt "shut") _ _ _ b l g (.shut h) j k.t B (tk k) rfl (λ_ z=>nomatch z)
abbrev Z2:Stmt:=xM "ask_state"
def aJO:yO ["book","deed"] ["book","deed"] (yH Z2):=scM
def aJC(a:MG P w K mg base (CXR P w) n CB "state_of" ["self","number"] (aJZ K Rf CB CL))(F:Fun K "ask_state" "ask_state" Z2 f fd):xL P w K mg base (CXR P w) (n+1) f fd ["book","deed"] (aJU K Rf CB CL λe=>∃ (m:Int),e= .state m):=by
 have D:=aJO;refine F.okX (k:=n) D (λJ A outer s H M Q E I h=>?_);obtain⟨o,u,p,j,d,c,R,S,e,rfl,⟨m,rfl⟩,g,b,L,z,tb,q,x⟩:=h;refine⟨_,(yF (yP (jD a I wV (pv 0) (yA (yL yX (pv 1) yG) yD)))),?_⟩;obtain⟨C,G⟩:=b.book;have tk:∀ {H'},uO (own p j d c) H H'->vE Rf.2 H':=λk=>zC tb k b.kinds;have g:H u=some (.tup _):=g;refine⟨_,rfl,o,C,_,rfl,G,rfl,_,rfl,u,_,1,_,rfl,rfl,SqT.of g,rfl,?_⟩;refine⟨o,p,j,d,c,R,S,m,rfl,b,λk r l y v B hl=>?_,λh=>x _ (.oneN h (.inr (.inr (.inr (.inr (.inr (.inr (.inl rfl))))))))⟩;subst y;have i:=yE hl (.tup (stV r));exact q (.row r) _ _ _ _ d c (.state v B) (b.same i) (Q3.of i.t) Z4.refl (tk (uO.of i)) ⟨l,rfl,b.notnone hl,yB⟩ (qB.none hl)
abbrev qJ:Stmt:=xM "ask_thread"
def aZV:yO ["book","deed"] ["book","deed"] (yH qJ):=scM
def aZz(a:MG P w K mg base (CXR P w) n CB "thread_of" ["self","number"] (Y0 K Rf CB CL))(F:Fun K "ask_thread" "ask_thread" qJ f fd):xL P w K mg base (CXR P w) (n+1) f fd ["book","deed"] (aJU K Rf CB CL λe=>∃ (m:Int),e= .thread m):=by
 have I:=aZV;refine F.okX (k:=n) I (λM A outer s H N Q E L h=>?_);obtain⟨p,v,u,o,g,d,R,S,e,rfl,⟨m,rfl⟩,i,b,B,j,tb,q,y⟩:=h;refine⟨_,(yF (yP (jD a L wV (pv 0) (yA (yL yX (pv 1) yG) yD)))),?_⟩;obtain⟨G,J⟩:=b.book;have tk:∀ {c},uO (own u o g d) H c->vE Rf.2 c:=λk=>zC tb k b.kinds;have i:H v=some (.tup _):=i;refine⟨_,rfl,p,G,_,rfl,J,rfl,_,rfl,v,_,1,_,rfl,rfl,SqT.of i,rfl,?_⟩;refine⟨p,u,o,g,d,R,S,m,rfl,b,B.r,j.tree,tb,λh=>y _ (.oneN h (.inr (.inr (.inr (.inr (.inr (.inr (.inr (.inl rfl))))))))),λk r C x D c l nl t z hl=>?_⟩;subst C;exact q (.nums (Bk.thr R k)) _ _ _ c g d (.thread x D) (b.sameT t) (Q3.of t) Z4.refl z ⟨l,rfl,b.notown nl,hl⟩ (qB.nl nl)
abbrev qI:Stmt:=xM "ask_copies"
def aZU:yO ["book","deed"] ["book","deed"] (yH qI):=scM
def aZy(a:MG P w K mg base (CXR P w) n CB "copies_of" ["self","number"] (aWN K Rf CB CL))(F:Fun K "ask_copies" "ask_copies" qI f fd):xL P w K mg base (CXR P w) (n+1) f fd ["book","deed"] (aJU K Rf CB CL λe=>∃ (m:Int),e= .copies m):=by
 have D:=aZU;refine F.okX (k:=n) D (λJ A outer s H M Q E I h=>?_);obtain⟨o,u,p,j,d,c,R,S,e,rfl,⟨m,rfl⟩,g,b,L,z,tb,q,x⟩:=h;refine⟨_,(yF (yP (jD a I wV (pv 0) (yA (yL yX (pv 1) yG) yD)))),?_⟩;obtain⟨C,G⟩:=b.book;have tk:∀ {H'},uO (own p j d c) H H'->vE Rf.2 H':=λk=>zC tb k b.kinds;have g:H u=some (.tup _):=g;refine⟨_,rfl,o,C,_,rfl,G,rfl,_,rfl,u,_,1,_,rfl,rfl,SqT.of g,rfl,?_⟩;refine⟨o,p,j,d,c,R,S,m,rfl,b,λk r l y v B hl=>?_,λh=>x _ (.oneN h (.inr (.inr (.inr (.inr (.inr (.inr (.inr (.inr rfl)))))))))⟩;subst y;have i:=yE hl (.lst (r.copies.map V.str));exact q (.txts r.copies) _ _ _ _ d c (.copies v B) (b.same i) (Q3.of i.t) Z4.refl (tk (uO.of i)) ⟨l,rfl,b.notnone hl,yB⟩ (qB.none hl)
abbrev jQ:Stmt:=xM "ask_letters"
def aX1:yO ["book","deed"] ["book","deed"] (yH jQ):=scM
def aXV(a:MG P w K mg base CX0 n CB "letters_in" ["self","name"] (aXK CB CL))(F:Fun K "ask_letters" "ask_letters" jQ f fd):xL P w K mg base (CXR P w) (n+1) f fd ["book","deed"] (aJU K Rf CB CL λe=>∃ (name:Str),e= .letters name):=by
 have z:=aX1;refine F.okX (k:=n) z (λD A outer s H I Q E C h=>?_);obtain⟨o,u,p,m,d,c,R,S,e,rfl,⟨name,rfl⟩,g,b,v,x,tb,q,G⟩:=h;refine⟨_,(yF (yP (jD a C uT (pv 0) (yA (yL yX (pv 1) yG) yD)))),?_⟩;obtain⟨y,B⟩:=b.book;have tk:∀ {H'},uO (own p m d c) H H'->vE Rf.2 H':=λk=>zC tb k b.kinds;have g:H u=some (.tup _):=g;refine⟨_,rfl,o,y,_,rfl,B,rfl,_,rfl,u,_,1,_,rfl,rfl,SqT.of g,rfl,?_⟩;refine⟨o,p,m,d,c,R,S,name,rfl,b,v.r,λl hl=>?_⟩;have j:=yE hl (.lst ((aQv R name).map λi=>V.int (i:Nat)));exact q (.nums (aQv R name)) _ _ _ _ d c .letters (b.same j) (Q3.of j.t) Z4.refl (tk (uO.of j)) ⟨l,rfl,b.notnone hl,yB⟩ (qB.none hl)
abbrev jS:Stmt:=xM "ask_waiting"
def aX3:yO ["book","deed"] ["book","deed"] (yH jS):=scM
def aXX(a:MG P w K mg base CX0 n CB "waiting" ["self","day"] (bYw CB CL false))(F:Fun K "ask_waiting" "ask_waiting" jS f fd):xL P w K mg base (CXR P w) (n+1) f fd ["book","deed"] (aJU K Rf CB CL λe=>∃ (d:Int),e= .on false d):=by
 have G:=aX3;refine F.okX (k:=n) G (λL A outer s H N Q E J h=>?_);obtain⟨v,z,y,u,j,g,R,S,e,rfl,⟨d,rfl⟩,m,b,x,C,tb,q,M⟩:=h;refine⟨_,(yF (yP (jD a J uT (pv 0) (yA (yL yX (pv 1) yG) yD)))),?_⟩;obtain⟨D,I⟩:=b.book;have tk:∀ {c},uO (own y u j g) H c->vE Rf.2 c:=λk=>zC tb k b.kinds;have m:H z=some (.tup _):=m;refine⟨_,rfl,v,D,_,rfl,I,rfl,_,rfl,z,_,1,_,rfl,rfl,SqT.of m,rfl,?_⟩;refine⟨v,y,u,j,g,R,S,d,rfl,b,x.r,x.s,λl c B p hl i o=>?_⟩;exact q (.nums B) _ _ _ c j g (.on o) (b.same p) (Q3.of p.t) Z4.refl (tk (uO.of p)) ⟨l,rfl,b.notnone hl,i⟩ (qB.none hl)
abbrev jR:Stmt:=xM "ask_overdue"
def aX2:yO ["book","deed"] ["book","deed"] (yH jR):=scM
def aXW(a:MG P w K mg base CX0 n CB "overdue" ["self","day"] (bYw CB CL true))(F:Fun K "ask_overdue" "ask_overdue" jR f fd):xL P w K mg base (CXR P w) (n+1) f fd ["book","deed"] (aJU K Rf CB CL λe=>∃ (d:Int),e= .on true d):=by
 have G:=aX2;refine F.okX (k:=n) G (λL A outer s H N Q E J h=>?_);obtain⟨v,z,y,u,j,g,R,S,e,rfl,⟨d,rfl⟩,m,b,x,C,tb,q,M⟩:=h;refine⟨_,(yF (yP (jD a J uT (pv 0) (yA (yL yX (pv 1) yG) yD)))),?_⟩;obtain⟨D,I⟩:=b.book;have tk:∀ {c},uO (own y u j g) H c->vE Rf.2 c:=λk=>zC tb k b.kinds;have m:H z=some (.tup _):=m;refine⟨_,rfl,v,D,_,rfl,I,rfl,_,rfl,z,_,1,_,rfl,rfl,SqT.of m,rfl,?_⟩;refine⟨v,y,u,j,g,R,S,d,rfl,b,x.r,x.s,λl c B p hl i o=>?_⟩;exact q (.nums B) _ _ _ c j g (.on o) (b.same p) (Q3.of p.t) Z4.refl (tk (uO.of p)) ⟨l,rfl,b.notnone hl,i⟩ (qB.none hl)
end
end Desk
namespace Desk
open PySem L2 PyProof.Rows
open Bk (Row Rows xV Ans xZ)
open Thr (vE jB W1)
structure bYF(P:cQT)(w:cQ2)(K:cQz)(D:Nat)(kvs:List (Key×cQx)):Prop where
 at_:∃o es ep,K.lookup D=some o/\o.ExactDict/\o.data= .dict es ep/\KeysOf (zP P w) es/\Pairs (zP P w) es.toList kvs/\(kvs.map (·.1)).Nodup
def cQv(a:List (Key×cQx))(c:TE):TE:=λσ H Q=>c σ H λy b=>∃ (x:Str)(f:Nat),y= .str x/\cJ3 a (Sum.inr x)=some (.ref f)/\Q (.ref f) b
def bKW{X:Cx}{x:Str}{D:Nat}{a:List (Key×cQx)}{i:Expr}{e:TE}{p pos:Pos}(m:Gl X x)(v:X.mg x=some (.ref D))(T:bYF X.prog X.w X.K D a)(t:PE X i e)(g:bY2 i)(c:(x==("__debug__":Str))=false:=by decide):
  PE X (.Subscript (.Name x p) i pos) (cQv a e):=by
 intro b s σ H Q I h
 refine bW7 PySem.F.slot_dict_getitem.lookup g (jL I m v (thn (t b s σ H _ I h) λiv s2 ⟨y,H2,I2,ry,x',f,ex,hv,q2⟩=>?_) c)
 subst ex
 obtain⟨o,q,A,r,j,n,u,l,z⟩:=T.at_
 have d:s2.heap.DictOf (zP X.prog X.w) D a:=⟨o,q,A,I2.kIn _ _ r,j,n,u,l,z⟩
 exact⟨d.typeIs,wpAny_getItem_of (bZk (k:=Sum.inr x') ry) d.mapOf hv ⟨.ref f,H2,I2.tok _,rfl,q2⟩⟩
def bVq(P:cQT)(w:cQ2)(K:cQz)(mg:Str->Option cQx)(base:Heap)(k i:Nat)(E:XK)(t:TA):TE:=λσ H Q=>∃f,σ[i]? =some (some (.ref f))/\cXv K (.ref f)=true/\
 t σ H λd e=>∃a b c,xL P w K mg base (CXR P w) k f a b c/\uX K a b []/\c d e Q E
def bZ1{X:Cx}{k i:Nat}{x:Str}{e:Expr}{c:List Expr}{t:TA}{E:XK}{p pos:Pos}(J:uS k X.A)(m:X.N[i]? =some x)(D:Vis X.env.scope x)(L:uB (CXR X.prog X.w) X E)(C:PA X (e::c) t)
  (l:(x==("__debug__":Str))=false:=by decide) (j:(x==("__classdict__":Str))=false:=by decide) (y:cXe (e::c) X.env=(false,eval e X.env)::cXe c X.env:=by rfl) (d:(cZj pos (cXe c X.env)).any (·.1)=false:=by rfl):
  PE X (.Call (.Name x p) (e::c) [] pos) (bVq X.prog X.w X.K X.mg X.base k i E t):=by
 intro a s σ H Q I h
 obtain⟨f,B,o,q⟩:=h
 refine cX4 (thn (bVf (pos:=p) m D l j a s σ H (λv g=>v= .ref f/\g=H) I ⟨_,B,rfl,rfl⟩) ?_)
 rintro u n ⟨v,g,z,G,rfl,rfl⟩
 obtain rfl:u=Value.ref f:=G
 refine cJv (h₀:=X.base) I.ok.mod.kin o (thn (C pos a n σ g _ z q) λus s2 ⟨vs,H2,I2,r,fd,ps,sp,F,b,q2⟩=>⟨I2.kIn,?_⟩) y d
 exact aZd F J b .nil L I2 r (by rw[cXC];exact q2)
def aYY:xV->Str
 |.enter b _ _ _=>b
 |.reply _ _ _=>"reply"
 |.hang _ _=>"hang"
 |.loose _=>"loose"
 |.date _ _=>"date"
 |.term _ _=>"term"
 |.copy _ _=>"copy"
 |.file _ _=>"file"
 |.void _=>"void"
 |.shut _=>"shut"
 |.state _=>"state"
 |.thread _=>"thread"
 |.copies _=>"copies"
 |.letters _=>"letters"
 |.on a _=>if a then "overdue" else "waiting"
def Wf:xV->Prop
 |.enter a _ _ _=>a="in"\/a="out"
 |_=>True
def bX6(e:xV):atI (xP e) 0=some (.str (aYY e)):=by cases e<;> rfl
def bKi(P:cQT)(w:cQ2)(K:cQz)(mg:Str->Option cQx)(base:Heap)(n:Nat)(Rf:Nat×Nat)(c CL:Nat)(a:List (Key×cQx)):Prop:=∀e:xV,Wf e->∃ (f:Nat)(b:cZz)(p:xV->Prop),cJ3 a (Sum.inr (aYY e))=some (.ref f)/\
 xL P w K mg base (CXR P w) n f b ["book","deed"] (aJU K Rf c CL p)/\p e/\uX K b ["book","deed"] []/\cXv K (.ref f)=true
def aQV(Rf:Nat×Nat)(l CL:Nat):Sp:=λo H Q _=>∃ (j m f d:Nat)(i h:List Nat)(R:Rows)(S:List Int)(e:xV),o= [.ref j,.ref m]/\Wf e/\H m=some (.tup (xP e))/\PB l CL H j f d i h R S/\Sz R S/\Bk.Z5 R/\vE Rf.2 H/\
 ∀ (a:Ans)(n:Rows)(k:List Int)(v:V)(g:Hp)(c b:List Nat),xZ R S e a n k->PB l CL g j f d c b n k->Q3 (own f d i h) H g->Z4 H (own f d i h) (own f d c b)->vE Rf.2 g->uA (own f d c b) g a v->qB H v->Q v g
section
variable {K:cQz}
abbrev aVJ:Stmt:=xM "answer"
def bXd:yO ["book","deed","do","refusal"] ["book","deed"] (yH aVJ):=scM
def bQn(y:mg "DEEDS"=some (.ref D))(V:bYF P w K D kvs)(hR:mg "Refused"=some (.ref Rf.1))(J:jI K Rf.1)(all:bKi P w K mg base n Rf CB CL kvs)(F:Fun K "answer" "answer" aVJ f fd): xL P w K mg base CX0 (n+1) f fd ["book","deed"] (aQV Rf CB CL):=by
 have v:=bXd;refine F.ok (k:=n) v (λa0 A outer s H vs Q E Y h=>?_);obtain⟨G,x,N,B,o,m,R,S,e,rfl,c,p,u,I,d,tb,q⟩:=h;refine⟨_,(yC (yU (i:=2) (bKW rfl y V (yL yX (pv 1) yG) (λ_ _=>rfl))) (yF (bKZ (i:=3) v.nd rfl rfl rfl hR J rfl rfl rfl (by decide) (by decide) (by decide) (λ_=>rfl) (tb:=λE=>cQa (bVq P w K mg base n 2 E (aYk (bKa 0) (aYk (bKa 1) bXO)))) (λpn xe E T=>yF (yP (bZ1 Y rfl (Or.inl rfl) T (yA (pv 0) (yA (pv 1) yD)))))))),?_⟩;obtain⟨r,a,pe,M,W,g,b,j⟩:=all e c;refine⟨_,rfl,x,_,0,_,rfl,rfl,SqT.of p,bX6 e,aYY e,r,rfl,M,?_⟩;dsimp only[yW];refine⟨r,rfl,j,_,rfl,_,rfl,a,_,_,W,b,G,x,N,B,o,m,R,S,e,rfl,g,p,u,I,d,tb,q,λt l=>?_⟩;intro C O L Z U k X;exact⟨C,O,t,rfl,rfl,Z,U,X,q (.txt t) R S _ L o m l (u.sameT k.1) (Q3.of k.1) Z4.refl (k.2 tb) rfl (λ_ z=>nomatch z)⟩
inductive Run:Rows->List Int->List xV->List Ans->Rows->List Int->Prop
 |nil {R:Rows} {S:List Int}:Run R S [] [] R S
 |snoc {R R' R'':Rows} {S S' S'':List Int} {es:List xV} {as:List Ans} {e:xV} {a:Ans} (h:Run R S es as R' S') (d:xZ R' S' e a R'' S''):Run R S (es++ [e]) (as++ [a]) R'' S''
def Run.len{R e:Rows}{S f:List Int}{a:List xV}{b:List Ans}(h:Run R S a b e f):a.length=b.length:=by
 induction h with
 |nil=>rfl
 |snoc h d c=>simp[c]
structure Up(t:Nat)(R:Rows)(S:List Int):Prop where
 r:R.length<=t
 s:S.length<=t
 c:∀r∈R,r.copies.length<=t
def Up.set{t:Nat}{R:Rows}{S:List Int}(u:Up t R S)(k:Nat)(f:Row->Row)(b:∀r,(f r).copies.length<=r.copies.length+1):Up (t+1) (Bk.xW R k f) S:=
 ⟨by rw[Bk.wP];exact cZc u.r,cZc u.s,λr a=>by
  rcases Bk.W9 a with h|⟨q,h,rfl⟩
  ·exact cZc (u.c r h)
  ·exact cQ7 (b q) (Nat.succ_le_succ (u.c q h))⟩
def aXa{name:Str}:∀ (l:List Nat)(R:Rows)(t:Nat),(∀r∈R,r.copies.length<=t)->∀r∈Bk.laid R l name,r.copies.length<=t
 |[],R,t,h,r,hr=>h r hr
 |k::l,R,t,h,r,hr=>aXa l (Bk.xW R k λr=>{r with place:=name}) t (λq a=>by
   rcases Bk.W9 a with z|⟨b,z,rfl⟩
   ·exact h q z
   ·exact h b z) r hr
def Up.laid{t:Nat}{R:Rows}{S:List Int}(u:Up t R S)(l:List Nat)(name:Str):Up t (Bk.laid R l name) S:=⟨by rw[Bk.wG];exact u.r,u.s,aXa l R t u.c⟩
def Up.le{t:Nat}{R:Rows}{S:List Int}(u:Up t R S):Up (t+1) R S:=⟨cZc u.r,cZc u.s,λr h=>cZc (u.c r h)⟩
def Up.snoc{t:Nat}{R:Rows}{S:List Int}(u:Up t R S)(r:Row)(h:r.copies= []):Up (t+1) (R++ [r]) S:=⟨by simpa using u.r,cZc u.s,λq a=>by
 rcases cQ4.mp a with z|z
 ·exact cZc (u.c q z)
 ·rw[cQL.mp z,h];exact cXz _⟩
def Up.done{t:Nat}{R b:Rows}{S d:List Int}{e:xV}{a:Ans}(u:Up t R S)(h:xZ R S e a b d):Up (t+1) b d:=by
 cases h with
 |enter _=>exact u.snoc _ rfl
 |reply _ _ _ _=>exact u.snoc _ rfl
 |hang _ _ _ _ _ _ _ _ _=>exact(u.laid _ _).set _ _ λ_=>cZD _
 |loose _ _ _=>exact u.set _ _ λ_=>cZD _
 |date _ _ _ _=>exact u.set _ _ λ_=>cZD _
 |term _ _ _=>exact u.set _ _ λ_=>cZD _
 |copy _ _ _ _=>exact u.set _ _ λr=>by simp
 |file _ _=>exact(u.laid _ _).le
 |void _ _ _=>exact u.set _ _ λ_=>cZD _
 |shut _=>exact⟨cZc u.r,by simpa using u.s,λr h=>cZc (u.c r h)⟩
 |_=>exact u.le
def Up.sz{t:Nat}{R:Rows}{S:List Int}(u:Up t R S)(h:t<64):Sz R S:=⟨by have:=u.r;omega,by have:=u.s;omega,λr a=>by have:=u.c r a;omega⟩
end
end Desk
namespace Law
open PySem L2 PyProof.Rows
open Bk (Row Rows xZ xV Ans)
open Desk (xP uA qB Wf)
abbrev aZJ:Stmt:=xM "_law_entered"
def aXQ(e:Nat)(c a:List Nat)(H d:Hp):Prop:=(∀x o,x∉e::c->H x=some o->d x=some o)/\(∀b∈a,b∈c\/H b=none)/\∀s u,H s=some u->NoC c H s->NoC a d s
def But.step{d:Nat}{a:List Nat}{H c:Hp}(k:But a H c):aXQ d a a H c:=⟨λx o n e=>k.1 x o (λz=>n (cQI _ z)) e,λb h=> .inl h,k.2.2⟩
def aXQ.pre{d:Nat}{c a:List Nat}{H g f:Hp}(i:∀b∈c,∃o,H b=some o)(k:xJ H g)(s:aXQ d c a g f):aXQ d c a H f:=
 ⟨λx o n e=>s.1 x o n (k _ _ e),λb h=>(s.2.1 b h).imp id λz=>k.fresh z,λx u e n=>s.2.2 x u (k _ _ e) ((But.of i k).2.2 x u e n)⟩
def aXJ:Sp:=λl H Q _=>∃ (f j:Nat)(i:List Nat)(R:Rows)(e:xV),l= [.ref f,.ref j]/\H j=some (.tup (xP e))/\Wf e/\((∃g d h t,e= .enter g d h t)\/∃m d t,e= .reply m d t)/\xF H f i R/\R.length<=60/\
 ∀ (c:Hp)(a:Ans)(v:V)(k:Rows)(b:List Nat),aXQ f i b H c->xF c f b k->(∀S,xZ R S e a k S)->uA [] c a v->qB H v->Q v c
def aKa{H:Hp}{k:Nat}{p:List Nat}{R:Rows}(h:xF H k p R){r:Row}(T:r.copies= []){f b:Nat}(v:H f=none)(F:upd H f (.lst []) b=none): xF (upd (upd (upd H f (.lst [])) b (.lst (jW r f))) k (.lst ((p++ [b]).map V.ref))) k (p++ [b]) (R++ [r])/\aXQ k p (p++ [b]) H (upd (upd (upd H f (.lst [])) b (.lst (jW r f))) k (.lst ((p++ [b]).map V.ref))):=by
 have M:=yE v (.lst []);have S:=yE F (.lst (jW r f));have D:=M.trans S;have m:H b=none:=M.fresh F;have w:b≠k:=λz=>by rw[z,h.lst]at m;cases m
 have K:f≠k:=λz=>by rw[z,h.lst]at v;cases v
 have I:f≠b:=λz=>by rw[<- z,yB]at F;cases F
 have nb:b∉p:=λz=>by obtain⟨o,e⟩:=h.dom b z;rw[m]at e;cases e
 have rne:∀ {a r' j},H a=some (.lst (jW r' j))->a≠k:=λq z=>by rw[z,h.lst]at q;exact aXr (cQS q).symm
 refine⟨⟨yB,by simp[h.len],?_,λi c q g d=>?_⟩,λx o n e=>?_,λc t=>?_,λs u e n c t l G=>?_⟩
 ·exact cZ6.mpr ⟨h.nd,cX0 _ _,λa O c v z=>nb (by rw[<- cQL.mp v,<- z];exact O)⟩
 ·by_cases B:i<R.length
  ·rw[cXh (by rw[h.len];exact B)]at g;rw[cXh B]at d;obtain⟨j,E,A⟩:=h.row i c q g d;have J:j≠k:=λz=>by
    rw[z,h.lst]at A;have hl:=congrArg cZH (HO.lst.inj (cQS A));have:=cQP g;cases p with
    |nil=>cases this
    |cons x U=>
     cases C:q.copies with
     |nil=>rw[C]at hl;simp at hl
     |cons y W=>rw[C]at A;have:=HO.lst.inj (cQS A);simp at this
   exact⟨j,by rw[yJ (rne E)];exact D _ _ E,by rw[yJ J];exact D _ _ A⟩
  ·have L:i=R.length:=by
    have:=(cQK.mp d).1;simp at this;omega
   subst L;rw[cQX (by rw[h.len];exact cQE _),h.len,cXV]at g;rw[cQX (cQE _),cXV]at d;cases g;cases d;exact⟨f,by rw[yJ w,yB];rfl,by rw[yJ K,yJ I,yB,T];rfl⟩
 ·have P:x≠k:=λz=>n (by rw[z];exact cQM);rw[yJ P];exact D _ _ e
 ·rcases cQ4.mp t with z|z
  ·exact .inl z
  ·exact .inr (by rw[cQL.mp z];exact m)
 ·rcases cQ4.mp t with z|z
  ·have z2:c≠k:=λy=>by
    obtain⟨i,B,Q⟩:=cXq z;obtain⟨j,E,_⟩:=h.row i c _ (by rw[cQw B,Q]) (cQw (show i<R.length by rw[<- h.len];exact B));exact rne E y
   obtain⟨o,N⟩:=h.dom c z;rw[yJ z2,D _ _ N]at G;exact n c z l (by rw[N];exact G)
  ·rw[cQL.mp z,yJ w,yB]at G;cases G;intro y;have:f=s:=by injection y with y;injection y
   rw[<- this,v]at e;cases e
section
variable {K:cQz}
def qC:cXj "int"=some (.type "int"):=dk
def aK8:yO ["_law_rows","_law_deed","_law_way","_law_date","_law_partner","_law_link","_law_place","_law_one"] ["_law_rows","_law_deed"] (yH aZJ):=scM
def aKL(T:uJ mg)(a3:mg "int"=none)(C:FnG P w K mg base 2 "_law_good" ["_law_rows","_law_number"] aQH)(F:Fun K "_law_entered" "_law_entered" aZJ f fd):xL P w K mg base CX0 3 f fd ["_law_rows","_law_deed"] aXJ:=by
 have sc:=aK8;refine F.ok (k:=2) sc (λb6 A outer s H vs Q E hr h=>?_);obtain⟨O,o,W,R,e,rfl,y,b5,u,I,hR,q⟩:=h;refine⟨_,(yC (uQ (xK (yA (yL yX (pv 1) yG) (yA (yL yX (pv 1) yG) (yA (yL yX (pv 1) yG) (yA zL (yA yQ yD)))))) (aWy rfl (wI (xI (i:=2)) (wI (xI (i:=3)) (wI (xI (i:=4)) (wI (xI (i:=5)) (wI (xI (i:=6)) aZC))))))) (yC (xA (yM zR (pv 2) yQ) (yC (xA (vH (zA (xU C hr rfl (yA (pv 0) (yA (yL yX (pv 1) yG) yD))))) (yF (yP yQ)) yS) (yC (yU (i:=7) (yL yK (pv 0) (yL yX (pv 1) yG))) (yC (yU (i:=2) (yL yK (xB (yA yQ (yA yQ yD))) (zG uC rfl a3 qC (yA (wL zR (yL yK (pv 7) yG) yQ) yD)))) (yF (uQ (xK (yA (yL yX (pv 1) yG) (yA (yL yK (pv 7) yG) (yA (yL yX (pv 1) yG) (yA (yL yK (pv 7) yG) yD))))) (aWy rfl (wI (xI (i:=3)) (wI (xI (i:=4)) (wI (xI (i:=5)) (wI (xI (i:=6)) aZC)))))))))) yS) (yC (xA (yM uM (yL yX (pv 1) yG) yG) (yF (yP yQ)) yS) (yC (xA (PW.pt (jE (yM wZ (pv 5) zL) (uG (yM uM (pv 3) (yL yK (yL yK (pv 0) (pv 5)) yG))))) (yF (yP yQ)) yS) (yC (yZ (jC cQ3 cXc cXd xR (pv 0) (yA (xB (yA (pv 2) (yA (pv 3) (yA (pv 4) (yA (yL yX (pv 1) yG) (yA (pv 5) (yA (pv 6) (yA vQ (yA (xB yD) yD))))))))) yD))) (yF (yP (yV uF (yR yN rfl T.b_len xG (yA (pv 0) yD)) yG)))))))),?_⟩;have h0:∃a b c,(xP e)[0]? =some (.str a)/\(xP e)[1]? =some (.int b)/\(xP e)[2]? =some c/\a=Desk.aYY e:=by
  rcases u with⟨g,d,l,t,rfl⟩|⟨m,d,t,rfl⟩
  ·exact⟨_,_,_,rfl,rfl,rfl,rfl⟩
  ·exact⟨_,_,_,rfl,rfl,rfl,rfl⟩
 obtain⟨M,b0,G,d0,d1,d2,ea⟩:=h0;refine⟨_,rfl,o,_,0,_,rfl,rfl,SqT.of y,yT (j:=0) d0,_,rfl,o,_,1,_,rfl,rfl,SqT.of y,yT (j:=1) d1,_,rfl,o,_,2,_,rfl,rfl,SqT.of y,yT (j:=2) d2,z5,λtp a9=>?_⟩;have X:=yE a9 (.tup [.str M,.int b0,G,.non,.str ""]);refine⟨tp,[.str M,.int b0,G,.non,.str ""],rfl,SqT.of yB,rfl,.str M,[.int b0,G,.non,.str ""],rfl,.int b0,[G,.non,.str ""],rfl,G,[.non,.str ""],rfl,.non,[.str ""],rfl,.str "",[],rfl,rfl,?_⟩;generalize upd H tp (.tup [.str M,.int b0,G,.non,.str ""])=H1 at X ⊢;dsimp only[yW];refine zU (λv H'=>∃ (g l place:Str)(d t:Int)(lk:Option Nat)(o7:Option V),v= [some (.ref O),some (.ref o),some (.str g),some (.int d),some (.str l),some (zV lk),some (.str place),o7]/\xJ H H'/\(xP e)[3]? =some (.int t)/\(∀k,lk=some k->k<R.length)/\
  (t<0->∀S,xZ R S e (.txt "no term") R S)/\(0<=t->(∃k,lk=some k/\d<Bk.dt R k)->∀S,xZ R S e (.txt "too early") R S)/\(0<=t->(∀k,lk=some k->Bk.dt R k<=d)->∀S,xZ R S e (.num R.length) (R++ [⟨g,d,l,t,lk,place,false,[]⟩]) S)) ?X8 (λn=>?_)
 case X8=>
  rintro v H2 ⟨g,l,place,d,t,lk,o7,rfl,B,d3,b3,t1,t2,t3⟩;have p:=I.same B;have a6:=B _ _ y;have stay:∀ {H3:Hp} {x:Str},xJ H H3->(∀S,xZ R S e (.txt x) R S)->Q (.str x) H3:=λ{H3 x} k dn=>q H3 (.txt x) _ R W (But.of I.dom k).step (I.same k) dn rfl (λ_ z=>nomatch z);refine⟨_,rfl,o,_,3,_,rfl,rfl,SqT.of a6,yT (j:=3) d3,_,_,rfl,rfl,_,rfl,?_⟩;refine X2 (λc=>?_) (λc=>?_)
  ·exact stay B (t1 (of_decide_eq_true c))
  have ht:0<=t:=by have:=of_decide_eq_false (Bool.eq_false_iff.mpr c);omega
  dsimp only[aV8];refine zU (λv H'=>v= [some (.ref O),some (.ref o),some (.str g),some (.int d),some (.str l),some (zV lk),some (.str place),o7]/\H'=H2/\∀k,lk=some k->Bk.dt R k<=d) ?rest2 (λn=>?_);case rest2=>
   rintro v H' ⟨rfl,rfl,h1⟩;refine⟨_,rfl,.inl ⟨rfl,_,SqL.of p.lst⟩,_,rfl,_,rfl,_,rfl,_,rfl,o,_,3,_,rfl,rfl,SqT.of a6,yT (j:=3) d3,_,rfl,_,rfl,z0,λcp a4=>⟨zn (by show 8<=100000;omega),λb hb=>?_⟩⟩;have hE:=aKa p (r:=⟨g,d,l,t,lk,place,false,[]⟩) rfl a4 hb;have k3:=(yE a4 (.lst [])).trans (yE hb (.lst (jW ⟨g,d,l,t,lk,place,false,[]⟩ cp)));refine⟨O,_,_,rfl,rfl,k3 _ _ p.lst,zlt (by rw[cQB,I.len];omega),?_⟩;have el:W.map V.ref++ [V.ref b]=(W++ [b]).map V.ref:=by simp
   rw[el];refine⟨_,rfl,O,_,rfl,.inl (SqL.of yB),?_⟩;refine⟨_,_,rfl,rfl,?_⟩;have en:(((((W++ [b]).map V.ref).length:Nat):Int) - 1)=(R.length:Int):=by rw[cQB,cQ0,I.len];simp
   show Q (V.int _) _;rw[en];exact q _ (.num R.length) _ _ _ (hE.2.pre I.dom B) hE.1 (t3 ht h1) rfl (λ_ z=>nomatch z)
  cases lk with
  |none=>exact⟨_,rfl,rfl,_,rfl,onF rfl (onF rfl (n _ _ ⟨rfl,rfl,λk z=>nomatch z⟩))⟩
  |some j=>
   have b1:=b3 j rfl;have L:=cQw b1;obtain⟨bj,j1,j2,cj,j3,j4⟩:=p.get L;refine⟨_,rfl,rfl,_,rfl,onT rfl ⟨_,rfl,_,rfl,_,rfl,O,_,_,_,rfl,rfl,SqL.of p.lst,yT j1,bj,_,1,_,rfl,rfl,SqL.of j3,rfl,_,_,rfl,rfl,_,rfl,?_⟩⟩;cases a7:decide (d<R[j].date)with
   |true=>exact onT rfl (stay B (t2 ht ⟨j,rfl,by rw[Bk.uK L];exact of_decide_eq_true a7⟩))
   |false=>exact onF rfl (n _ _ ⟨rfl,rfl,λi U=>by cases U;rw[Bk.uK L];have:=of_decide_eq_false a7;omega⟩)
 refine⟨_,rfl,rfl,_,rfl,?_⟩;rcases u with⟨g,d,l,t,rfl⟩|⟨m,d,t,rfl⟩
 ·have Y:g="in"\/g="out":=b5;obtain rfl:M=g:=by cases d0;rfl
  obtain rfl:b0=d:=by cases d1;rfl
  obtain rfl:G= .str l:=by cases d2;rfl
  refine onF (by rcases Y with rfl|rfl<;> decide) ?_;exact n _ _ ⟨M,l,"",b0,t,none,none,rfl,X,rfl,(λk z=>nomatch z),(λh S=> .enterT h),(λh ⟨k,z,_⟩=>nomatch z),λh _ S=> .enter h⟩
 ·obtain rfl:M="reply":=by cases d0;rfl
  obtain rfl:b0=m:=by cases d1;rfl
  obtain rfl:G= .int d:=by cases d2;rfl
  refine onT rfl ?_;have N:H1 o=some (.tup [.str "reply",.int b0,.int d,.int t]):=X _ _ y;have D:=I.same X;refine⟨_,rfl,_,rfl,o,_,1,_,rfl,rfl,SqT.of N,rfl,O,W,R,b0,rfl,D,_,rfl,?_⟩;cases h1:Bk.vK R b0 with
  |false=>exact onT rfl (q H1 (.txt "no letter") _ R W (But.of I.dom X).step D (λS=> .replyN h1) rfl (λ_ z=>nomatch z))
  |true=>
  obtain⟨i,r,rfl,b2,U,hv⟩:=Bk.vL h1;obtain⟨b,g1,g2,cp,g3,g4⟩:=D.get U;refine onF rfl ⟨_,rfl,_,rfl,o,_,1,_,rfl,rfl,SqT.of N,rfl,O,_,_,_,rfl,rfl,SqL.of D.lst,yT g1,?_⟩;dsimp only[yW];refine⟨z2,λl2 a5=>⟨_,rfl,b,_,0,_,rfl,rfl,SqL.of (yE a5 (.lst [.str "in",.str "out"]) _ _ g3),rfl,rfl,.inr ⟨_,rfl,?_⟩⟩⟩;have B:=yE a5 (.lst [.str "in",.str "out"]);have a2:=X.trans B;have J:upd H1 l2 (.lst [.str "in",.str "out"]) l2=some (.lst [.str "in",.str "out"]):=yB;generalize upd H1 l2 (.lst [.str "in",.str "out"])=H3 at B a2 J ⊢;have a8:atI [V.str "in",V.str "out"] (if decide (V.str r.way=V.str "in")=true then 1 else 0)=some (.str (Bk.Y4 r.way)):=by
   rw[vY];unfold Bk.Y4;by_cases z:r.way="in"
   ·rw[if_pos z,decide_eq_true z];rfl
   ·rw[if_neg z,decide_eq_false z];rfl
  have Z:=B _ _ N;have a1:=B _ _ g3;refine⟨l2,_,_,_,rfl,rfl,SqL.of J,a8,?_⟩;dsimp only[yW];refine⟨_,rfl,o,_,2,_,rfl,rfl,SqT.of Z,rfl,_,rfl,b,_,2,_,rfl,rfl,SqL.of a1,rfl,_,rfl,o,_,1,_,rfl,rfl,SqT.of Z,rfl,_,rfl,b,_,5,_,rfl,rfl,SqL.of a1,rfl,z4,λt4 b4=>?_⟩;have k4:=yE b4 (.tup [.int d,.str r.partner,.int (i:Nat),.str r.place]);refine⟨t4,[.int d,.str r.partner,.int (i:Nat),.str r.place],rfl,SqT.of yB,rfl,.int d,[.str r.partner,.int (i:Nat),.str r.place],rfl,.str r.partner,[.int (i:Nat),.str r.place],rfl,.int (i:Nat),[.str r.place],rfl,.str r.place,[],rfl,rfl,?_⟩;refine n _ _ ⟨Bk.Y4 r.way,r.partner,r.place,d,t,some i,_,rfl,a2.trans k4,rfl,(λk z=>by cases z;exact b2),(λh S=> .replyT h1 h),(λh ⟨k,z,y⟩ S=>?_),(λh y S=>?_)⟩
  ·cases z;rw[Bk.uK U]at y;exact .replyE U hv h y
  ·have:=y i rfl;rw[Bk.uK U]at this;exact .reply U hv h this
end
end Law
namespace Law
open PySem L2 PyProof.Rows
open Bk (Row Rows xZ xV Ans)
open Desk (xP uA qB Wf vU)
abbrev bWM:Stmt:=xM "_law_with_one"
def xF.tupNo{H:Hp}{d:Nat}{b:List Nat}{R:Rows}(h:xF H d b R){x:Nat}{ys:List V}(e:H x=some (.tup ys)):x∉b:=λz=>by
 obtain⟨i,c,f⟩:=cXq z;obtain⟨g,a,_⟩:=h.row i x _ (by rw[cQw c,f]) (cQw (show i<R.length by rw[<- h.len];exact c));rw[e]at a;cases a
def aVb{H:Hp}{m:Nat}{d:List Nat}{R:Rows}{k:Nat}{b:Nat}{r:Row}(h:xF H m d R)(q:d[k]? =some b)(A:R[k]? =some r){t a:Nat}(B:H b=some (.lst (jW r t)))(w:List Str)(f:H a=none): xF (upd (upd H a (.lst (w.map V.str))) b (.lst (jW r a))) m d (Bk.xW R k λr=>{r with copies:=w})/\aXQ m d d H (upd (upd H a (.lst (w.map V.str))) b (.lst (jW r a))):=by
 have j:=yE f (.lst (w.map V.str));have v:=h.same j;refine⟨v.upd q A (λr=>{r with copies:=w}) yB,λx o n e=>?_,λc i=> .inl i,λs u e n c i l g=>?_⟩
 ·rw[yJ (λz=>n (cQI _ (by rw[z];exact cQP q)))];exact j _ _ e
 ·by_cases z:c=b
  ·subst z;rw[yB]at g;cases g;intro y;have:a=s:=by injection y with y;injection y
   rw[<- this,f]at e;cases e
  ·rw[yJ z]at g;obtain⟨o,p⟩:=h.dom c i;rw[j _ _ p]at g;exact n c i l (by rw[p];exact g)
def Q4(e:xV)(m:Int):Prop:=e= .loose m\/(∃d,e= .date m d)\/(∃t,e= .term m t)\/(∃w,e= .copy m w)\/(∃w,e= .file m w)\/e= .void m
def bXJ:Sp:=λh H Q _=>∃ (b f:Nat)(c:List Nat)(R:Rows)(e:xV)(m:Int),h= [.ref b,.ref f]/\H f=some (.tup (xP e))/\Q4 e m/\xF H b c R/\R.length<=60/\Bk.Z5 R/\(∀r∈R,r.copies.length<=1000)/\
 ∀ (d:Hp)(a:Ans)(v:V)(g:Rows),aXQ b c c H d->xF d b c g->(∀S,xZ R S e a g S)->uA [] d a v->qB H v->Q v d
def Q4.at1{e:xV}{m:Int}(h:Q4 e m):(xP e)[1]? =some (.int m):=by
 rcases h with rfl|⟨d,rfl⟩|⟨d,rfl⟩|⟨d,rfl⟩|⟨d,rfl⟩|rfl<;> rfl
def Q4.no{e:xV}{m:Int}{R:Rows}(h:Q4 e m)(g:Bk.vK R m=false)(S:List Int):xZ R S e (.txt "no letter") R S:=by
 refine .oneN g ?_;rcases h with rfl|⟨d,rfl⟩|⟨d,rfl⟩|⟨d,rfl⟩|⟨d,rfl⟩|rfl<;> simp
section
variable {K:cQz}
def bW1:yO ["_law_rows","_law_deed","_law_one","_law_numbers","_law_k","_law_row"] ["_law_rows","_law_deed"] (yH bWM):=scM
def bWp(T:uJ mg)(U:FnG P w K mg base 2 "_law_good" ["_law_rows","_law_number"] aQH)(L:FnG P w K mg base 2 "_law_dated" ["_law_rows","_law_number","_law_date"] bXx)(X:FnG P w K mg base 2 "_law_lost" ["_law_rows","_law_number"] bVl) (I:FnG P w K mg base 2 "_law_family" ["_law_rows","_law_number"] qZ) (F:Fun K "_law_with_one" "_law_with_one" bWM f fd):xL P w K mg base CX0 3 f fd ["_law_rows","_law_deed"] bXJ:=by
 have sc:=bW1;refine F.ok (k:=2) sc (λc5 A outer s H vs Q E hr h=>?_);obtain⟨W,l,Y,R,e,m,rfl,n,D,y,hR,a7,a2,q⟩:=h;refine⟨_,(yC (xA (vH (zA (xU U hr rfl (yA (pv 0) (yA (yL yX (pv 1) yG) yD))))) (yF (yP yQ)) yS) (yC (yU (i:=2) (yL yK (pv 0) (yL yX (pv 1) yG))) (yC (xA (yM zR (yL yX (pv 1) yG) yQ) (yF (yP (xU L hr rfl (yA (pv 0) (yA (yL yX (pv 1) yG) (yA (yL yX (pv 1) yG) yD)))))) yS) (yC (xA (yM zR (yL yX (pv 1) yG) yQ) (yF (yP (xU X hr rfl (yA (pv 0) (yA (yL yX (pv 1) yG) yD))))) yS) (yC (xA (yM zR (yL yX (pv 1) yG) yQ) (yC (xA (yM aX9 (yL yK (pv 2) yG) zL) (yF (yP yQ)) yS) (yC (uQ zL (X0 (pv 2) yG wR)) (yF (yP yQ)))) yS) (yC (xA (yM zR (yL yX (pv 1) yG) yQ) (yC (xA (yM uM (yL yX (pv 1) yG) yG) (yF (yP yQ)) yS) (yC (uQ (yL yX (pv 1) yG) (X0 (pv 2) yG wR)) (yF (yP yQ)))) yS) (yC (xA (yM zR (yL yX (pv 1) yG) yQ) (yC (xA (PW.pt (Y5 (yM zR (yL yX (pv 1) yG) (yL yK (pv 2) yG)) (uR (yM uE (yL yX (pv 1) yG) (yL yK (pv 2) yG))))) (yF (yP yQ)) yS) (yC (uQ (yV aX8 (yL yK (pv 2) yG) (xB (yA (yL yX (pv 1) yG) yD))) (X0 (pv 2) yG wR)) (yF (yP (yR yN rfl T.b_len xG (yA (yL yK (pv 2) yG) yD)))))) yS) (yC (yU (i:=3) (xU I hr rfl (yA (pv 0) (yA (yL yX (pv 1) yG) yD)))) (yC (wT cXo rfl (xN (pv 3)) (xI (i:=4)) (yC (yU (i:=5) (yL yK (pv 0) (pv 4))) (yF (uQ (yL yX (pv 1) yG) (X0 (pv 5) yG wR))))) (yF (yP (yR yN rfl T.b_len xG (yA (pv 3) yD))))))))))))),?_⟩;have b4:aXQ W Y Y H H:=(But.of y.dom (xJ.refl _)).step;have txt:∀ {x:Str},(∀S,xZ R S e (.txt x) R S)->Q (.str x) H:=λ{x} dn=>q H (.txt x) _ R b4 y dn rfl (λ_ z=>nomatch z);refine⟨_,rfl,_,rfl,l,_,1,_,rfl,rfl,SqT.of n,yT (j:=1) D.at1,W,Y,R,m,rfl,y,_,rfl,?_⟩;cases h1:Bk.vK R m with
 |false=>exact onT rfl (txt λS=>D.no h1 S)
 |true=>
 obtain⟨i,r,rfl,a8,u,C⟩:=Bk.vL h1;obtain⟨b,g1,g2,cp,N,g4⟩:=y.get u;refine onF rfl ⟨_,rfl,_,rfl,l,_,1,_,rfl,rfl,SqT.of n,yT (j:=1) D.at1,W,_,_,_,rfl,rfl,SqL.of y.lst,yT g1,?_⟩;dsimp only[yW];have a3:∀j,r.link=some j->j<R.length:=λj hj=>by obtain⟨p,hp,_⟩:=a7.ans i j r u hj;exact(cQK.mp hp).1
 have up:∀ {x:Str} (g:Row->Row),(∀r,(g r).copies=r.copies)->(∀S,xZ R S e (.txt x) (Bk.xW R i g) S)->Q (.str x) (upd H b (.lst (jW (g r) cp))):=λ{x} g hg dn=>
  q _ (.txt x) _ _ (But.upd (l':=jW (g r) cp) y.dom g2 N rfl).step (y.upd g2 u g (by rw[hg];exact g4)) dn rfl (λ_ z=>nomatch z)
 rcases D with rfl|⟨d,rfl⟩|⟨t,rfl⟩|⟨o,rfl⟩|⟨Z,rfl⟩|rfl
 ·refine⟨_,rfl,l,_,0,_,rfl,rfl,SqT.of n,rfl,rfl,_,rfl,onF (by decide) ⟨_,rfl,l,_,0,_,rfl,rfl,SqT.of n,rfl,rfl,_,rfl,onF (by decide) ⟨_,rfl,l,_,0,_,rfl,rfl,SqT.of n,rfl,rfl,_,rfl,onT (by decide) ⟨_,rfl,b,_,4,_,rfl,rfl,SqL.of N,rfl,rfl,_,rfl,?_⟩⟩⟩⟩;cases b0:r.link with
  |none=>exact onT rfl (txt λS=> .looseN u C b0)
  |some j=>refine onF rfl ⟨_,rfl,b,_,4,4,rfl,rfl,N,rfl,?_⟩;exact up (λr=>{r with link:=none}) (λ_=>rfl) λS=> .loose u C (by rw[b0];simp)
 ·refine⟨_,rfl,l,_,0,_,rfl,rfl,SqT.of n,rfl,rfl,_,rfl,onT (by decide) ⟨_,rfl,_,rfl,l,_,1,_,rfl,rfl,SqT.of n,rfl,_,rfl,l,_,2,_,rfl,rfl,SqT.of n,rfl,W,Y,R,i,r,d,rfl,y,by omega,u,a3,λH' a R' M a1 O=>?_⟩⟩;refine q H' (.txt a) _ R' M.step a1 (λS=>?_) rfl (λ_ z=>nomatch z);rcases O with⟨he,rfl,rfl⟩|⟨he,rfl,rfl⟩
  ·exact .dateE u C he
  ·refine .date u C (λj hj=>?_) (λc O=>?_)
   ·exact Int.not_lt.mp λz=>he (.inl ⟨j,hj,z⟩)
   ·exact Int.not_lt.mp λz=>he (.inr ⟨c,O,z⟩)
 ·refine⟨_,rfl,l,_,0,_,rfl,rfl,SqT.of n,rfl,rfl,_,rfl,onF (by decide) ⟨_,rfl,l,_,0,_,rfl,rfl,SqT.of n,rfl,rfl,_,rfl,onF (by decide) ⟨_,rfl,l,_,0,_,rfl,rfl,SqT.of n,rfl,rfl,_,rfl,onF (by decide) ⟨_,rfl,l,_,0,_,rfl,rfl,SqT.of n,rfl,rfl,_,rfl,onT (by decide) ⟨_,rfl,l,_,2,_,rfl,rfl,SqT.of n,rfl,_,_,rfl,rfl,_,rfl,?_⟩⟩⟩⟩⟩;refine X2 (λc=>?_) (λc=>?_)
  ·exact txt λS=> .termN u C (of_decide_eq_true c)
  ·refine⟨_,rfl,l,_,2,_,rfl,rfl,SqT.of n,rfl,_,rfl,b,_,3,3,rfl,rfl,N,rfl,?_⟩;exact up (λr=>{r with term:=t}) (λ_=>rfl) λS=> .term u C (by have:=of_decide_eq_false (Bool.eq_false_iff.mpr c);omega)
 ·refine⟨_,rfl,l,_,0,_,rfl,rfl,SqT.of n,rfl,rfl,_,rfl,onF (by decide) ⟨_,rfl,l,_,0,_,rfl,rfl,SqT.of n,rfl,rfl,_,rfl,onF (by decide) ⟨_,rfl,l,_,0,_,rfl,rfl,SqT.of n,rfl,rfl,_,rfl,onF (by decide) ⟨_,rfl,l,_,0,_,rfl,rfl,SqT.of n,rfl,rfl,_,rfl,onF (by decide) ⟨_,rfl,l,_,0,_,rfl,rfl,SqT.of n,rfl,rfl,_,rfl,onT (by decide) ⟨_,rfl,l,_,2,_,rfl,rfl,SqT.of n,rfl,_,rfl,b,_,2,_,rfl,rfl,SqL.of N,rfl,rfl,_,rfl,?_⟩⟩⟩⟩⟩⟩;rw[vY];cases b1:decide (o=r.partner)with
  |true=>exact onT rfl (onT rfl (txt λS=> .copyC u C (.inl (of_decide_eq_true b1))))
  |false=>
  refine onF rfl ⟨_,rfl,l,_,2,_,rfl,rfl,SqT.of n,rfl,_,rfl,b,_,7,_,rfl,rfl,SqL.of N,rfl,cp,_,rfl,.inl (SqL.of g4),rfl,cJP.mpr (λv C=>by obtain⟨x,_,rfl⟩:=cXr.mp C;rfl),?_⟩;rw[if_neg (by decide),vU];refine⟨_,rfl,?_⟩;cases a6:r.copies.contains o with
  |true=>exact onT rfl (txt λS=> .copyC u C (.inr (by simpa using a6)))
  |false=>
  have c0:r.copies.length<=1000:=a2 r (cQP u);refine onF rfl ⟨_,rfl,b,_,7,_,rfl,rfl,SqL.of N,rfl,_,rfl,l,_,2,_,rfl,rfl,SqT.of n,rfl,z1,λl1 b6=>?_⟩;have k1:=yE b6 (.lst [.str o]);refine⟨cp,l1,_,_,rfl,rfl,k1 _ _ g4,yB,by rw[cQB,cQZ];simp;omega,λc2 B=>?_⟩;have a0:=aVb (y.same k1) g2 u (k1 _ _ N) (r.copies++ [o]) B;have e5:r.copies.map V.str++ [V.str o]=(r.copies++ [o]).map V.str:=by simp
  rw[e5];have k2:=yE B (.lst ((r.copies++ [o]).map V.str));have b3:c2≠b:=λz=>by rw[z,k1 _ _ N]at B;cases B
  refine⟨_,rfl,b,_,7,7,rfl,rfl,k2 _ _ (k1 _ _ N),rfl,?_⟩;refine⟨_,rfl,b,_,7,_,rfl,rfl,SqL.of yB,rfl,c2,(r.copies++ [o]).map V.str,rfl,.inl (SqL.of (by rw[yJ b3];exact yB)),?_⟩;have en:(((((r.copies++ [o]).map V.str).length:Nat)):Int)=(r.copies.length+1:Nat):=by simp
  rw[en];have hE:Bk.xW R i (λq=>{q with copies:=r.copies++ [o] })=Bk.xW R i (λq=>{q with copies:=q.copies++ [o] }):=by unfold Bk.xW;rw[u]
  rw[hE]at a0;exact q _ (.num _) _ _ (a0.2.pre y.dom k1) a0.1 (λS=> .copy u C (of_decide_eq_false b1) (by simpa using a6)) rfl (λ_ z=>nomatch z)
 ·obtain⟨rk,ok⟩:=a7.tree;refine⟨_,rfl,l,_,0,_,rfl,rfl,SqT.of n,rfl,rfl,_,rfl,onF (by decide) ⟨_,rfl,l,_,0,_,rfl,rfl,SqT.of n,rfl,rfl,_,rfl,onF (by decide) ⟨_,rfl,l,_,0,_,rfl,rfl,SqT.of n,rfl,rfl,_,rfl,onF (by decide) ⟨_,rfl,l,_,0,_,rfl,rfl,SqT.of n,rfl,rfl,_,rfl,onF (by decide) ⟨_,rfl,l,_,0,_,rfl,rfl,SqT.of n,rfl,rfl,_,rfl,onF (by decide) ⟨_,rfl,_,rfl,l,_,1,_,rfl,rfl,SqT.of n,rfl,W,Y,R.length,Bk.lk R,rk,Bk.dt R,i,rfl,y.rows,ok,hR,a8,λH2 l2 c1 k2 c4 a9 b5 a4=>?_⟩⟩⟩⟩⟩⟩;have b2:=Bk.aZj a8 ⟨rk,ok,b5,a4⟩;subst b2;dsimp only[yW];have a5:=y.same k2;have b8:H2 l=some (.tup [.str "file",.int (i:Nat),.str Z]):=k2 _ _ n;have b9:=y.tupNo n;refine⟨_,rfl,l2,rfl,⟨_,SqL.of a9⟩,?_⟩;refine zS (xs:=(Bk.thr R i).map λi=>V.int (i:Nat)) (λt σ H3=>∃o5 o6:Option V,σ= [some (.ref W),some (.ref l),some (.ref b),some (.ref l2),o5,o6]/\xF H3 W Y (Bk.laid R ((Bk.thr R i).take t) Z)/\But Y H2 H3/\H3 l2=some (.lst ((Bk.thr R i).map λi=>V.int (i:Nat)))) ?_ ?_ ?_ ?_
  ·exact⟨none,none,rfl,a5,But.of a5.dom (xJ.refl _),a9⟩
  ·rintro t σ H3 ht ⟨o5,o6,rfl,G,k3,J⟩;exact SqL.of J
  ·rintro t x σ H3 hx ⟨o5,o6,rfl,G,k3,J⟩;rw[cQR]at hx;cases O:(Bk.thr R i)[t]? with
   |none=>rw[O]at hx;cases hx
   |some k=>rw[O]at hx;cases hx;have b7:k<R.length:=((a4 k).mp (cQP O)).1;obtain⟨bk,ck,c3,e1,e2,e3,e4,e5,e6⟩:=aWl (K:=K) G O b7 J;dsimp only[yW];refine⟨_,rfl,_,rfl,W,_,_,_,rfl,rfl,SqL.of G.lst,yT e1,?_⟩;dsimp only[yW];exact⟨_,rfl,l,_,2,_,rfl,rfl,SqT.of (k3.1 _ _ b9 b8),rfl,_,rfl,bk,_,5,5,rfl,rfl,e2,rfl,_,_,rfl,e3,k3.trans e4,e5⟩
  ·rintro σ H3 ⟨o5,o6,rfl,G,k3,J⟩;rw[cQB,cXs]at G;refine⟨_,rfl,l2,_,rfl,.inl (SqL.of J),?_⟩;rw[cQB];exact q _ (.num _) _ _ (((But.of y.dom k2).trans k3).step) G (λS=> .file u C) rfl (λ_ z=>nomatch z)
 ·refine⟨_,rfl,l,_,0,_,rfl,rfl,SqT.of n,rfl,rfl,_,rfl,onF (by decide) ⟨_,rfl,l,_,0,_,rfl,rfl,SqT.of n,rfl,rfl,_,rfl,onT (by decide) ⟨_,rfl,_,rfl,l,_,1,_,rfl,rfl,SqT.of n,rfl,W,Y,R,i,r,rfl,y,by omega,u,λH' a R' M a1 O=>?_⟩⟩⟩;refine q H' (.txt a) _ R' M.step a1 (λS=>?_) rfl (λ_ z=>nomatch z);rcases O with⟨he,rfl,rfl⟩|⟨he,rfl,rfl⟩
  ·exact .voidA u C he
  ·exact .void u C he
end
end Law
namespace Law
open PySem L2 PyProof.Rows
open Bk (Row Rows xZ xV Ans)
open Desk (xP uA qB Wf vU stV)
abbrev bQ7:Stmt:=xM "_law_told_of"
def aYr(e:xV):Prop:=(∃m,e= .state m)\/(∃m,e= .thread m)\/(∃m,e= .copies m)\/(∃w,e= .letters w)\/∃a d,e= .on a d
def bXG:Sp:=λh H Q _=>∃ (c f d:Nat)(g:List Nat)(R:Rows)(S:List Int)(e:xV),h= [.ref c,.ref f,.ref d]/\H d=some (.tup (xP e))/\aYr e/\xF H c g R/\H f=some (.lst (S.map V.int))/\R.length<=60/\Bk.Z5 R/\
 ∀ (b:Hp)(a:Ans)(v:V),xJ H b->xZ R S e a R S->uA [] b a v->qB H v->Q v b
def wK:cXj "list"=some (.type "list"):=dk
def vT:cXj "tuple"=some (.type "tuple"):=dk
section
variable {K:cQz}
def bWZ:yO ["_law_rows","_law_shut","_law_deed","_law_here"] ["_law_rows","_law_shut","_law_deed"] (yH bQ7):=scM
def bZr:xO ["_law_rows","_law_shut","_law_deed","_law_here"] (yH bQ7) "_law_k" ["_law_rows"] [0] (lsN [(".0",.local),("_law_k",.local),("_law_rows",.free)]):=
 lcM
def bZs:xO ["_law_rows","_law_shut","_law_deed","_law_here"] (yH bQ7) "_law_k" ["_law_deed","_law_rows"] [2,0] (lsN [(".0",.local),("_law_k",.local),("_law_deed",.free),("_law_rows",.free)]):=
 lcM
def aQv(R:Rows)(w:Str):V->Bool
 |.int n=>match R[n.toNat]? with|some r=>decide (r.place=w)|none=>false
 |_=>false
def bWn(T:uJ mg)(a1:mg "list"=none)(a3:mg "tuple"=none)(N:FnG P w K mg base 2 "_law_good" ["_law_rows","_law_number"] aQH)(u:FnG P w K mg base 3 "_law_list_on" ["_law_rows","_law_shut","_law_date","_law_late"] aWR) (G:FnG P w K mg base 2 "_law_family" ["_law_rows","_law_number"] qZ) (F:Fun K "_law_told_of" "_law_told_of" bQ7 f fd):xL P w K mg base CX0 4 f fd ["_law_rows","_law_shut","_law_deed"] bXG:=by
 have sc:=bWZ;refine F.ok (k:=3) sc (λc0 A outer s H vs Q E hr h=>?_);obtain⟨C,sa,g,X,R,S,e,rfl,y,a6,L,a7,hR,b5,q⟩:=h;have a5:uS 2 _:=hr.mono (by omega);refine⟨_,(yC (xA (yM zR (yL yX (pv 2) yG) yQ) (yC (aXZ (i:=3) bZr rfl sc.nd rfl rfl (zY rfl T.b_range (yA (yR yN rfl T.b_len xG (yA (pv 0) yD)) yD)) (λ_ _ _ _ _=>(vA (vH (zA (yL ixK (yL ixK (pv 1) (pv 0)) yG))))) (λ_ _ _ _ _=>(pv 0))) (yF (yP (aQj bZs rfl (xN (pv 3)) (λ_ _ _ _ _=>(vA (yM zR (yL ixK (yL ixK (pv 2) (pv 0)) yG) (yL ixT (pv 1) yG)))) (λ_ _ _ _ _=>(pv 0)))))) yS) (yC (xA (yM uE (yL yX (pv 2) yG) (xB (yA yQ (yA yQ yD)))) (yF (yP (xU u hr rfl (yA (pv 0) (yA (pv 1) (yA (yL yX (pv 2) yG) (yA (wL zR (yL yX (pv 2) yG) yQ) yD))))))) yS) (yC (xA (vH (zA (xU N a5 rfl (yA (pv 0) (yA (yL yX (pv 2) yG) yD))))) (yF (yP yQ)) yS) (yC (xA (yM zR (yL yX (pv 2) yG) yQ) (yF (yP (xU G a5 rfl (yA (pv 0) (yA (yL yX (pv 2) yG) yD))))) yS) (yC (xA (yM zR (yL yX (pv 2) yG) yQ) (yF (yP (zG uP rfl a1 wK (yA (yL yK (yL yK (pv 0) (yL yX (pv 2) yG)) yG) yD)))) yS) (yF (yP (zG Z9 rfl a3 vT (yA (qW aXI (yL yK (pv 0) (yL yX (pv 2) yG)) aXo (X7 yG)) yD))))))))),?_⟩;have txt:∀ {B:Hp} {x:Str},xJ H B->xZ R S e (.txt x) R S->Q (.str x) B:=λ{B x} k dn=>q B (.txt x) _ k dn rfl (λ_ z=>nomatch z);have one:∀ {m:Int} {x:Str},xP e= [.str x,.int m]->True:=λ_=>trivial;rcases a6 with⟨m,rfl⟩|⟨m,rfl⟩|⟨m,rfl⟩|⟨j,rfl⟩|⟨o,d,rfl⟩
 ·refine⟨_,rfl,g,_,0,_,rfl,rfl,SqT.of y,rfl,rfl,_,rfl,onF (by decide) ?_⟩;refine⟨_,rfl,g,_,0,_,rfl,rfl,SqT.of y,rfl,z2,λJ t=>⟨J,_,rfl,.inl (SqL.of yB),rfl,rfl,_,rfl,onF (by decide) ?_⟩⟩;have n:=yE t (.lst [.str "waiting",.str "overdue"]);generalize upd H J (.lst [.str "waiting",.str "overdue"])=H1 at n ⊢;have a:H1 g=some (.tup [.str "state",.int m]):=n _ _ y;have c:=L.same n;refine⟨_,rfl,_,rfl,g,_,1,_,rfl,rfl,SqT.of a,rfl,C,X,R,m,rfl,c,_,rfl,?_⟩;cases Y:Bk.vK R m with
  |false=>exact onT rfl (txt n (.oneN Y (by simp)))
  |true=>
  obtain⟨i,r,rfl,U,hi,W⟩:=Bk.vL Y;obtain⟨b,g1,g2,cp,M,g4⟩:=c.get hi;refine onF rfl ⟨_,rfl,g,_,0,_,rfl,rfl,SqT.of a,rfl,rfl,_,rfl,onF (by decide) ⟨_,rfl,g,_,0,_,rfl,rfl,SqT.of a,rfl,rfl,_,rfl,onF (by decide) ?_⟩⟩;refine⟨_,rfl,_,rfl,g,_,1,_,rfl,rfl,SqT.of a,rfl,C,_,_,_,rfl,rfl,SqL.of c.lst,yT g1,_,rfl,b,_,rfl,SqL.of M,λp2 O=>⟨p2,_,rfl,.inl ⟨SqL.of yB,λp3 a4=>?_⟩⟩⟩;have b3:qA (jW r cp) none (some 6)=stV r:=by unfold stV Desk.aQr Desk.W4;rw[W];cases b8:r.link<;> (unfold jW;rw[b8];rfl)
  have k2:=yE O (.lst (qA (jW r cp) none (some 6)));have k3:=yE a4 (.tup (qA (jW r cp) none (some 6)));exact q _ (.row r) _ ((n.trans k2).trans k3) (.state hi W) ⟨p3,rfl,by simp,by rw[<- b3];exact yB⟩ (.none ((n.trans k2).fresh a4))
 ·refine⟨_,rfl,g,_,0,_,rfl,rfl,SqT.of y,rfl,rfl,_,rfl,onF (by decide) ?_⟩;refine⟨_,rfl,g,_,0,_,rfl,rfl,SqT.of y,rfl,z2,λJ t=>⟨J,_,rfl,.inl (SqL.of yB),rfl,rfl,_,rfl,onF (by decide) ?_⟩⟩;have n:=yE t (.lst [.str "waiting",.str "overdue"]);generalize upd H J (.lst [.str "waiting",.str "overdue"])=H1 at n ⊢;have a:H1 g=some (.tup [.str "thread",.int m]):=n _ _ y;have c:=L.same n;refine⟨_,rfl,_,rfl,g,_,1,_,rfl,rfl,SqT.of a,rfl,C,X,R,m,rfl,c,_,rfl,?_⟩;cases Y:Bk.vK R m with
  |false=>exact onT rfl (txt n (.oneN Y (by simp)))
  |true=>
  obtain⟨i,r,rfl,U,hi,W⟩:=Bk.vL Y;obtain⟨rk,ok⟩:=b5.tree;refine onF rfl ⟨_,rfl,g,_,0,_,rfl,rfl,SqT.of a,rfl,rfl,_,rfl,onT (by decide) ?_⟩;refine⟨_,rfl,_,rfl,g,_,1,_,rfl,rfl,SqT.of a,rfl,C,X,R.length,Bk.lk R,rk,Bk.dt R,i,rfl,c.rows,ok,hR,U,λH2 l2 b9 k2 b0 b6 b1 b2=>?_⟩;have a8:=Bk.aZj U ⟨rk,ok,b1,b2⟩;subst a8;exact q _ (.nums (Bk.thr R i)) _ (n.trans k2) (.thread hi W) ⟨l2,rfl,by simp,b6⟩ (.none (n.fresh b0))
 ·refine⟨_,rfl,g,_,0,_,rfl,rfl,SqT.of y,rfl,rfl,_,rfl,onF (by decide) ?_⟩;refine⟨_,rfl,g,_,0,_,rfl,rfl,SqT.of y,rfl,z2,λJ t=>⟨J,_,rfl,.inl (SqL.of yB),rfl,rfl,_,rfl,onF (by decide) ?_⟩⟩;have n:=yE t (.lst [.str "waiting",.str "overdue"]);generalize upd H J (.lst [.str "waiting",.str "overdue"])=H1 at n ⊢;have a:H1 g=some (.tup [.str "copies",.int m]):=n _ _ y;have c:=L.same n;refine⟨_,rfl,_,rfl,g,_,1,_,rfl,rfl,SqT.of a,rfl,C,X,R,m,rfl,c,_,rfl,?_⟩;cases Y:Bk.vK R m with
  |false=>exact onT rfl (txt n (.oneN Y (by simp)))
  |true=>
  obtain⟨i,r,rfl,U,hi,W⟩:=Bk.vL Y;obtain⟨b,g1,g2,cp,M,g4⟩:=c.get hi;refine onF rfl ⟨_,rfl,g,_,0,_,rfl,rfl,SqT.of a,rfl,rfl,_,rfl,onF (by decide) ⟨_,rfl,g,_,0,_,rfl,rfl,SqT.of a,rfl,rfl,_,rfl,onT (by decide) ?_⟩⟩;refine⟨_,rfl,_,rfl,g,_,1,_,rfl,rfl,SqT.of a,rfl,C,_,_,_,rfl,rfl,SqL.of c.lst,yT g1,b,_,7,_,rfl,rfl,SqL.of M,rfl,cp,_,rfl,.inl (SqL.of g4),λp2 O=>?_⟩;have k2:=yE O (.lst (r.copies.map V.str));exact q _ (.txts r.copies) _ (n.trans k2) (.copies hi W) ⟨p2,rfl,by simp,yB⟩ (.none (n.fresh O))
 ·have b7:H g=some (.tup [.str "letters",.str j]):=y;refine⟨_,rfl,g,_,0,_,rfl,rfl,SqT.of y,rfl,rfl,_,rfl,onT (by decide) ?_⟩;have hl:(X.map V.ref).length=R.length:=by rw[cQB];exact L.len
  refine⟨_,rfl,C,_,rfl,.inl (SqL.of L.lst),?_⟩;rw[hl];refine⟨_,rfl,by omega,by omega,λD hD=>?_⟩;rw[cQ6];refine W6 (λk=>match R[k]? with|some r=> !r.void|none=>false) (λk=>V.int (k:Nat)) hD (by rw[cQZ];omega) (λk I B R' Z p=>?_) (λk I _ B R' Z p=>⟨_,rfl,p⟩) ?_
  ·obtain⟨b,g1,g2,cp,M,g4⟩:=L.get (cQw I);have a0:B C=some (.lst (X.map V.ref)):=by rw[Z C (yI L.lst hD)];exact L.lst
   have hb:B b=_:=(Z b (yI M hD)).trans M;rw[cQw I]at p;exact⟨_,rfl,_,rfl,C,_,_,_,rfl,rfl,SqL.of a0,yT g1,b,_,6,_,rfl,rfl,SqL.of hb,rfl,_,rfl,p⟩
  have k1:=yE hD (.lst (((cQJ R.length).filter λk=>match R[k]? with|some r=> !r.void|none=>false).map λk=>V.int (k:Nat)));have a2:upd H D (.lst (((cQJ R.length).filter λk=>match R[k]? with|some r=> !r.void|none=>false).map λk=>V.int (k:Nat))) D=some (.lst (((cQJ R.length).filter λk=>match R[k]? with|some r=> !r.void|none=>false).map λk=>V.int (k:Nat))):=yB;generalize upd H D (.lst (((cQJ R.length).filter λk=>match R[k]? with|some r=> !r.void|none=>false).map λk=>V.int (k:Nat)))=H1 at k1 a2 ⊢;have c:=L.same k1;have a:=k1 _ _ b7;dsimp only[yW];refine⟨_,rfl,D,rfl,⟨_,SqL.of a2⟩,λE hE=>?_⟩;refine aXd (aQv R j) id (SqL.of a2) hE ?_ (λv W B R' Z p=>?_) (λv W _ B R' Z p=>⟨_,rfl,p⟩) ?_
  ·rw[cQB,cQZ];have:=cXu (λk=>match R[k]? with|some r=> !r.void|none=>false) (cQJ R.length);rw[cXp]at this;omega
  ·obtain⟨k,I,rfl⟩:=cXr.mp W;have I:k<R.length:=cQ5.mp (cXA.mp I).1;obtain⟨b,g1,g2,cp,M,g4⟩:=c.get (cQw I);have a0:B C=some (.lst (X.map V.ref)):=by rw[Z C (yI c.lst hE)];exact c.lst
   have hb:B b=_:=(Z b (yI M hE)).trans M;have a9:B g=_:=(Z g (yI a hE)).trans a;have e1:aQv R j (V.int (k:Nat))=decide (R[k].place=j):=by show(match R[((k:Nat):Int).toNat]? with|some r=>decide (r.place=j)|none=>false)=_;rw[cQ6,cQw I]
   rw[e1]at p;refine⟨_,rfl,_,rfl,C,_,_,_,rfl,rfl,SqL.of a0,yT g1,b,_,5,_,rfl,rfl,SqL.of hb,rfl,_,rfl,g,_,1,_,rfl,rfl,SqT.of a9,rfl,rfl,_,rfl,?_⟩;rw[vY];exact p
  ·have ef:(((((cQJ R.length).filter λk=>match R[k]? with|some r=> !r.void|none=>false).map λk=>V.int (k:Nat)).filter (aQv R j)).map id)=((cQJ R.length).filter λk=>match R[k]? with|some r=> !r.void && decide (r.place=j)|none=>false).map λk=>V.int (k:Nat):=by
    rw[cVi,List.filter_map,List.filter_filter];congr 1;refine cVb λk I=>?_;have I:k<R.length:=cQ5.mp I;show(aQv R j (V.int (k:Nat)) && _)=_;show((match R[((k:Nat):Int).toNat]? with|some r=>decide (r.place=j)|none=>false) && _)=_;rw[cQ6,cQw I];exact Bool.and_comm _ _
   rw[ef];exact q _ (.nums _) _ (k1.trans (yE hE _)) .letters ⟨E,rfl,by simp,yB⟩ (.none (k1.fresh hE))
 ·refine⟨_,rfl,g,_,0,_,rfl,rfl,SqT.of y,rfl,rfl,_,rfl,onF (by cases o<;> decide) ?_⟩;refine⟨_,rfl,g,_,0,_,rfl,rfl,SqT.of y,rfl,z2,λJ t=>⟨J,_,rfl,.inl (SqL.of yB),rfl,rfl,_,rfl,onT (by cases o<;> decide) ?_⟩⟩;have n:=yE t (.lst [.str "waiting",.str "overdue"]);generalize upd H J (.lst [.str "waiting",.str "overdue"])=H1 at n ⊢;have a:H1 g=some (.tup [.str (if o then "overdue" else "waiting"),.int d]):=n _ _ y;have c:=L.same n;have e1:decide (V.str (if o then "overdue" else "waiting")=V.str "overdue")=o:=by cases o<;> decide
  refine⟨_,rfl,_,rfl,_,rfl,g,_,1,_,rfl,rfl,SqT.of a,rfl,_,rfl,g,_,0,_,rfl,rfl,SqT.of a,rfl,rfl,?_⟩;rw[e1];refine⟨C,sa,X,R,S,d,o,rfl,c,n _ _ a7,by omega,λr B l k nl hl b4=>?_⟩;exact q _ (.nums l) _ (n.trans k) (.on b4) ⟨r,rfl,by simp,hl⟩ (.none (n.fresh nl))
end
end Law
namespace Law
open PySem L2 PyProof.Rows
open Bk (Row Rows xZ xV Ans)
open Desk (xP uA qB Wf vU stV)
abbrev bWA:Stmt:=xM "_law_done_by"
structure LBk(H:Hp)(ra sa:Nat)(rs:List Nat)(R:Rows)(S:List Int):Prop where
 book:xF H ra rs R
 shut:H sa=some (.lst (S.map V.int))
 ne:sa≠ra
 no:sa∉rs
 noC:NoC rs H sa
def aZ3(e sa:Nat)(c a:List Nat)(H d:Hp):Prop:=(∀x o,x≠sa->x≠e->x∉c->H x=some o->d x=some o)/\(∀b∈a,b∈c\/H b=none)/\∀s u,H s=some u->NoC c H s->NoC a d s
def LBk.same{H c:Hp}{a sa:Nat}{b:List Nat}{R:Rows}{S:List Int}(h:LBk H a sa b R S)(k:xJ H c):LBk c a sa b R S:=
 ⟨h.book.same k,k _ _ h.shut,h.ne,h.no,(But.of h.book.dom k).2.2 sa _ h.shut h.noC⟩
def LBk.step{H c:Hp}{b sa:Nat}{d a:List Nat}{R f:Rows}{S:List Int}(h:LBk H b sa d R S)(k:aXQ b d a H c)(i:xF c b a f):LBk c b sa a f S/\aZ3 b sa d a H c:=
 ⟨⟨i,k.1 sa _ (λz=>(cQG.mp z).elim h.ne h.no) h.shut,h.ne,λz=>(k.2.1 sa z).elim h.no (λy=>by have:=h.shut;rw[y]at this;cases this),k.2.2 sa _ h.shut h.noC⟩,λx o _ j g e=>k.1 x o (λz=>(cQG.mp z).elim j g) e,k.2.1,k.2.2⟩
def LBk.put{H:Hp}{g sa:Nat}{f:List Nat}{R:Rows}{S:List Int}(h:LBk H g sa f R S)(d:Int):LBk (upd H sa (.lst ((S++ [d]).map V.int))) g sa f R (S++ [d])/\aZ3 g sa f f H (upd H sa (.lst ((S++ [d]).map V.int))):=by
 refine⟨⟨⟨by rw[yJ (cXg h.ne)];exact h.book.lst,h.book.len,h.book.nd,λi b r a t=>?_⟩,yB,h.ne,h.no,λb a l c=>?_⟩,λx o n _ _ e=>by rw[yJ n];exact e,λb a=> .inl a,λs u e n b a l c=>n b a l (by rw[yJ (λz=>h.no (by rw[<- z];exact a))]at c;exact c)⟩
 ·obtain⟨j,k,p⟩:=h.book.row i b r a t;have q:b≠sa:=λz=>h.no (by rw[<- z];exact cQP a);have m:j≠sa:=λz=>h.noC b (cQP a) _ k (by rw[<- z];rfl);exact⟨j,by rw[yJ q];exact k,by rw[yJ m];exact p⟩
 ·rw[yJ (λz=>h.no (by rw[<- z];exact a))]at c;exact h.noC b a l c
def aZg:Sp:=λk H Q _=>∃ (c d h:Nat)(g:List Nat)(R:Rows)(S:List Int)(e:xV),k= [.ref c,.ref d,.ref h]/\H h=some (.tup (xP e))/\Wf e/\LBk H c d g R S/\R.length<=60/\S.length<=60/\Bk.Z5 R/\(∀r∈R,r.copies.length<=1000)/\
 ∀ (f:Hp)(a:Ans)(v:V)(i:Rows)(j:List Int)(b:List Nat),aZ3 c d g b H f->LBk f c d b i j->xZ R S e a i j->uA [] f a v->qB H v->Q v f
def qB.pre{H a:Hp}(k:xJ H a){v:V}(h:qB a v):qB H v:=λp e u b z=>h p e u b (k _ _ z)
def aZ3.pre{g sa:Nat}{c a:List Nat}{H f d:Hp}(j:∀b∈c,∃o,H b=some o)(k:xJ H f)(s:aZ3 g sa c a f d):aZ3 g sa c a H d:=
 ⟨λx o m i l e=>s.1 x o m i l (k _ _ e),λb h=>(s.2.1 b h).imp id λz=>k.fresh z,λx u e n=>s.2.2 x u (k _ _ e) ((But.of j k).2.2 x u e n)⟩
section
variable {K:cQz}
def bWO:yO ["_law_rows","_law_shut","_law_deed"] ["_law_rows","_law_shut","_law_deed"] (yH bWA):=scM
def bWb(u:FnG P w K mg base 4 "_law_entered" ["_law_rows","_law_deed"] aXJ)(L:FnG P w K mg base 4 "_law_hung" ["_law_rows","_law_number","_law_goal"] bVk) (y:FnG P w K mg base 4 "_law_told_of" ["_law_rows","_law_shut","_law_deed"] bXG) (r:FnG P w K mg base 4 "_law_with_one" ["_law_rows","_law_deed"] bXJ) (F:Fun K "_law_done_by" "_law_done_by" bWA f fd):xL P w K mg base CX0 5 f fd ["_law_rows","_law_shut","_law_deed"] aZg:=by
 have sc:=bWO;refine F.ok (k:=4) sc (λa5 A outer s H vs Q E hr h=>?_);obtain⟨U,sa,g,I,R,S,e,rfl,hd,a2,J,hR,hS,O,Y,q⟩:=h;refine⟨_,(yC (xA (yM uE (yL yX (pv 2) yG) (xB (yA yQ (yA yQ (yA yQ yD))))) (yF (yP (xU u hr rfl (yA (pv 0) (yA (pv 2) yD))))) yS) (yC (xA (yM zR (yL yX (pv 2) yG) yQ) (yF (yP (xU L hr rfl (yA (pv 0) (yA (yL yX (pv 2) yG) (yA (yL yX (pv 2) yG) yD)))))) yS) (yC (xA (yM zR (yL yX (pv 2) yG) yQ) (yC (xA (PW.pt (Y5 (yM aXY (yV xD (yL yX (pv 2) yG) yG) yG) (uR (yM uE (yL yX (pv 2) yG) (pv 1))))) (yF (yP yQ)) yS) (yC (yZ (jC cQ3 cXc cXd xR (pv 1) (yA (yL yX (pv 2) yG) yD))) (yF (yP yQ)))) yS) (yC (xA (yM uE (yL yX (pv 2) yG) (xB (yA yQ (yA yQ (yA yQ (yA yQ (yA yQ (yA yQ yD)))))))) (yF (yP (xU y hr rfl (yA (pv 0) (yA (pv 1) (yA (pv 2) yD)))))) yS) (yF (yP (xU r hr rfl (yA (pv 0) (yA (pv 2) yD))))))))),?_⟩;have h0:(xP e)[0]? =some (.str (Desk.aYY e)):=by cases e<;> rfl
 refine⟨_,rfl,g,_,0,_,rfl,rfl,SqT.of hd,yT (j:=0) h0,z3,λl0 a4=>⟨l0,_,rfl,.inl (SqL.of yB),rfl,rfl,_,rfl,?_⟩⟩;have n:=yE a4 (.lst [.str "in",.str "out",.str "reply"]);generalize upd H l0 (.lst [.str "in",.str "out",.str "reply"])=H1 at n ⊢;have c:=n _ _ hd;have p:=J.same n;have a0:((∃M d W t,e= .enter M d W t)\/∃m d t,e= .reply m d t)->aXJ [.ref U,.ref g] H1 Q E0:=λhf=>by refine⟨U,g,I,R,e,rfl,c,a2,hf,p.book,hR,λN a v R' a3 st G T av nv=>?_⟩;have:=p.step st G;exact q N a v R' S a3 (this.2.pre J.book.dom n) this.1 (T S) av (qB.pre n nv)
 have one:∀ {X:Hp} {m:Int},xJ H X->Q4 e m->bXJ [.ref U,.ref g] X Q E0:=λ{X m} k hf=>by have C:=J.same k;refine⟨U,g,I,R,e,m,rfl,k _ _ hd,hf,C.book,hR,O,Y,λN a v R' st G T av nv=>?_⟩;have:=C.step st G;exact q N a v R' S I (this.2.pre J.book.dom k) this.1 (T S) av (qB.pre k nv)
 have D:∀ {X:Hp},xJ H X->aYr e->bXG [.ref U,.ref sa,.ref g] X Q E0:=λ{X} k hf=>by have C:=J.same k;refine⟨U,sa,g,I,R,S,e,rfl,k _ _ hd,hf,C.book,C.shut,hR,O,λN a v k2 T av nv=>?_⟩;exact q N a v R S I ⟨λx o _ _ _ e=>k2 _ _ (k _ _ e),λb hb=> .inl hb,(But.of J.book.dom (k.trans k2)).2.2⟩ (C.same k2) T av (qB.pre k nv)
 cases e with
 |enter M d W t=>have Z:M="in"\/M="out":=a2;refine onT (by rcases Z with rfl|rfl<;> rfl) ⟨_,rfl,_,rfl,a0 (.inl ⟨_,_,_,_,rfl⟩)⟩
 |reply m d t=>exact onT rfl ⟨_,rfl,_,rfl,a0 (.inr ⟨_,_,_,rfl⟩)⟩
 |hang m o=>refine onF rfl ⟨_,rfl,g,_,0,_,rfl,rfl,SqT.of c,rfl,rfl,_,rfl,onT rfl ⟨_,rfl,_,rfl,g,_,1,_,rfl,rfl,SqT.of c,rfl,_,rfl,g,_,2,_,rfl,rfl,SqT.of c,rfl,?_⟩⟩;refine⟨U,I,R,m,o,rfl,p.book,hR,O.tree,λN a R' st G T=>?_⟩;have:=p.step st.step G;exact q N (.txt a) _ R' S I (this.2.pre J.book.dom n) this.1 (T S) rfl (λ_ z=>nomatch z)
 |shut d=>
  refine onF rfl ⟨_,rfl,g,_,0,_,rfl,rfl,SqT.of c,rfl,rfl,_,rfl,onF rfl ⟨_,rfl,g,_,0,_,rfl,rfl,SqT.of c,rfl,rfl,_,rfl,onT rfl ?_⟩⟩;refine⟨_,rfl,g,_,1,_,rfl,rfl,SqT.of c,rfl,_,_,rfl,rfl,(show(0:Int)<7 by decide),_,_,rfl,rfl,_,rfl,?_⟩;have no:Dm.cts S d=false->Q (.str "counts not") H1:=λh=>q H1 (.txt "counts not") _ R S I ⟨λx o _ _ _ e=>n _ _ e,λb hb=> .inl hb,(But.of J.book.dom n).2.2⟩ p (.shutN h) rfl (λ_ z=>nomatch z);cases h1:decide (d % 7 > 4)with
  |true=>exact onT rfl (onT rfl (no (by unfold Dm.cts Dm.opn;rw[decide_eq_false (by have:=of_decide_eq_true h1;omega)];rfl)))
  |false=>
  refine onF rfl ⟨_,rfl,g,_,1,_,rfl,rfl,SqT.of c,rfl,_,rfl,sa,_,rfl,.inl (SqL.of p.shut),rfl,cJP.mpr (λv hv=>by obtain⟨x,_,rfl⟩:=cXr.mp hv;rfl),?_⟩;rw[if_neg (by decide),qR];refine⟨_,rfl,?_⟩;cases h2:S.contains d with
  |true=>exact onT rfl (no (by unfold Dm.cts;rw[h2];simp))
  |false=>
  refine onF rfl ⟨_,rfl,.inl ⟨rfl,_,SqL.of p.shut⟩,_,rfl,g,_,1,_,rfl,rfl,SqT.of c,rfl,sa,_,_,rfl,rfl,p.shut,zlt (by rw[cQB];omega),?_⟩;have e5:S.map V.int++ [V.int d]=(S++ [d]).map V.int:=by simp
  rw[e5];have:=p.put d;exact q _ (.txt "shut") _ R (S++ [d]) I (this.2.pre J.book.dom n) this.1 (.shut (by unfold Dm.cts Dm.opn;rw[h2,decide_eq_true (by have:=of_decide_eq_false h1;omega)];rfl)) rfl (λ_ z=>nomatch z)
 |loose m=>exact onF rfl ⟨_,rfl,g,_,0,_,rfl,rfl,SqT.of c,rfl,rfl,_,rfl,onF rfl ⟨_,rfl,g,_,0,_,rfl,rfl,SqT.of c,rfl,rfl,_,rfl,onF rfl ⟨_,rfl,g,_,0,_,rfl,rfl,SqT.of c,rfl,zn (by show 6<=100000;omega),λl i=>⟨l,_,rfl,.inl (SqL.of yB),rfl,rfl,_,rfl,onF rfl ⟨_,rfl,_,rfl,one (n.trans (yE i _)) (.inl rfl)⟩⟩⟩⟩⟩
 |date m d=>exact onF rfl ⟨_,rfl,g,_,0,_,rfl,rfl,SqT.of c,rfl,rfl,_,rfl,onF rfl ⟨_,rfl,g,_,0,_,rfl,rfl,SqT.of c,rfl,rfl,_,rfl,onF rfl ⟨_,rfl,g,_,0,_,rfl,rfl,SqT.of c,rfl,zn (by show 6<=100000;omega),λl i=>⟨l,_,rfl,.inl (SqL.of yB),rfl,rfl,_,rfl,onF rfl ⟨_,rfl,_,rfl,one (n.trans (yE i _)) (.inr (.inl ⟨_,rfl⟩))⟩⟩⟩⟩⟩
 |term m t=>exact onF rfl ⟨_,rfl,g,_,0,_,rfl,rfl,SqT.of c,rfl,rfl,_,rfl,onF rfl ⟨_,rfl,g,_,0,_,rfl,rfl,SqT.of c,rfl,rfl,_,rfl,onF rfl ⟨_,rfl,g,_,0,_,rfl,rfl,SqT.of c,rfl,zn (by show 6<=100000;omega),λl i=>⟨l,_,rfl,.inl (SqL.of yB),rfl,rfl,_,rfl,onF rfl ⟨_,rfl,_,rfl,one (n.trans (yE i _)) (.inr (.inr (.inl ⟨_,rfl⟩)))⟩⟩⟩⟩⟩
 |copy m W=>exact onF rfl ⟨_,rfl,g,_,0,_,rfl,rfl,SqT.of c,rfl,rfl,_,rfl,onF rfl ⟨_,rfl,g,_,0,_,rfl,rfl,SqT.of c,rfl,rfl,_,rfl,onF rfl ⟨_,rfl,g,_,0,_,rfl,rfl,SqT.of c,rfl,zn (by show 6<=100000;omega),λl i=>⟨l,_,rfl,.inl (SqL.of yB),rfl,rfl,_,rfl,onF rfl ⟨_,rfl,_,rfl,one (n.trans (yE i _)) (.inr (.inr (.inr (.inl ⟨_,rfl⟩))))⟩⟩⟩⟩⟩
 |file m a1=>exact onF rfl ⟨_,rfl,g,_,0,_,rfl,rfl,SqT.of c,rfl,rfl,_,rfl,onF rfl ⟨_,rfl,g,_,0,_,rfl,rfl,SqT.of c,rfl,rfl,_,rfl,onF rfl ⟨_,rfl,g,_,0,_,rfl,rfl,SqT.of c,rfl,zn (by show 6<=100000;omega),λl i=>⟨l,_,rfl,.inl (SqL.of yB),rfl,rfl,_,rfl,onF rfl ⟨_,rfl,_,rfl,one (n.trans (yE i _)) (.inr (.inr (.inr (.inr (.inl ⟨_,rfl⟩)))))⟩⟩⟩⟩⟩
 |void m=>exact onF rfl ⟨_,rfl,g,_,0,_,rfl,rfl,SqT.of c,rfl,rfl,_,rfl,onF rfl ⟨_,rfl,g,_,0,_,rfl,rfl,SqT.of c,rfl,rfl,_,rfl,onF rfl ⟨_,rfl,g,_,0,_,rfl,rfl,SqT.of c,rfl,zn (by show 6<=100000;omega),λl i=>⟨l,_,rfl,.inl (SqL.of yB),rfl,rfl,_,rfl,onF rfl ⟨_,rfl,_,rfl,one (n.trans (yE i _)) (.inr (.inr (.inr (.inr (.inr rfl)))))⟩⟩⟩⟩⟩
 |state m=>exact onF rfl ⟨_,rfl,g,_,0,_,rfl,rfl,SqT.of c,rfl,rfl,_,rfl,onF rfl ⟨_,rfl,g,_,0,_,rfl,rfl,SqT.of c,rfl,rfl,_,rfl,onF rfl ⟨_,rfl,g,_,0,_,rfl,rfl,SqT.of c,rfl,zn (by show 6<=100000;omega),λl i=>⟨l,_,rfl,.inl (SqL.of yB),rfl,rfl,_,rfl,onT rfl ⟨_,rfl,_,rfl,_,rfl,D (n.trans (yE i _)) (.inl ⟨_,rfl⟩)⟩⟩⟩⟩⟩
 |thread m=>exact onF rfl ⟨_,rfl,g,_,0,_,rfl,rfl,SqT.of c,rfl,rfl,_,rfl,onF rfl ⟨_,rfl,g,_,0,_,rfl,rfl,SqT.of c,rfl,rfl,_,rfl,onF rfl ⟨_,rfl,g,_,0,_,rfl,rfl,SqT.of c,rfl,zn (by show 6<=100000;omega),λl i=>⟨l,_,rfl,.inl (SqL.of yB),rfl,rfl,_,rfl,onT rfl ⟨_,rfl,_,rfl,_,rfl,D (n.trans (yE i _)) (.inr (.inl ⟨_,rfl⟩))⟩⟩⟩⟩⟩
 |copies m=>exact onF rfl ⟨_,rfl,g,_,0,_,rfl,rfl,SqT.of c,rfl,rfl,_,rfl,onF rfl ⟨_,rfl,g,_,0,_,rfl,rfl,SqT.of c,rfl,rfl,_,rfl,onF rfl ⟨_,rfl,g,_,0,_,rfl,rfl,SqT.of c,rfl,zn (by show 6<=100000;omega),λl i=>⟨l,_,rfl,.inl (SqL.of yB),rfl,rfl,_,rfl,onT rfl ⟨_,rfl,_,rfl,_,rfl,D (n.trans (yE i _)) (.inr (.inr (.inl ⟨_,rfl⟩)))⟩⟩⟩⟩⟩
 |letters a1=>exact onF rfl ⟨_,rfl,g,_,0,_,rfl,rfl,SqT.of c,rfl,rfl,_,rfl,onF rfl ⟨_,rfl,g,_,0,_,rfl,rfl,SqT.of c,rfl,rfl,_,rfl,onF rfl ⟨_,rfl,g,_,0,_,rfl,rfl,SqT.of c,rfl,zn (by show 6<=100000;omega),λl i=>⟨l,_,rfl,.inl (SqL.of yB),rfl,rfl,_,rfl,onT rfl ⟨_,rfl,_,rfl,_,rfl,D (n.trans (yE i _)) (.inr (.inr (.inr (.inl ⟨_,rfl⟩))))⟩⟩⟩⟩⟩
 |on B d=>exact onF (by cases B<;> rfl) ⟨_,rfl,g,_,0,_,rfl,rfl,SqT.of c,rfl,rfl,_,rfl,onF (by cases B<;> rfl) ⟨_,rfl,g,_,0,_,rfl,rfl,SqT.of c,rfl,rfl,_,rfl,onF (by cases B<;> rfl) ⟨_,rfl,g,_,0,_,rfl,rfl,SqT.of c,rfl,zn (by show 6<=100000;omega),λl i=>⟨l,_,rfl,.inl (SqL.of yB),rfl,rfl,_,rfl,onT (by cases B<;> rfl) ⟨_,rfl,_,rfl,_,rfl,D (n.trans (yE i _)) (.inr (.inr (.inr (.inr ⟨_,_,rfl⟩))))⟩⟩⟩⟩⟩
end
end Law
namespace Desk
open PySem L2 PyProof.Rows
open Bk (Row Rows xV Ans xZ)
open Thr (vE jB W1)
def zM(H:Hp)(ds:Nat)(a:List Nat)(b:List xV):Prop:=H ds=some (.lst (a.map V.ref))/\a.length=b.length/\∀ (i:Nat)(d:Nat)(e:xV),a[i]? =some d->b[i]? =some e->H d=some (.tup (xP e))
def zM.same{H b:Hp}{ds:Nat}{a:List Nat}{c:List xV}(h:zM H ds a c)(k:zI H b):zM b ds a c:=⟨k.lst h.1,h.2.1,λi d e f g=>k.tup (h.2.2 i d e f g)⟩
def uA.kept{o b:List Nat}{H d:Hp}{a:Ans}{v:V}(h:uA o H a v)(k:Q3 o H d)(g:Z4 H o b):uA b d a v:=by
 have c:∀p u,p∉o->H p=some u->p∉b:=λp u n e z=>by
  rcases g p z with q|q
  ·exact n q
  ·rw[q]at e;cases e
 cases a with
 |num n=>exact h
 |txt x=>exact h
 |nums l=>obtain⟨p,e,n,q⟩:=h;exact⟨p,e,c p _ n q,k _ _ n (by intro _ z;cases z) q⟩
 |txts l=>obtain⟨p,e,n,q⟩:=h;exact⟨p,e,c p _ n q,k _ _ n (by intro _ z;cases z) q⟩
 |row r=>obtain⟨p,e,n,q⟩:=h;exact⟨p,e,c p _ n q,k _ _ n (by intro _ z;cases z) q⟩
def uA.bare{o:List Nat}{H:Hp}{a:Ans}{v:V}(h:uA o H a v):uA [] H a v:=by
 cases a with
 |num n=>exact h
 |txt x=>exact h
 |nums l=>obtain⟨p,e,n,q⟩:=h;exact⟨p,e,by simp,q⟩
 |txts l=>obtain⟨p,e,n,q⟩:=h;exact⟨p,e,by simp,q⟩
 |row r=>obtain⟨p,e,n,q⟩:=h;exact⟨p,e,by simp,q⟩
def uA.more{o:List Nat}{D:Nat}{H:Hp}{a:Ans}{v:V}(h:uA o H a v)(n:∀p,v= .ref p->p≠D):uA (D::o) H a v:=by
 have b:∀p,v= .ref p->p∉o->p∉D::o:=λp e q z=>(cQG.mp z).elim (n p e) q;cases a with
 |num n=>exact h
 |txt x=>exact h
 |nums l=>obtain⟨p,e,q⟩:=h;exact⟨p,e,b p e q.1,q.2⟩
 |txts l=>obtain⟨p,e,q⟩:=h;exact⟨p,e,b p e q.1,q.2⟩
 |row r=>obtain⟨p,e,q⟩:=h;exact⟨p,e,b p e q.1,q.2⟩
def xH(H:Hp)(r:Row)(v:V):Prop:=if r.void then v= .str "void" else ∃p,v= .ref p/\H p=some (.tup (stV r))
def xH.same{H a:Hp}{r:Row}{v:V}(h:xH H r v)(k:zI H a):xH a r v:=by
 unfold xH at h ⊢;split
 ·rename_i e;rw[if_pos e]at h;exact h
 ·rename_i e;rw[if_neg e]at h;obtain⟨p,e,q⟩:=h;exact⟨p,e,k.tup q⟩
structure aQI(H0:Hp)(CB CL T:Nat)(ba:Nat)(es:List xV)(as:List Ans)(H:Hp)(o:List Nat):Prop where
 ex:∃ (la sa:Nat)(ls cs:List Nat)(R:Rows)(S:List Int),o=own la sa ls cs/\PB CB CL H ba la sa ls cs R S/\Up es.length R S/\Bk.Z5 R/\Run [] [] es as R S
 tab:vE T H
 keep:zI H0 H
 new:∀b∈o,∀u,(∀ps,u≠HO.tbl ps)->H0 b≠some u
def jG(Rf:Nat×Nat):Sp:=λc H Q _=>∃ (g:Nat)(f:List Nat)(d:List xV),c= [.ref g]/\zM H g f d/\d.length<60/\(∀e∈d,Wf e)/\vE Rf.2 H/\
 ∀ (l:Nat)(b:Hp)(c:List V)(i:List Ans)(h:Rows)(j:List Int),zI H b->vE Rf.2 b->Run [] [] d i h j->Bk.Z5 h->b l=some (.lst c)->cXn (λv a=>uA [] b a v) c i->Q (.ref l) b
def aWU(d CL:Nat):Sp:=λb H Q _=>∃ (c h f:Nat)(g e:List Nat)(R:Rows)(S:List Int),b= [.ref c]/\PB d CL H c h f g e R S/\R.length<64/\
 ∀ (l:Nat)(a:Hp)(b:List V),xJ H a->a l=some (.lst b)->cXn (λv r=>xH a r v) b R->Q (.ref l) a
def vZ(Rf:Nat×Nat):Sp:=λb H Q _=>∃ (g:Nat)(f:List Nat)(c:List xV),b= [.ref g]/\zM H g f c/\c.length<60/\(∀e∈c,Wf e)/\vE Rf.2 H/\
 ∀ (l:Nat)(a:Hp)(b:List V)(h:List Ans)(d:Rows)(i:List Int),zI H a->vE Rf.2 a->Run [] [] c h d i->Bk.Z5 d->a l=some (.lst b)->cXn (λv r=>xH a r v) b d->Q (.ref l) a
def Y1{T:Nat}{H a:Hp}(t:vE T H)(k:xJ H a):vE T a:=(aYq.of k).2 t
def aQI.start{H:Hp}{n CL T x dx la sa:Nat}{d a:Hp}(tb:vE T H)(v:H x=none)(g:H dx=none)(C:dx≠x)(s:d=upd (upd H dx (.own x)) x (.ins n dx []))(f:d la=none)(l:d sa=none)(p:la≠sa) (B:a x=some (.ins n dx [("letters",.ref la),("shut",.ref sa)])) (w:a la=some (.lst [])) (A:a sa=some (.lst [])) (D:∀b,b≠x->b≠la->b≠sa->a b=d b):aQI H n CL T x [] [] a (own la sa [] [])/\xJ H a:=by
 have m:∀b,d b=none->H b=none:=λb e=>by
  subst s;by_cases z:b=x
  ·rw[z];exact v
  ·rw[yJ z]at e;by_cases z2:b=dx
   ·rw[z2];exact g
   ·rw[yJ z2]at e;exact e
 have k:xJ H a:=λb o e=>by have b1:=yI e v;have E:=yI e g;rw[D b b1 (yI e (m _ f)) (yI e (m _ l)),s,yJ b1,yJ E];exact e
 refine⟨⟨⟨la,sa,[],[],[],[],rfl,⟨⟨dx,B⟩,w,A,rfl,rfl,.nil,.nil,p,by simp,by simp,λi b c r e=>by simp at e⟩,⟨cQE _,cQE _,λr h=>by simp at h⟩,Bk.aZm,.nil⟩,Y1 tb k,k.t,λb j u _ z=>?_⟩,k⟩;have q:H b=none->False:=λy=>by rw[y]at z;cases z
 rcases cQG.mp j with e|j
 ·exact q (by rw[e];exact m _ f)
 rcases cQG.mp j with e|j
 ·exact q (by rw[e];exact m _ l)
 ·simp at j
def aQI.step{D:Hp}{p CL T l:Nat}{m:List xV}{B:List Ans}{H:Hp}{o:List Nat}{e:xV}(g:aQI D p CL T l m B H o)(hw:Wf e)(hz:m.length<60){y:Nat}(K:H y=some (.tup (xP e))){Q:VK}{Rf:Nat×Nat}(P:Rf.2=T) (q:∀ (a:Ans)(v:V)(h:Hp)(r:List Nat),aQI D p CL T l (m++ [e]) (B++ [a]) h r->uA r h a v->qB H v->Q3 o H h->Z4 H o r->Q v h):aQV Rf p CL [.ref l,.ref y] H Q E0:=by
 subst P;obtain⟨E,A,J,G,R,S,rfl,U,F,i,j⟩:=g.ex;refine⟨l,y,E,A,J,G,R,S,e,rfl,hw,K,U,F.sz (by omega),i,g.tab,λa Y L v h s n c x k C I O N=>?_⟩;refine q a v h _ ⟨⟨E,A,s,n,Y,L,rfl,x,?_,Bk.xZ.book i ?_ c,.snoc j c⟩,I,λb u f e=>k b u (λz=>g.new b z u f e) f (g.keep b u f e),λb X u f z0=>?_⟩ O N k C
 ·rw[cQ0,cXL];exact F.done c
 ·intro W d w t M;subst M;exact hw
 ·rcases C b X with z|z
  ·exact g.new b z u f z0
  ·rw[g.keep b u f z0]at z;cases z
def aQI.write{j:Hp}{A CL T x:Nat}{v:List xV}{w:List Ans}{H:Hp}{o:List Nat}(g:aQI j A CL T x v w H o){D:Nat}{xs ys:List V}(F:H D=some (.lst xs))(nD:D∉o)(h0:j D=none):aQI j A CL T x v w (upd H D (.lst ys)) o:=by
 have f:∀ {a u},H a=some u->(∀xs,u≠ .lst xs)->a≠D:=λq n z=>by rw[z,F]at q;cases q;exact n _ rfl
 obtain⟨L,C,G,B,R,S,rfl,d,N,k,h⟩:=g.ex;refine⟨⟨L,C,G,B,R,S,rfl,⟨?_,?_,?_,d.len,d.clen,d.nd,d.cnd,d.las,d.lac,d.sac,λi b c r J p I=>?_⟩,N,k,h⟩,?_,λb u E e=>?_,g.new⟩
 ·obtain⟨l,e⟩:=d.book;exact⟨l,by rw[yJ (f e (by intro _ z;cases z))];exact e⟩
 ·rw[yJ (λz=>nD (by rw[<- z];exact aWu))];exact d.lst
 ·rw[yJ (λz=>nD (by rw[<- z];exact bQC))];exact d.sht
 ·obtain⟨⟨l,s⟩,M⟩:=d.row i b c r J p I;exact⟨⟨l,by rw[yJ (f s (by intro _ z;cases z))];exact s⟩,by rw[yJ (λz=>nD (by rw[<- z];exact bWq (cQP p)))];exact M⟩
 ·rcases g.tab with t|⟨K,y,m⟩
  ·exact .inl (by rw[yJ (f t (by intro _ z;cases z))];exact t)
  ·exact .inr ⟨K,by rw[yJ (f y (by intro _ z;cases z))];exact y,by rw[yJ (f m (by intro _ z;cases z))];exact m⟩
 ·rw[yJ (yI e h0)];exact g.keep b u E e
section
variable {K:cQz}
abbrev aQQ:Stmt:=xM "answers"
abbrev aXv:Stmt:=xM "standing"
abbrev aZQ:Stmt:=xQ "Book" "standing_states"
def aK0:yO ["deeds","book"] ["deeds"] (yH aQQ):=scM
def aKq:xO ["deeds","book"] (yH aQQ) "deed" ["book"] [1] (lsN [(".0",.local),("deed",.local),("answer",.globalImplicit),("book",.free)]):=
 lcM
def wH{α β:Type}{F G:α->β->Prop}(h:∀a b,F a b->G a b):∀ {l:List α} {m:List β},cXn F l m->cXn G l m
 |_,_,.nil=> .nil
 |_,_,.cons r t=> .cons (h _ _ r) (wH h t)
def aKD(G:MkG P w K mg base n "Book" CB ["self"] (aV4 CB))(d:FnG P w K mg base (n+1) "answer" ["book","deed"] (aQV Rf CB CL))(F:Fun K "answers" "answers" aQQ f fd): xL P w K mg base CX0 (n+2) f fd ["deeds"] (jG Rf):=by
 have sc:=aK0;refine F.ok (k:=n+1) sc (λb6 A outer s H vs Q E hr h=>?_);obtain⟨ds,j,r,rfl,hD,b5,b2,tb,q⟩:=h;refine⟨_,(yC (yU (i:=1) (bVd G hr rfl)) (yF (yP (aQj aKq rfl (xN (pv 0)) (λ_ _ _ _ _=>wQ) (λ_ _ _ _ _=>(xU d hr rfl (yA (pv 1) (yA (pv 0) yD)))))))),?_⟩;intro x dx hx a3 b1;refine⟨x,dx,rfl,yB,λla sa H1 b4 a4 a7 h1 h2 h3 h4=>⟨rfl,?_⟩⟩;dsimp only[yW];obtain⟨g0,k0⟩:=aQI.start (CL:=CL) tb hx a3 b1 rfl b4 a4 a7 h1 h2 h3 h4;have b0:=hD.same k0.t;refine⟨_,rfl,ds,rfl,⟨_,SqL.of b0.1⟩,λD c=>?_⟩;have a2:(j.map V.ref).length=r.length:=by rw[cQB];exact hD.2.1
 have a9:H D=none:=k0.fresh c;refine⟨λi m I Y=>m=r.length - i/\i<=r.length/\Y D=some (.lst I)/\∃ (X:List Ans)(o:List Nat),aQI H CB CL Rf.2 x (r.take i) X Y o/\D∉o/\cXn (λv a=>uA (D::o) Y a v) I X,⟨r.length,by simp,cXz _,yB,[],own la sa [] [],?_,?_,.nil⟩,?_⟩
 ·have kD:=yE c (.lst []);obtain⟨O,J,M,L,R,S,e1,e2,e3,e4,W⟩:=g0.ex;exact⟨⟨O,J,M,L,R,S,e1,e2.same kD,e3,e4,W⟩,Y1 g0.tab kD,λb u nt e=>kD _ _ (g0.keep b u nt e),g0.new⟩
 ·intro z;rcases cQG.mp z with e|z
  ·rw[e,h2]at c;cases c
  rcases cQG.mp z with e|z
  ·rw[e,h3]at c;cases c
  ·simp at z
 ·rintro i m I Y ⟨rfl,hi,l,X,o,g,nD,hP⟩;have B:=hD.same g.keep;refine⟨l,?_⟩;by_cases C:i<r.length
  ·have a6:i<j.length:=by rw[hD.2.1];exact C
   have N:=cQw a6;have a0:=cQw C;refine .inr ⟨⟨j.map V.ref,.ref j[i],SqL.of B.1,by rw[cQR,N];rfl⟩,λv H2 yl=>?_⟩;obtain⟨rfl,y⟩:=yl;have hv:(j.map V.ref)[i]? =some v:=y _ (SqL.of B.1);rw[cQR,N]at hv;cases hv;refine⟨_,rfl,_,rfl,?_⟩;refine g.step (b2 _ (cZk C)) (by rw[cXH];omega) (B.2.2 i _ _ N a0) rfl λa v U T g3 av nv k3 gr=>?_;have b3:r.take (i+1)=r.take i++ [r[i]]:=by rw[cXx,a0];rfl
   have b7:I.length<=i:=by obtain⟨O,J,M,L,R,S,e1,e2,e3,e4,W⟩:=g.ex;have:=W.len;rw[hP.length,<- this,cXH];omega
   have Z:U D=some (.lst I):=k3 _ _ nD (by intro _ z;cases z) l;have a1:D∉T:=λz=>by
    rcases gr D z with y|y
    ·exact nD y
    ·rw[l]at y;cases y
   refine⟨by rw[cQZ];omega,Z,r.length - (i+1),by omega,rfl,C,yB,X++ [a],T,?_,a1,?_⟩
   ·rw[b3];exact g3.write Z a1 a9
   ·have k4:Q3 (D::T) U (upd U D (.lst (I++ [v]))):=Q3.upd cQM _;have k5:Q3 (D::o) H2 U:=λb u nb nt e=>k3 b u (λz=>nb (cQI _ z)) nt e;have a8:Z4 H2 (D::o) (D::T):=λb hb=>by
     rcases cQG.mp hb with e|hb
     ·exact .inl (by rw[e];exact cQM)
     ·exact(gr b hb).imp (cQI _) id
    have a5:uA (D::T) U a v:=av.more λp e z=>by rw[z]at e;exact nv D e _ (by intro _ z;cases z) l
    exact Law.aZa (F:=λv' a'=>uA (D::T) (upd U D (.lst (I++ [v]))) a' v') (a5.kept k4 Z4.refl) (wH (λv a (h:uA (D::o) H2 a v)=>(h.kept k5 a8).kept k4 Z4.refl) hP)
  ·obtain rfl:i=r.length:=by omega
   obtain⟨O,J,M,L,R,S,e1,e2,e3,e4,W⟩:=g.ex;rw[cXs]at W;exact .inl ⟨⟨j.map V.ref,SqL.of B.1,by rw[a2];exact cQE _⟩,q D Y I X R S g.keep g.tab W e4 l (wH (λv a h=>h.bare) hP)⟩
def bXn:yO ["self"] ["self"] (yH aZQ):=scM
def aY5:xO ["self"] (yH aZQ) "letter" [] [] (lsN [(".0",.local),("letter",.local)]):=
 lcM
def bQx(cl:Cl K CB CL)(d:MG P w K mg base CX0 n CL "state" ["self"] (aV6 CL))(F:Fun K "standing_states" "Book.standing_states" aZQ f fd):xL P w K mg base CX0 (n+1) f fd ["self"] (aWU CB CL):=by
 have sc:=bXn;refine F.ok (k:=n) sc (λa1 A outer s H vs Q E hr h=>?_);obtain⟨ba,la,sa,L,cs,R,S,rfl,N,hR,q⟩:=h;refine⟨_,(yF (yP (aQj aY5 rfl (xN (xC (pv 0) rfl)) (λ_ _ _ _ _=>wQ) (λ_ _ _ _ _=>(aWx (zA (aXl (K:=K) (pv 0) rfl)) yQ (bZ3 d hr uT (pv 0))))))),?_⟩;obtain⟨dx,hb⟩:=N.book;have hl:(L.map V.ref).length=R.length:=by rw[cQB];exact N.len
 refine⟨_,rfl,ba,CB,dx,_,_,rfl,hb,cl.b,cl.letters,rfl,la,rfl,⟨_,SqL.of N.lst⟩,λD Y=>?_⟩;refine⟨λi m a C=>m=R.length - i/\i<=R.length/\xJ H C/\C D=some (.lst a)/\cXn (λv r=>xH C r v) a (R.take i),⟨R.length,by simp,cXz _,yE Y _,yB,.nil⟩,?_⟩;rintro i m a C ⟨rfl,hi,T,u,M⟩;have o:=N.same T;refine⟨u,?_⟩;by_cases J:i<R.length
 ·have B:=cQw J;obtain⟨b,c,Z,g2,g3,⟨x,U⟩,g5⟩:=o.get B;refine .inr ⟨⟨L.map V.ref,.ref b,SqL.of o.lst,Z⟩,λv H2 yl=>?_⟩;obtain⟨rfl,y⟩:=yl;have G:(L.map V.ref)[i]? =some v:=y _ (SqL.of o.lst);rw[Z]at G;cases G;have W:R.take (i+1)=R.take i++ [R[i]]:=by rw[cXx,B];rfl
  have a0:a.length<=i:=by rw[M.length,cXH];omega
  refine⟨_,rfl,b,CL,x,_,_,rfl,U,cl.l,cl.void,rfl,_,rfl,?_⟩;have fin:∀ (v:V)(j:Hp),xJ H2 j->xH j R[i] v->a.length<cQW/\j D=some (.lst a)/\∃m',m'<R.length - i/\(m'=R.length - (i+1)/\i+1<=R.length/\xJ H (upd j D (.lst (a++ [v])))/\upd j D (.lst (a++ [v])) D=some (.lst (a++ [v]))/\cXn (λg r=>xH (upd j D (.lst (a++ [v]))) r g) (a++ [v]) (R.take (i+1))):=λv j O sv=>by
   have I:=O _ _ u;have X:∀ (g:V)(r:Row),xH j r g->xH (upd j D (.lst (a++ [v]))) r g:=λg r h=>by
    unfold xH at h ⊢;split
    ·rename_i e;rw[if_pos e]at h;exact h
    ·rename_i e;rw[if_neg e]at h;obtain⟨p,e,q⟩:=h;exact⟨p,e,by rw[yJ (aXU q I (by intro z;cases z))];exact q⟩
   refine⟨by rw[cQZ];omega,I,R.length - (i+1),by omega,rfl,J,Law.aXO (T.trans O) Y,yB,?_⟩;rw[W];exact Law.aZa (F:=λg r=>xH (upd j D (.lst (a++ [v]))) r g) (X _ _ sv) (wH (λg r (h:xH H2 r g)=>X g r (h.same O.t)) M)
  cases G:R[i].void with
  |true=>exact onT rfl (fin _ _ (xJ.refl _) (by unfold xH;rw[G];rfl))
  |false=>refine onF rfl ⟨_,rfl,b,x,_,rfl,U,rfl,b,i,_,c,rfl,⟨x,U⟩,λt ht=>?_⟩;exact fin _ _ (yE ht _) (by unfold xH;rw[G];exact⟨t,rfl,yB⟩)
 ·obtain rfl:i=R.length:=by omega
  rw[cXs]at M;exact .inl ⟨⟨L.map V.ref,SqL.of o.lst,by rw[hl];exact cQE _⟩,q D C a T u M⟩
def aV0:yO ["deeds","book","deed"] ["deeds"] (yH aXv):=scM
def aVA(d:MkG P w K mg base n "Book" CB ["self"] (aV4 CB))(c:FnG P w K mg base (n+1) "answer" ["book","deed"] (aQV Rf CB CL))(b:MG P w K mg base CX0 (n+1) CB "standing_states" ["self"] (aWU CB CL)) (F:Fun K "standing" "standing" aXv f fd):xL P w K mg base CX0 (n+2) f fd ["deeds"] (vZ Rf):=by
 have sc:=aV0;refine F.ok (k:=n+1) sc (λa4 A outer s H vs Q E J h=>?_);obtain⟨ds,j,m,rfl,y,a3,a0,tb,q⟩:=h;refine⟨_,(yC (yU (i:=1) (bVd d J rfl)) (yC (wT cXo rfl (xN (pv 0)) (xI (i:=2)) (yF (yZ (xU c J rfl (yA (pv 1) (yA (pv 2) yD)))))) (yF (yP (bZ3 b J uT (pv 1)))))),?_⟩;intro x dx hx G Z;refine⟨x,dx,rfl,yB,λla sa H1 a2 I T h1 h2 h3 h4=>⟨rfl,?_⟩⟩;dsimp only[yW];obtain⟨g0,k0⟩:=aQI.start (CL:=CL) tb hx G Z rfl a2 I T h1 h2 h3 h4;have X:=y.same k0.t;have p:(j.map V.ref).length=m.length:=by rw[cQB];exact y.2.1
 refine⟨_,rfl,ds,rfl,⟨_,SqL.of X.1⟩,?_⟩;refine zS (xs:=j.map V.ref) (λi σ C=>∃ (D:Option V)(u:List Ans)(o:List Nat),σ= [some (.ref ds),some (.ref x),D]/\aQI H CB CL Rf.2 x (m.take i) u C o) ?_ ?_ ?_ ?_
 ·exact⟨none,[],_,rfl,g0⟩
 ·rintro i σ C hi ⟨D,u,o,rfl,g⟩;exact SqL.of (y.same g.keep).1
 ·rintro i v σ C hv ⟨D,u,o,rfl,g⟩;have e:i<m.length:=by rw[<- p];exact(cQK.mp hv).1
  have z:=cQw (show i<j.length by rw[y.2.1];exact e);have B:=cQw e;rw[cQR,z]at hv;cases hv;have M:=y.same g.keep;have a1:m.take (i+1)=m.take i++ [m[i]]:=by rw[cXx,B];rfl
  dsimp only[yW];refine⟨_,rfl,_,rfl,?_⟩;refine g.step (a0 _ (cZk e)) (by rw[cXH];omega) (M.2.2 i _ _ z B) rfl λa v H3 o' g3 av nv k3 gr=>?_;rw[<- a1]at g3;exact⟨_,_,o',rfl,g3⟩
 ·rintro σ C ⟨D,u,o,rfl,g⟩;rw[p,cXs]at g;obtain⟨Y,L,O,N,R,S,e1,e2,e3,e4,e5⟩:=g.ex;obtain⟨W,hb⟩:=e2.book;refine⟨_,rfl,x,W,_,rfl,hb,rfl,x,Y,L,O,N,R,S,rfl,e2,by have:=e3.r;omega,λl H5 vs k5 U hP=>?_⟩;exact q l H5 vs u R S (g.keep.trans k5.t) (Y1 g.tab k5) e5 e4 U hP
end
end Desk
namespace Law
open PySem L2 PyProof.Rows
open Bk (Row Rows xZ xV Ans)
open Desk (xP uA qB Wf Up Run zM wH)
structure LGo(H0:Hp)(ra sa:Nat)(es:List xV)(as:List Ans)(H:Hp)(rs:List Nat):Prop where
 ex:∃ (R:Rows)(S:List Int),LBk H ra sa rs R S/\Up es.length R S/\Bk.Z5 R/\Run [] [] es as R S
 keep:xJ H0 H
 newR:H0 ra=none
 newS:H0 sa=none
 newB:∀b∈rs,H0 b=none
def LGo.same{f H e:Hp}{c sa:Nat}{h:List xV}{i:List Ans}{d:List Nat}(g:LGo f c sa h i H d)(k:xJ H e):LGo f c sa h i e d:=
 ⟨let ⟨R,S,a,b⟩:=g.ex;⟨R,S,a.same k,b⟩,g.keep.trans k,g.newR,g.newS,g.newB⟩
def LGo.start{H:Hp}{a sa:Nat}(f:H a=none)(c:upd H a (.lst []) sa=none):LGo H a sa [] [] (upd (upd H a (.lst [])) sa (.lst [])) []:=by
 have e:=yE f (.lst []);have g:=yE c (.lst []);have ne:sa≠a:=λz=>by rw[z,yB]at c;cases c
 exact⟨⟨[],[],⟨⟨g _ _ yB,rfl,.nil,λi b r h=>by simp at h⟩,yB,ne,by simp,λb d=>by simp at d⟩,⟨cQE _,cQE _,λr h=>by simp at h⟩,Bk.aZm,.nil⟩,e.trans g,f,e.fresh c,λb d=>by simp at d⟩
def bKt{H g:Hp}{j sa:Nat}{c:List Nat}{t:Rows}{u:List Int}{a:Ans}{v:V}(o:LBk g j sa c t u)(k:∃b,H j=some (.lst b))(m:∃b,H sa=some (.lst b))(f:uA [] g a v)(s:qB H v):uA (sa::j::c) g a v:=by
 have no:∀p,v= .ref p->(∀r d,g p≠some (.lst (jW r d)))->p∉sa::j::c:=λp e n z=>by
  rcases cQG.mp z with z|z
  ·obtain⟨b,h⟩:=m;exact s p e (.lst b) (by intro _ y;cases y) (by rw[z];exact h)
  rcases cQG.mp z with z|z
  ·obtain⟨b,h⟩:=k;exact s p e (.lst b) (by intro _ y;cases y) (by rw[z];exact h)
  ·obtain⟨i,q,w⟩:=cXq z;obtain⟨d,A,_⟩:=o.book.row i p _ (by rw[cQw q,w]) (cQw (show i<t.length by rw[<- o.book.len];exact q));exact n _ d A
 cases a with
 |num n=>exact f
 |txt x=>exact f
 |nums l=>obtain⟨p,e,_,h⟩:=f;exact⟨p,e,no p e λr d z=>by rw[h]at z;exact aXq (cQS z).symm,h⟩
 |txts l=>obtain⟨p,e,_,h⟩:=f;exact⟨p,e,no p e λr d z=>by rw[h]at z;exact X9 (cQS z).symm,h⟩
 |row r=>obtain⟨p,e,_,h⟩:=f;exact⟨p,e,no p e λr d z=>(by rw[h]at z;cases z),h⟩
def LGo.step{E H:Hp}{j sa:Nat}{y:List xV}{D:List Ans}{p:List Nat}{e:xV}(g:LGo E j sa y D H p)(hw:Wf e)(hz:y.length<60){B:Nat}(G:H B=some (.tup (xP e))){Q:VK} (q:∀ (a:Ans)(v:V)(i:Hp)(f:List Nat),LGo E j sa (y++ [e]) (D++ [a]) i f->aZ3 j sa p f H i->uA (sa::j::f) i a v->qB H v->Q v i):aZg [.ref j,.ref sa,.ref B] H Q E0:=by
 obtain⟨R,S,u,n,k,m⟩:=g.ex;refine⟨j,sa,B,p,R,S,e,rfl,G,hw,u,by have:=n.r;omega,by have:=n.s;omega,k,λr O=>by have:=n.c r O;omega,λi a v N I f C l A K F=>?_⟩;refine q a v i f ⟨⟨N,I,l,?_,Bk.xZ.book k ?_ A,.snoc m A⟩,λx o h=>?_,g.newR,g.newS,λb M=>?_⟩ C (bKt l ⟨_,u.book.lst⟩ ⟨_,u.shut⟩ K F) F
 ·rw[cQ0,cXL];exact n.done A
 ·intro L d w t J;subst J;exact hw
 ·exact C.1 x o (yI h g.newS) (yI h g.newR) (λz=>by rw[g.newB x z]at h;cases h) (g.keep _ _ h)
 ·rcases C.2.1 b M with z|z
  ·exact g.newB b z
  ·exact g.keep.fresh z
structure aW6(H0:Hp)(ra sa:Nat)(H:Hp)(rs:List Nat)(D:Nat)(xs:List V):Prop where
 at_:H D=some (.lst xs)
 new:H0 D=none
 nr:D≠ra
 ns:D≠sa
 nb:D∉rs
 nc:NoC rs H D
def aW6.step{e H d:Hp}{b sa D:Nat}{c a:List Nat}{xs:List V}(h:aW6 e b sa H c D xs)(st:aZ3 b sa c a H d):aW6 e b sa d a D xs:=
 ⟨st.1 D _ h.ns h.nr h.nb h.at_,h.new,h.nr,h.ns,λz=>(st.2.1 D z).elim h.nb (λy=>by have:=h.at_;rw[y]at this;cases this),st.2.2 D _ h.at_ h.nc⟩
def aW6.same{e H d:Hp}{c sa D:Nat}{a:List Nat}{xs:List V}(h:aW6 e c sa H a D xs)(f:∀b∈a,∃o,H b=some o)(k:xJ H d):aW6 e c sa d a D xs:=
 ⟨k _ _ h.at_,h.new,h.nr,h.ns,h.nb,(But.of f k).2.2 D _ h.at_ h.nc⟩
def LGo.dom{d H:Hp}{c sa:Nat}{e:List xV}{f:List Ans}{a:List Nat}(g:LGo d c sa e f H a):∀b∈a,∃o,H b=some o:=let ⟨R,S,h,_⟩:=g.ex;h.book.dom
def LGo.write{m H:Hp}{n sa D:Nat}{q:List xV}{s:List Ans}{d:List Nat}{xs:List V}(g:LGo m n sa q s H d)(h:aW6 m n sa H d D xs)(ys:List V):LGo m n sa q s (upd H D (.lst ys)) d/\aW6 m n sa (upd H D (.lst ys)) d D ys:=by
 obtain⟨R,S,c,w,p,j⟩:=g.ex;have nb:∀b∈d,b≠D:=λb a z=>h.nb (by rw[<- z];exact a);refine⟨⟨⟨R,S,⟨⟨by rw[yJ (cXg h.nr)];exact c.book.lst,c.book.len,c.book.nd,λi b r a y=>?_⟩,by rw[yJ (cXg h.ns)];exact c.shut,c.ne,c.no,λb a l k=>c.noC b a l (by rw[yJ (nb b a)]at k;exact k)⟩,w,p,j⟩,λx o e=>?_,g.newR,g.newS,g.newB⟩,yB,h.new,h.nr,h.ns,h.nb,λb a l k=>h.nc b a l (by rw[yJ (nb b a)]at k;exact k)⟩
 ·obtain⟨u,t,v⟩:=c.book.row i b r a y;have f:=cQP a;exact⟨u,by rw[yJ (nb b f)];exact t,by rw[yJ (λz=>h.nc b f _ t (by rw[<- z];rfl))];exact v⟩
 ·rw[yJ (yI e h.new)];exact g.keep _ _ e
def aW6.write{e H:Hp}{c sa D E:Nat}{a:List Nat}{xs:List V}(h:aW6 e c sa H a D xs)(ne:D≠E)(g:E∉a)(u:HO):aW6 e c sa (upd H E u) a D xs:=
 ⟨by rw[yJ ne];exact h.at_,h.new,h.nr,h.ns,h.nb,λb d l f=>h.nc b d l (by rw[yJ (λz=>g (by rw[<- z];exact d))]at f;exact f)⟩
end Law
namespace Bk
open PySem (Str)
def wS{R:Rows}{k:Nat}{r:Row}(a:R[k]? =some r)(b:r.void=false):vK R (k:Int)=true:=by
 unfold vK;rw[cQ6,a];simp[b]
def xZ.noOne{R R2:Rows}{S f:List Int}{m:Int}{e:xV}{g:Ans}(h:vK R m=false)(a:e= .loose m\/(∃d,e= .date m d)\/(∃t,e= .term m t)\/(∃w,e= .copy m w)\/(∃w,e= .file m w)\/e= .void m\/e= .state m\/e= .thread m\/e= .copies m) (i:xZ R S e g R2 f):g= .txt "no letter"/\R2=R/\f=S:=by
 cases i with
 |oneN k j=>exact⟨rfl,rfl,rfl⟩
 |enter _=>simp at a
 |enterT _=>simp at a
 |replyN _=>simp at a
 |replyT _ _=>simp at a
 |replyE _ _ _ _=>simp at a
 |reply _ _ _ _=>simp at a
 |hangN _=>simp at a
 |hangH _ _ _ _ _=>simp at a
 |hangO _ _ _ _ _ _=>simp at a
 |hangW _ _ _ _ _ _ _=>simp at a
 |hangP _ _ _ _ _ _ _ _=>simp at a
 |hangE _ _ _ _ _ _ _ _ _=>simp at a
 |hang _ _ _ _ _ _ _ _ _=>simp at a
 |shutN _=>simp at a
 |shut _=>simp at a
 |letters=>simp at a
 |on _=>simp at a
 |looseN b c _=>simp at a;rw[<- a,wS b c]at h;cases h
 |loose b c _=>simp at a;rw[<- a,wS b c]at h;cases h
 |dateE b c _=>simp at a;rw[<- a,wS b c]at h;cases h
 |date b c _ _=>simp at a;rw[<- a,wS b c]at h;cases h
 |termN b c _=>simp at a;rw[<- a,wS b c]at h;cases h
 |term b c _=>simp at a;rw[<- a,wS b c]at h;cases h
 |copyC b c _=>simp at a;rw[<- a,wS b c]at h;cases h
 |copy b c _ _=>simp at a;rw[<- a,wS b c]at h;cases h
 |file b c=>simp at a;rw[<- a,wS b c]at h;cases h
 |voidA b c _=>simp at a;rw[<- a,wS b c]at h;cases h
 |void b c _=>simp at a;rw[<- a,wS b c]at h;cases h
 |state b c=>simp at a;rw[<- a,wS b c]at h;cases h
 |thread b c=>simp at a;rw[<- a,wS b c]at h;cases h
 |copies b c=>simp at a;rw[<- a,wS b c]at h;cases h
def aZ1(R:Rows)(e:xV):Prop:=∃m,vK R m=false/\(e= .loose m\/(∃d,e= .date m d)\/(∃t,e= .term m t)\/(∃w,e= .copy m w)\/(∃w,e= .file m w)\/e= .void m\/e= .state m\/e= .thread m\/e= .copies m)
def aQb{R:Rows}{m:Int}{k:Nat}{r:Row}(h:vK R m=false)(e:m=(k:Int))(a:R[k]? =some r)(b:r.void=false):False:=by
 rw[e,wS a b]at h;cases h
def xZ.det{R E R2:Rows}{S w C:List Int}{e n:xV}{a B:Ans}(b:n=e)(h:xZ R S e a E w)(i:xZ R S n B R2 C):a=B/\E=R2/\w=C:=by
 by_cases o:aZ1 R e
 ·obtain⟨m,D,y⟩:=o;obtain⟨rfl,rfl,rfl⟩:=xZ.noOne D y h;subst b;obtain⟨rfl,rfl,rfl⟩:=xZ.noOne D y i;exact⟨rfl,rfl,rfl⟩
 have I:¬aZ1 R n:=by rw[b];exact o
 cases e<;> cases n<;> try (cases b;done)
 all_goals simp only[xV.loose.injEq,xV.date.injEq,xV.term.injEq,xV.copy.injEq,xV.file.injEq,xV.void.injEq,xV.state.injEq,xV.thread.injEq,xV.copies.injEq,xV.letters.injEq,xV.shut.injEq,xV.enter.injEq,xV.reply.injEq,xV.hang.injEq,xV.on.injEq]at b
 all_goals cases h<;> cases i<;> first
  |(exfalso;exact o ⟨_,‹vK R _=false›,‹_›⟩)
  |(exfalso;exact I ⟨_,‹vK R _=false›,‹_›⟩)
  |(simp_all [cVx];done)
  |(simp_all [cVx];omega)
  |skip
 all_goals first
  |exact(aQb ‹vK R _=false› b.1.symm ‹R[_]? =some _› ‹_›).elim
  |exact(aQb ‹vK R _=false› b.1 ‹R[_]? =some _› ‹_›).elim
  |(rcases ‹vK R _=false\/vK R _=false› with z|z
    ·exact(aQb z b.1.symm ‹R[_]? =some _› ‹_›).elim
    ·exact(aQb z b.2.symm ‹R[_]? =some _› ‹_›).elim)
  |(rcases ‹vK R _=false\/vK R _=false› with z|z
    ·exact(aQb z b.1 ‹R[_]? =some _› ‹_›).elim
    ·exact(aQb z b.2 ‹R[_]? =some _› ‹_›).elim)
  |skip
 case date.date.dateE.date=>
  rename_i d x k r p H h J F f s q i;exfalso;obtain⟨u,rfl⟩:=b;cases cVx.mp u;rw[p]at f;cases f;rcases h with⟨j,g,t⟩|⟨c,g,t⟩
  ·have:=q j g;omega
  ·have:=i c g;omega
 case date.date.date.dateE=>
  rename_i d x k r p H q i J F f s h;exfalso;obtain⟨u,rfl⟩:=b;cases cVx.mp u;rw[p]at f;cases f;rcases h with⟨j,g,t⟩|⟨c,g,t⟩
  ·have:=q j g;omega
  ·have:=i c g;omega
 case on.on.on.on=>
  rename_i A d v x l h K G;obtain⟨rfl,rfl⟩:=b;cases h.uniq G;exact⟨rfl,rfl,rfl⟩
end Bk
namespace Desk
open Bk (Row Rows xZ xV Ans)
def Run.inv{R b:Rows}{S c:List Int}{l:List xV}{bs:List Ans}(h:Run R S l bs b c):(l= []/\bs= []/\b=R/\c=S)\/∃g e i a f j,l=g++ [e]/\bs=i++ [a]/\Run R S g i f j/\xZ f j e a b c:=by
 cases h with
 |nil=>exact .inl ⟨rfl,rfl,rfl,rfl⟩
 |snoc h d=>exact .inr ⟨_,_,_,_,_,_,rfl,rfl,h,d⟩
def Run.det{R:Rows}{S:List Int}:∀ (n:Nat) {b:List xV} {c bs:List Ans} {f R2:Rows} {i j:List Int},b.length=n->Run R S b c f i->Run R S b bs R2 j->c=bs/\f=R2/\i=j
 |0,b,c,bs,f,R2,i,j,hn,h,h2=>by
  rcases h.inv with⟨rfl,rfl,rfl,rfl⟩|⟨_,_,_,_,_,_,rfl,_⟩
  ·rcases h2.inv with⟨_,rfl,rfl,rfl⟩|⟨u,l,_,_,_,_,z,_⟩
   ·exact⟨rfl,rfl,rfl⟩
   ·exact absurd (congrArg cZH z) (by simp)
  ·simp at hn
 |n+1,b,c,bs,f,R2,i,j,hn,h,h2=>by
  rcases h.inv with⟨rfl,_⟩|⟨s,e,m,a,w,v,rfl,rfl,g,d⟩
  ·simp at hn
  ·rcases h2.inv with⟨z,_⟩|⟨r,l,o,x,t,q,z,rfl,k,p⟩
   ·exact absurd (congrArg cZH z) (by simp)
   ·obtain⟨rfl,z2⟩:=cJQ z rfl;cases z2;obtain⟨rfl,rfl,rfl⟩:=Run.det n (by simpa using hn) g k;obtain⟨rfl,rfl,rfl⟩:=Bk.xZ.det rfl d p;exact⟨rfl,rfl,rfl⟩
end Desk
namespace Law
open PySem L2 PyProof.Rows
open Bk (Row Rows xZ xV Ans)
open Desk (xP uA qB Wf vU stV)
def aJl(a:Array Nat):∀ (m:Nat)(b:Array Nat),((cJd m a).foldl (·++·) b).size=b.size+m*a.size
 |0,b=>by simp
 |m+1,b=>by rw[List.replicate_succ,List.foldl_cons,aJl a m,Array.size_append,Nat.succ_mul];omega
def bV6{x:Str}{n:Int}(b:x.length<=1)(e:n<=100):(cJ0 x n).length<=100:=by
 unfold cJ0;split
 ·decide
 ·split
  ·omega
  ·rename_i c _;show((cJd n.toNat x.cps).foldl (·++·) #[]).size<=100;rw[aJl];have a:x.cps.size<=1:=b;have d:n.toNat*x.cps.size<=n.toNat*1:=Nat.mul_le_mul_left _ a;have f:(#[]:Array Nat).size=0:=rfl;omega
def aZB{X:Cx}:OpR X (cZ5 .Mult) (λx y H Q=>∃i n,x= .str i/\y= .int n/\i.length<=1/\0<=n/\n<=100/\∀z:Str,z.length<=100->Q (.str z) H):=by
 intro b s σ H x y v u Q I c f h;obtain⟨i,n,rfl,rfl,a,j,e,q⟩:=h;obtain⟨t,rfl⟩:=c;obtain⟨d,rfl⟩:=f;refine SB.mul ⟨?_,λg _=>?_,λg _=>?_⟩ λd k=>⟨.str (cJ0 i n),H,I.tok _,⟨_,rfl⟩,q _ (bV6 a e)⟩
 ·rw[decide_eq_false (by omega),decide_eq_false (by omega)];rfl
 ·have:(1:Int)<=(2 ^ 63 - 1) / n:=Int.le_ediv_of_mul_le (by omega) (by omega);omega
 ·have:i.length*n.toNat<=1*n.toNat:=cVA _ a;unfold Builtin.Str.tooLong;simp only[decide_eq_false_iff_not,cQZ];omega
def bQB{X:Cx}:OpR X (cZ5 .Mult) (λx y H Q=>∃i n,x= .str i/\y= .int n/\i.length<=1/\0<=n/\n<=100/\Q (.str (cJ0 i n)) H):=by
 intro a s σ H x y v u Q I b e h;obtain⟨i,n,rfl,rfl,d,g,j,q⟩:=h;obtain⟨t,rfl⟩:=b;obtain⟨c,rfl⟩:=e;refine SB.mul ⟨?_,λf _=>?_,λf _=>?_⟩ λc k=>⟨.str (cJ0 i n),H,I.tok _,⟨_,rfl⟩,q⟩
 ·rw[decide_eq_false (by omega),decide_eq_false (by omega)];rfl
 ·have:(1:Int)<=(2 ^ 63 - 1) / n:=Int.le_ediv_of_mul_le (by omega) (by omega);omega
 ·have:i.length*n.toNat<=1*n.toNat:=cVA _ d;unfold Builtin.Str.tooLong;simp only[decide_eq_false_iff_not,cQZ];omega
def wO:List Str:= ["old","","new","old files","Old, ~",cJ0 "y" 40]
def Nm:xV->Prop
 |.file _ w=>w∈wO
 |_=>True
def Wd(e:xV):Prop:=Wf e/\Nm e
def bJY{l:List V}(h:0<l.length)(x:Int):∃v∈l,atI l (x % (l.length:Nat))=some v:=by
 have c:=Int.emod_nonneg x (show((l.length:Nat):Int)≠0 by omega);have d:=Int.emod_lt_of_pos x (show(0:Int)<((l.length:Nat):Int) by omega);obtain⟨k,b⟩:∃k:Nat,x % (l.length:Nat)=(k:Int):=⟨(x % (l.length:Nat)).toNat,by omega⟩;have a:k<l.length:=by omega
 refine⟨l[k],cZk a,?_⟩;rw[b];exact yT (cQw a)
def Q7{a:List Int}(h:a≠ [])(x:Int):∃n,atI (a.map V.int) (x % ((a.map V.int).length:Nat))=some (.int n):=by
 obtain⟨v,b,e⟩:=bJY (l:=a.map V.int) (by rw[cQB];exact cXM.mpr h) x;obtain⟨n,_,rfl⟩:=cXr.mp b;exact⟨n,e⟩
def aJ9{l:List Nat}(h:l≠ [])(x:Int):∃n,atI (l.map λi=>V.int (i:Nat)) (x % ((l.map λi=>V.int (i:Nat)).length:Nat))=some (.int n):=by
 obtain⟨v,a,e⟩:=bJY (l:=l.map λi=>V.int (i:Nat)) (by rw[cQB];exact cXM.mpr h) x;obtain⟨n,_,rfl⟩:=cXr.mp a;exact⟨n,e⟩
def uN(H:Hp)(v:V):Prop:=∃p e,v= .ref p/\H p=some (.tup (xP e))/\Wd e
def uN.same{H d:Hp}{v:V}(h:uN H v)(k:xJ H d):uN d v:=let ⟨p,e,a,b,c⟩:=h;⟨p,e,a,k _ _ b,c⟩
abbrev aQR:Stmt:=xM "_law_hanging"
def aJW:Sp:=λf H Q _=>∃ (b c:Nat)(e:List Nat)(R:Rows)(d:List Int)(k:Nat)(m:Int),f= [.ref b,.ref c,.int (k:Nat),.int m]/\xF H b e R/\R.length<=60/\H c=some (.lst (d.map V.int))/\d≠ []/\
 ∀ (a:Hp)(v:V),xJ H a->uN a v->Q v a
section
variable {K:cQz}
def aYa:yO ["_law_rows","_law_cells","_law_k","_law_number","_law_near","_law_far","_law_free","_law_goal","_law_fits","_law_j","_law_one"] ["_law_rows","_law_cells","_law_k","_law_number"] (yH aQR):=scM
def aKs:xO ["_law_rows","_law_cells","_law_k","_law_number","_law_near","_law_far","_law_free","_law_goal","_law_fits","_law_j","_law_one"] (yH aQR) "_law_j" ["_law_rows"] [0] (lsN [(".0",.local),("_law_j",.local),("_law_rows",.free)]):=
 lcM
def aKN(T:uJ mg)(a6:mg "int"=none)(M:FnG P w K mg base 1 "_law_good" ["_law_rows","_law_number"] aQH)(F:Fun K "_law_hanging" "_law_hanging" aQR f fd):xL P w K mg base CX0 2 f fd ["_law_rows","_law_cells","_law_k","_law_number"] aJW:=by
 have sc:=aYa;refine F.ok (k:=1) sc (λb2 A outer s H vs Q E hr h=>?_);obtain⟨v,Z,rs,R,ns,k,m,rfl,hB,hR,hc,a3,q⟩:=h;refine⟨_,(yC (yU (i:=4) (yL yK (pv 1) (yV xD (yV zT (pv 2) yG) (yR yN rfl T.b_len xG (yA (pv 1) yD))))) (yC (yU (i:=5) (yL yK (pv 1) (yV xD (yV zT (pv 2) yG) (yR yN rfl T.b_len xG (yA (pv 1) yD))))) (yC (aXZ (i:=6) aKs rfl sc.nd rfl rfl (zY rfl T.b_range (yA (yR yN rfl T.b_len xG (yA (pv 0) yD)) yD)) (λ_ _ _ _ _=>(vA (yM aX9 (yL ixK (yL ixK (pv 1) (pv 0)) yG) zL))) (λ_ _ _ _ _=>(pv 0))) (yC (xA (PW.pt (jE (yM (jM hr.units0) (pv 6) (xB yD)) (uG (yM aXY (yV xD (pv 4) yG) yG)))) (yF (yU (i:=3) (yL yK (pv 6) (yV xD (pv 5) (yR yN rfl T.b_len xG (yA (pv 6) yD)))))) yS) (yC (yU (i:=7) (yV uF (yV xD (yV zT (pv 4) (pv 2)) (yV zT (yR yN rfl T.b_len xG (yA (pv 0) yD)) yG)) (zG uC rfl a6 qC (yA (wL zR (yV xD (pv 4) yG) yG) yD)))) (yC (yU (i:=8) (xB yD)) (yC (wT cXo rfl (zY rfl T.b_range (yA (yR yN rfl T.b_len xG (yA (pv 0) yD)) yD)) (xI (i:=9)) (yF (xA (PW.pt (jE (zA (xU M hr rfl (yA (pv 0) (yA (pv 3) yD)))) (uG (yM J7 (yL yK (yL yK (pv 0) (pv 9)) yG) (yL yK (yL yK (pv 0) (pv 3)) yG))))) (yC (yU (i:=10) (yL yK (pv 0) (pv 9))) (yF (xA (PW.pt (jE (yM zR (yL yK (pv 10) yG) (yL yK (yL yK (pv 0) (pv 3)) yG)) (uG (yM bQA (yL yK (pv 10) yG) (yL yK (yL yK (pv 0) (pv 3)) yG))))) (yF (yZ (jC cQ3 cXc cXd xR (pv 8) (yA (pv 9) yD)))) yS))) yS))) (yC (xA (PW.pt (jE (yM (jM hr.units0) (pv 8) (xB yD)) (uG (yM aXY (yV xD (pv 4) yG) yG)))) (yF (yU (i:=7) (yL yK (pv 8) (yV xD (yV zT (yV aQg (pv 4) yG) (pv 2)) (yR yN rfl T.b_len xG (yA (pv 8) yD)))))) yS) (yF (yP (xK (yA yQ (yA (pv 3) (yA (pv 7) yD)))))))))))))),?_⟩;have hl:(rs.map V.ref).length=R.length:=by rw[cQB];exact hB.len
 have S:(0:Int)<((ns.map V.int).length:Nat):=by rw[cQB];have:=cXM.mpr a3;omega
 obtain⟨g,X⟩:=Q7 a3 ((k:Nat)+1);obtain⟨N,a8⟩:=Q7 a3 ((k:Nat)+2);refine⟨_,rfl,_,rfl,_,_,rfl,rfl,_,rfl,Z,_,rfl,.inl (SqL.of hc),_,_,rfl,rfl,S,Z,_,_,_,rfl,rfl,SqL.of hc,X,?_⟩;dsimp only[yW];refine⟨_,rfl,_,rfl,_,_,rfl,rfl,_,rfl,Z,_,rfl,.inl (SqL.of hc),_,_,rfl,rfl,S,Z,_,_,_,rfl,rfl,SqL.of hc,a8,?_⟩;dsimp only[yW];refine⟨_,rfl,v,_,rfl,.inl (SqL.of hB.lst),?_⟩;rw[hl];refine⟨_,rfl,by omega,by omega,λD hD=>?_⟩;rw[cQ6];refine W6 (λj=>decide (zV (Bk.lk R j)=V.non)) (λk=>V.int (k:Nat)) hD (by rw[cQZ];omega) (λj hj W R' hH L=>?_) (λk hk _ W R' hH L=>⟨_,rfl,L⟩) ?_
 ·have J:=cQw hj;obtain⟨b,g1,g2,cp,g3,g4⟩:=hB.get J;have b0:W v=some (.lst (rs.map V.ref)):=by rw[hH v (yI hB.lst hD)];exact hB.lst
  have hb:W b=_:=(hH b (yI g3 hD)).trans g3;rw[Bk.uL J]at L;exact⟨_,rfl,_,rfl,v,_,_,_,rfl,rfl,SqL.of b0,yT g1,b,_,4,_,rfl,rfl,SqL.of hb,rfl,rfl,_,rfl,L⟩
 generalize b3:(cQJ R.length).filter (λj=>decide (zV (Bk.lk R j)=V.non))=free;have k1:=yE hD (.lst (free.map λi=>V.int (i:Nat)));have a2:upd H D (.lst (free.map λi=>V.int (i:Nat))) D=some (.lst (free.map λi=>V.int (i:Nat))):=yB;generalize upd H D (.lst (free.map λi=>V.int (i:Nat)))=H1 at k1 a2 ⊢;dsimp only[yW];refine zU (λG W=>∃m':Int,G= [some (.ref v),some (.ref Z),some (.int (k:Nat)),some (.int m'),some (.int g),some (.int N),some (.ref D),none,none,none,none]/\xJ H W) ?X8 (λd=>?_);case X8=>
  rintro G H2 ⟨m',rfl,k2⟩;have a7:=hB.same k2;refine⟨_,rfl,_,rfl,_,_,rfl,rfl,_,rfl,v,_,rfl,.inl (SqL.of a7.lst),_,_,rfl,rfl,_,_,rfl,rfl,(show(0:Int)<(((rs.map V.ref).length:Nat):Int)+1 by omega),_,rfl,_,_,rfl,rfl,(show(0:Int)<11 by decide),rfl,.inr ⟨_,rfl,_,_,rfl,rfl,?_⟩⟩;dsimp only[yW];refine⟨z0,λU a4=>?_⟩;dsimp only[yW];refine⟨_,rfl,v,_,rfl,.inl (SqL.of ((yE a4 (.lst [])) _ _ a7.lst)),?_⟩;rw[hl];refine⟨_,rfl,by omega,by omega,?_⟩;rw[cQ6];have a9:H U=none:=k2.fresh a4;generalize ((g+(k:Nat)) % ((R.length:Nat)+1) - if decide (V.int (g % 11)=V.int 5)=true then 1 else 0)=goal;refine vO (λt σ H3=>∃ (a:List Nat)(o9 O:Option V),σ= [some (.ref v),some (.ref Z),some (.int (k:Nat)),some (.int m'),some (.int g),some (.int N),some (.ref D),some (.int goal),some (.ref U),o9,O]/\xJ H H3/\H3 U=some (.lst (a.map λi=>V.int (i:Nat)))/\a.length<=t) ?_ ?_ ?_
  ·exact⟨[],none,none,rfl,k2.trans (yE a4 _),yB,cQE _⟩
  ·rintro j σ H3 hj ⟨a,o9,O,rfl,I,n,a5⟩;rw[cZX];dsimp only[yW];have u:=hB.same I;have J:=cQw hj;obtain⟨bj,j1,j2,cj,j3,j4⟩:=u.get J;refine⟨_,rfl,_,rfl,v,rs,R,m',rfl,u,_,rfl,?_⟩;cases h1:Bk.vK R m' with
   |false=>exact onF rfl (onF rfl ⟨a,_,_,rfl,I,n,by omega⟩)
   |true=>
   obtain⟨i,r,rfl,b1,hi,hv⟩:=Bk.vL h1;obtain⟨b,g1,g2,cp,g3,g4⟩:=u.get hi;refine onT rfl ⟨_,rfl,_,rfl,v,_,_,_,rfl,rfl,SqL.of u.lst,yT j1,bj,_,0,_,rfl,rfl,SqL.of j3,rfl,_,rfl,_,rfl,v,_,_,_,rfl,rfl,SqL.of u.lst,yT g1,b,_,0,_,rfl,rfl,SqL.of g3,rfl,rfl,_,rfl,?_⟩;refine X2 (λc1=>?_) (λc1=>?_)
   ·refine⟨_,rfl,_,rfl,v,_,_,_,rfl,rfl,SqL.of u.lst,yT j1,?_⟩;dsimp only[yW];refine⟨_,rfl,bj,_,2,_,rfl,rfl,SqL.of j3,rfl,_,rfl,_,rfl,v,_,_,_,rfl,rfl,SqL.of u.lst,yT g1,b,_,2,_,rfl,rfl,SqL.of g3,rfl,rfl,_,rfl,?_⟩;rw[vY];cases h2:decide (R[j].partner=r.partner)with
    |false=>exact onF rfl (onF rfl ⟨a,_,_,rfl,I,n,by omega⟩)
    |true=>
    refine onT rfl ⟨_,rfl,bj,_,1,_,rfl,rfl,SqL.of j3,rfl,_,rfl,_,rfl,v,_,_,_,rfl,rfl,SqL.of u.lst,yT g1,b,_,1,_,rfl,rfl,SqL.of g3,rfl,_,_,rfl,rfl,_,rfl,?_⟩;refine X2 (λc2=>?_) (λc2=>?_)
    ·refine⟨_,rfl,.inl ⟨rfl,_,SqL.of n⟩,_,rfl,U,_,_,rfl,rfl,n,zlt (by rw[cQB];omega),?_⟩;have e5:(a.map λi=>V.int (i:Nat))++ [V.int (j:Nat)]=(a++ [j]).map λi=>V.int (i:Nat):=by simp
     rw[e5];refine⟨a++ [j],_,_,rfl,λx o e=>?_,yB,by rw[cQ0];simp;omega⟩;rw[yJ (λz=>by rw[z,a9]at e;cases e)];exact I _ _ e
    ·exact⟨a,_,_,rfl,I,n,by omega⟩
   ·exact⟨a,_,_,rfl,I,n,by omega⟩
  ·rintro σ H3 ⟨a,o9,O,rfl,I,n,a5⟩;dsimp only[aV8];refine zU (λG W=>∃Y:Int,G= [some (.ref v),some (.ref Z),some (.int (k:Nat)),some (.int m'),some (.int g),some (.int N),some (.ref D),some (.int Y),some (.ref U),o9,O]/\xJ H W) ?rest2 (λd=>?_);case rest2=>
    rintro G H4 ⟨Y,rfl,k4⟩;refine⟨_,rfl,_,rfl,z3,λp hp=>?_⟩;exact q _ _ (k4.trans (yE hp _)) ⟨p,.hang m' Y,rfl,yB,⟨trivial,trivial⟩⟩
   refine⟨_,rfl,z0,λpn B=>⟨U,pn,_,rfl,rfl,SqL.of ((yE B (.lst [])) _ _ n),SqL.of yB,_,rfl,?_⟩⟩;have y:=yE B (.lst []);generalize upd H3 pn (.lst [])=H4 at y ⊢;by_cases l:a= []
   ·subst l;exact onF rfl (onF rfl (d _ _ ⟨goal,rfl,I.trans y⟩))
   refine onT (by cases a with|nil=>exact absurd rfl l|cons=>rfl) ⟨_,rfl,_,_,rfl,rfl,(show(0:Int)<7 by decide),_,_,rfl,rfl,_,rfl,?_⟩;refine X2 (λc=>?_) (λc=>d _ _ ⟨goal,rfl,I.trans y⟩);obtain⟨Y,a1⟩:=aJ9 l (g / 7+(k:Nat));have C:=y _ _ n;have a0:(0:Int)<((a.map λi=>V.int (i:Nat)).length:Nat):=by rw[cQB];have:=cXM.mpr l;omega
   refine⟨_,rfl,_,rfl,_,_,rfl,rfl,⟨by decide,by decide⟩,_,rfl,_,_,rfl,rfl,_,rfl,U,_,rfl,.inl (SqL.of C),_,_,rfl,rfl,a0,U,_,_,_,rfl,rfl,SqL.of C,a1,?_⟩;dsimp only[yW];exact d _ _ ⟨Y,rfl,I.trans y⟩
 refine⟨_,rfl,z0,λpn B=>⟨D,pn,_,rfl,rfl,SqL.of ((yE B (.lst [])) _ _ a2),SqL.of yB,_,rfl,?_⟩⟩;have y:=yE B (.lst []);generalize upd H1 pn (.lst [])=H4 at y ⊢;by_cases l:free= []
 ·subst l;exact onF rfl (onF rfl (d _ _ ⟨m,rfl,k1.trans y⟩))
 refine onT (by cases free with|nil=>exact absurd rfl l|cons=>rfl) ⟨_,rfl,_,_,rfl,rfl,(show(0:Int)<5 by decide),_,_,rfl,rfl,_,rfl,?_⟩;refine X2 (λc=>?_) (λc=>d _ _ ⟨m,rfl,k1.trans y⟩);obtain⟨Y,a1⟩:=aJ9 l N;have C:=y _ _ a2;have a0:(0:Int)<((free.map λi=>V.int (i:Nat)).length:Nat):=by rw[cQB];have:=cXM.mpr l;omega
 refine⟨_,rfl,_,rfl,_,rfl,D,_,rfl,.inl (SqL.of C),_,_,rfl,rfl,a0,D,_,_,_,rfl,rfl,SqL.of C,a1,?_⟩;dsimp only[yW];exact d _ _ ⟨Y,rfl,k1.trans y⟩
end
end Law
namespace Law
open PySem L2 PyProof.Rows
open Bk (Row Rows xZ xV Ans)
open Desk (xP uA qB Wf Up Run zM wH)
def qO{o c:List Nat}{H b:Hp}{a:Ans}{v:V}(h:uA o H a v)(k:∀p u,p∉o->H p=some u->p∉c/\b p=some u):uA c b a v:=by
 cases a with
 |num n=>exact h
 |txt x=>exact h
 |nums l=>obtain⟨p,e,n,q⟩:=h;exact⟨p,e,k p _ n q⟩
 |txts l=>obtain⟨p,e,n,q⟩:=h;exact⟨p,e,k p _ n q⟩
 |row r=>obtain⟨p,e,n,q⟩:=h;exact⟨p,e,k p _ n q⟩
structure Mid(H0:Hp)(ra sa ds us:Nat)(es:List xV)(das:List Nat)(i:Nat)(H:Hp):Prop where
 ne:ds≠us
 wf:∀e∈es,Wd e
 len:das.length=es.length
 at_:∀ (j:Nat)(d:Nat)(e:xV),das[j]? =some d->es[j]? =some e->H d=some (.tup (xP e))
 ex:∃ (rs:List Nat)(as:List Ans)(vs:List V),LGo H0 ra sa (es.take i) as H rs/\aW6 H0 ra sa H rs ds (das.map V.ref)/\aW6 H0 ra sa H rs us vs/\cXn (λv a=>uA (us::ds::sa::ra::rs) H a v) vs as
def Mid.same{h H f:Hp}{l sa ds us:Nat}{c:List xV}{b:List Nat}{i:Nat}(m:Mid h l sa ds us c b i H)(k:xJ H f):Mid h l sa ds us c b i f:=by
 obtain⟨o,s,x,g,t,r,p⟩:=m.ex;exact⟨m.ne,m.wf,m.len,λj d e w q=>k _ _ (m.at_ j d e w q),o,s,x,g.same k,t.same g.dom k,r.same g.dom k,wH (λv a z=>qO z λp u n e=>⟨n,k _ _ e⟩) p⟩
def Mid.keep{b H:Hp}{c sa ds us:Nat}{d:List xV}{a:List Nat}{i:Nat}(m:Mid b c sa ds us d a i H):xJ b H:=let ⟨rs,as,vs,g,_⟩:=m.ex;g.keep
def Mid.push{t H:Hp}{A sa ds us:Nat}{f:List xV}{b:List Nat}{i:Nat}(m:Mid t A sa ds us f b i H)(s:i=f.length){d:Nat}{e:xV}(D:H d=some (.tup (xP e)))(hw:Wd e):Mid t A sa ds us (f++ [e]) (b++ [d]) i (upd H ds (.lst ((b++ [d]).map V.ref))):=by
 obtain⟨B,E,F,g,q,C,p⟩:=m.ex;have w:=g.write q ((b++ [d]).map V.ref);have tk:∀ {x ys},H x=some (.tup ys)->upd H ds (.lst ((b++ [d]).map V.ref)) x=some (.tup ys):=λ{x ys} h=>by rw[yJ (λz=>by rw[z,q.at_]at h;cases h)];exact h
 refine⟨m.ne,λx k=>?_,by simp[m.len],λj x y l c=>?_,B,E,F,?_,w.2,C.write (cXg m.ne) q.nb _,wH (λv a z=>qO z λp u n h=>⟨n,?_⟩) p⟩
 ·rcases cQ4.mp k with k|k
  ·exact m.wf x k
  ·rw[cQL.mp k];exact hw
 ·by_cases r:j<f.length
  ·rw[cXh (by rw[m.len];exact r)]at l;rw[cXh r]at c;exact tk (m.at_ j x y l c)
  ·have o:j=f.length:=by
    have:=(cQK.mp c).1;simp at this;omega
   subst o;rw[cQX (by rw[m.len];exact cQE _),m.len,cXV]at l;rw[cQX (cQE _),cXV]at c;cases l;cases c;exact tk D
 ·rw[s,List.take_left' rfl];have:=w.1;rw[s,cXs]at this;exact this
 ·rw[yJ (λz=>n (by rw[z];exact cQI _ cQM))];exact h
def Mid.next{P H:Hp}{f sa ds us:Nat}{o:List xV}{c:List Nat}{i:Nat}(m:Mid P f sa ds us o c i H)(hz:i<60){d:Nat}{e:xV}(hd:c[i]? =some d)(E:o[i]? =some e){Q:VK} (q:∀ (v:V)(k:Hp)(vs:List V),H us=some (.lst vs)->k us=some (.lst vs)->vs.length=i->Mid P f sa ds us o c (i+1) (upd k us (.lst (vs++ [v])))->Q v k):aZg [.ref f,.ref sa,.ref d] H Q E0:=by
 obtain⟨N,as,vs,g,O,J,p⟩:=m.ex;have Y:i<o.length:=(cQK.mp E).1;have t:(o.take i).length=i:=by rw[cXH];omega
 have K:vs.length=i:=by obtain⟨R,S,_,_,_,hr⟩:=g.ex;rw[cZE p,<- hr.len,t]
 have hw:Wf e:=(m.wf e (cQP E)).1;refine g.step hw (by rw[t];exact hz) (m.at_ i d e hd E) λa v k b g2 C B U=>?_;have t1:=O.step C;have D:=J.step C;refine q v k vs J.at_ D.at_ K ?_;have w:=g2.write D (vs++ [v]);obtain⟨R,S,I,_⟩:=g.ex;have tk:∀ {x ys},H x=some (.tup ys)->upd k us (.lst (vs++ [v])) x=some (.tup ys):=λ{x ys} h=>by
  have F:x≠sa:=λz=>by rw[z,I.shut]at h;cases h
  have G:x≠f:=λz=>by rw[z,I.book.lst]at h;cases h
  have s:=C.1 x _ F G (I.book.tupNo h) h;rw[yJ (λz=>by rw[z,D.at_]at s;cases s)];exact s
 have o2:∀p u,p∉us::ds::sa::f::N->H p=some u->p∉us::ds::sa::f::b/\upd k us (.lst (vs++ [v])) p=some u:=λp u n h=>by
  have F:p≠us:=λz=>n (by rw[z];exact cQM);have G:p≠ds:=λz=>n (by rw[z];simp);have X:p≠sa:=λz=>n (by rw[z];simp);have W:p≠f:=λz=>n (by rw[z];simp);have T:p∉N:=λz=>n (by simp[z]);refine⟨λz=>?_,by rw[yJ F];exact C.1 p u X W T h⟩;simp only[cQG,F,G,X,W,false_or]at z;rcases C.2.1 p z with y|y
  ·exact T y
  ·rw[h]at y;cases y
 have Z:o.take (i+1)=o.take i++ [e]:=by rw[cXx,E];rfl
 refine⟨m.ne,m.wf,m.len,λj x y h1 s=>tk (m.at_ j x y h1 s),b,as++ [a],vs++ [v],by rw[Z];exact w.1,t1.write m.ne D.nb _,w.2,?_⟩;refine cVj (wH (λv a z=>qO z o2) p) ?_;have A:∀x,v= .ref x->x≠us:=λx ex z=>U x ex (.lst vs) (by intro _ y;cases y) (by rw[z];exact J.at_);have M:∀x,v= .ref x->x≠ds:=λx ex z=>U x ex (.lst (c.map V.ref)) (by intro _ y;cases y) (by rw[z];exact O.at_);have L:∀x u,v= .ref x->x∉sa::f::b->k x=some u->x∉us::ds::sa::f::b/\upd k us (.lst (vs++ [v])) x=some u:=λx u ex n h=>
  ⟨λz=>(cQG.mp z).elim (A x ex) λz=>(cQG.mp z).elim (M x ex) n,by rw[yJ (A x ex)];exact h⟩
 cases a with
 |num n=>exact B
 |txt x=>exact B
 |nums l=>obtain⟨x,ex,n,h⟩:=B;exact⟨x,ex,L x _ ex n h⟩
 |txts l=>obtain⟨x,ex,n,h⟩:=B;exact⟨x,ex,L x _ ex n h⟩
 |row r=>obtain⟨x,ex,n,h⟩:=B;exact⟨x,ex,L x _ ex n h⟩
end Law
namespace Law
open PySem L2 PyProof.Rows
open Bk (Row Rows xZ xV Ans)
open Desk (xP uA qB Wf vU stV)
def aYV{K:cQz}{x i:V}{H:Hp}{Q:VK}{a:Nat}{xs:List V}{j:Int}(e:x= .ref a)(d:i= .int j)(c:SqL K H a xs)(h0:0<=j)(f:j<(xs.length:Nat))(q:∀v∈xs,Q v H):bKg K x i H Q:=by
 obtain⟨k,rfl⟩:∃k:Nat,j=(k:Int):=⟨j.toNat,by omega⟩;have b:k<xs.length:=by omega
 exact⟨a,xs,_,_,e,d,c,yT (cQw b),q _ (cZk b)⟩
def Y9{K:cQz}{x i:V}{H:Hp}{Q:VK}{a:Nat}{xs:List V}{j:Int}(f:x= .ref a)(d:i= .int j)(b:SqL K H a xs)(h0:0<=j)(c:j<(xs.length:Nat))(e:∀v∈xs,∃n,v= .int n)(q:∀n,V.int n∈xs->Q (.int n) H):bKg K x i H Q:=
 aYV f d b h0 c λv m=>by obtain⟨n,rfl⟩:=e v m;exact q n m
def aQ5{K:cQz}{x i:V}{H:Hp}{Q:VK}{a:Nat}{xs:List V}{j:Int}(f:x= .ref a)(d:i= .int j)(b:SqL K H a xs)(h0:0<=j)(c:j<(xs.length:Nat))(e:∀v∈xs,∃n,v= .str n)(q:∀n,V.str n∈xs->Q (.str n) H):bKg K x i H Q:=
 aYV f d b h0 c λv m=>by obtain⟨n,rfl⟩:=e v m;exact q n m
def b0{b:Bool}:(0:Int)<=(if b=true then 1 else 0):=by split<;> decide
def b1{b:Bool}:(if b=true then(1:Int)else 0)<2:=by split<;> decide
def md0{x n:Int}(h:0<n):0<=x % n:=Int.emod_nonneg x (by omega)
def md1{x n:Int}(h:0<n):x % n<n:=Int.emod_lt_of_pos x h
structure Y6(H0 H:Hp)(ma:Nat)(n:Nat):Prop where
 k:xJ H0 H
 new:H0 ma=none
 ex:∃vs,H ma=some (.lst vs)/\vs.length=n/\∀v∈vs,uN H v
def Y6.same{e H d:Hp}{f:Nat}{n:Nat}(m:Y6 e H f n)(k:xJ H d):Y6 e d f n:=
 ⟨m.k.trans k,m.new,let ⟨vs,a,b,c⟩:=m.ex;⟨vs,k _ _ a,b,λv g=>(c v g).same k⟩⟩
def Y6.push{j H:Hp}{d:Nat}{n:Nat}(m:Y6 j H d n){vs:List V}(e:H d=some (.lst vs)){v:V}(l:uN H v):Y6 j (upd H d (.lst (vs++ [v]))) d (n+1):=by
 obtain⟨k,f,r,a,b,c⟩:=m;rw[e]at a;cases a;have q:∀v,uN H v->uN (upd H d (.lst (vs++ [v]))) v:=λv ⟨p,e',h1,h2,h3⟩=>⟨p,e',h1,by rw[yJ (λz=>by rw[z,e]at h2;cases h2)];exact h2,h3⟩;have g:∀v x,uN H v->uN (upd H d x) v:=λv x ⟨p,e',h1,h2,h3⟩=>⟨p,e',h1,by rw[yJ (λz=>by rw[z,e]at h2;cases h2)];exact h2,h3⟩;refine⟨λx o h=>by rw[yJ (λz=>by rw[z,f]at h;cases h)];exact k _ _ h,f,_,yB,by simp[b],λu i=>?_⟩;rcases cQ4.mp i with i|i
 ·exact g _ _ (c u i)
 ·rw[cQL.mp i];exact g _ _ l
def bJB{v:V}{i:Nat}{u:TS}{D:aYo}{σ:L2.St}{H:Hp}(h:u D (σ.set i (some v)) H):bYz (bYx (tC v) (yW i)) u D σ H:=h
abbrev aWC:Stmt:=xM "_law_about"
def bXt:Sp:=λf H Q _=>∃ (b c:Nat)(e:List Nat)(R:Rows)(d:List Int)(k:Nat)(m turn:Int),f= [.ref b,.ref c,.int (k:Nat),.int m,.int turn]/\xF H b e R/\R.length<=60/\H c=some (.lst (d.map V.int))/\k<d.length/\15<=turn/\turn<24/\
 ∀ (a:Hp)(v:V),xJ H a->uN a v->Q v a
section
variable {K:cQz}
def bJf:yO ["_law_rows","_law_cells","_law_k","_law_number","_law_turn","_law_near","_law_far","_law_base","_law_tied","_law_name","_law_way","_law_further","_law_menu","_law_stop","_law_asks"] ["_law_rows","_law_cells","_law_k","_law_number","_law_turn"] (yH aWC):=scM
def bZo:xO ["_law_rows","_law_cells","_law_k","_law_number","_law_turn","_law_near","_law_far","_law_base","_law_tied","_law_name","_law_way","_law_further","_law_menu","_law_stop","_law_asks"] (yH aWC) "_law_j" ["_law_rows"] [0] (lsN [(".0",.local),("_law_j",.local),("_law_rows",.free)]):=
 lcM
seal PE PA PS PSs PT in
def bZD(T:uJ mg)(X:mg "int"=none)(J:FnG P w K mg base 1 "_law_good" ["_law_rows","_law_number"] aQH)(F:Fun K "_law_about" "_law_about" aWC f fd):xL P w K mg base CX0 2 f fd ["_law_rows","_law_cells","_law_k","_law_number","_law_turn"] bXt:=by
 have sc:=bJf;refine F.ok (k:=1) sc (λj2 A outer s H vs Q E hr h=>?_);obtain⟨W,U,rs,R,ns,k,m,turn,rfl,hB,hR,hc,a8,i8,j5,q⟩:=h;refine⟨_,(yC (yU (i:=5) (yL yK (pv 1) (yV xD (yV zT (pv 2) yG) (yR yN rfl T.b_len xG (yA (pv 1) yD))))) (yC (yU (i:=6) (yL yK (pv 1) (yV xD (yV zT (pv 2) yG) (yR yN rfl T.b_len xG (yA (pv 1) yD))))) (yC (yU (i:=7) yG) (yC (xA (zA (xU J hr rfl (yA (pv 0) (yA (pv 3) yD)))) (yF (yU (i:=7) (yL yK (yL yK (pv 0) (pv 3)) yG))) yS) (yC (aXZ (i:=8) bZo rfl sc.nd rfl rfl (zY rfl T.b_range (yA (yR yN rfl T.b_len xG (yA (pv 0) yD)) yD)) (λ_ _ _ _ _=>(vA (yM wZ (yL ixK (yL ixK (pv 1) (pv 0)) yG) zL))) (λ_ _ _ _ _=>(pv 0))) (yC (xA (PW.pt (jE (yM zR (pv 4) yG) (jE (yM (jM hr.units0) (pv 8) (xB yD)) (uG (yM aXY (yV xD (pv 5) yG) yG))))) (yF (yU (i:=3) (yL yK (pv 8) (yV xD (pv 6) (yR yN rfl T.b_len xG (yA (pv 8) yD)))))) yS) (yC (yU (i:=9) (yL yK (xB (yA yQ (yA yQ (yA yQ (yA yQ (yA yQ (yA (yV bQB yQ yG) yD))))))) (yV xD (pv 5) (yL yK (xB (yA yG (yA yG yD))) (yV xD (yL yK (pv 1) (pv 2)) yG))))) (yC (yU (i:=10) (zG uC rfl X qC (yA (wL zR (yV xD (yL yK (pv 1) (pv 2)) yG) yG) yD))) (yC (yU (i:=11) (yV uF (yV zT (pv 7) (yV xD (pv 5) (yL yK (xB (yA yG (yA yG yD))) (pv 10)))) (yL yK (xB (yA yG (yA yG yD))) (pv 10)))) (yC (yU (i:=12) (xB (yA (xK (yA yQ (yA (pv 3) yD))) (yA (xK (yA yQ (yA (pv 3) (yA (pv 11) yD)))) yD)))) (yC (yZ (jC cQ3 cXc cXd xR (pv 12) (yA (xK (yA yQ (yA (pv 3) (yA (yL yK (xB (yA yG (yA yG (yA yG (yA yG (yA (bQH aJ2 yG) yD)))))) (yV xD (pv 5) yG)) yD)))) yD))) (yC (yZ (jC cQ3 cXc cXd xR (pv 12) (yA (xK (yA yQ (yA (pv 3) (yA (yL yK (xB (yA yQ (yA yQ (yA yQ (yA yQ (yA yQ (yA (yV aZB yQ yG) yD))))))) (yV xD (pv 5) yG)) yD)))) yD))) (yC (yU (i:=13) (yL yK (xB (yA (yV uF (yV xD (pv 5) yG) yG) (yA (yV zT (pv 7) (yV xD (pv 5) yG)) yD))) (zG uC rfl X qC (yA (wL zR (yV xD (pv 6) yG) yG) yD)))) (yC (yU (i:=12) (yV aX8 (pv 12) (xB (yA (xK (yA yQ (yA (pv 3) (yA (pv 9) yD)))) (yA (xK (yA yQ (yA (pv 3) yD))) (yA (xK (yA yQ (yA (pv 13) yD))) yD)))))) (yC (yU (i:=14) (xB (yA (xK (yA yQ (yA (pv 3) yD))) (yA (xK (yA yQ (yA (pv 3) yD))) (yA (xK (yA yQ (yA (yV uF (yV xD (pv 6) yG) yG) yD))) yD))))) (yC (yU (i:=14) (yV aX8 (pv 14) (xB (yA (xK (yA yQ (yA (pv 9) yD))) (yA (xK (yA yQ (yA (yV uF (yV xD (pv 6) yG) yG) yD))) (yA (xK (yA yQ (yA (pv 3) yD))) yD)))))) (yC (xA (yM uM (pv 4) yG) (yF (yP (yL yK (pv 12) (yV uF (pv 4) yG)))) yS) (yF (yP (yL yK (pv 14) (yV xD (yV zT (yV aQg (pv 5) yG) (pv 4)) yG))))))))))))))))))))),?_⟩;have b6:ns≠ []:=λz=>by rw[z]at a8;simp at a8
 have hl:(rs.map V.ref).length=R.length:=by rw[cQB];exact hB.len
 have S:(0:Int)<((ns.map V.int).length:Nat):=by rw[cQB];have:=cXM.mpr b6;omega
 have d8:(ns.map V.int)[k]? =some (.int ns[k]):=by rw[cQR,cQw a8];rfl
 obtain⟨d,a6⟩:=Q7 b6 ((k:Nat)+1);obtain⟨l,e0⟩:=Q7 b6 ((k:Nat)+2);refine⟨_,rfl,_,rfl,_,_,rfl,rfl,_,rfl,U,_,rfl,.inl (SqL.of hc),_,_,rfl,rfl,S,U,_,_,_,rfl,rfl,SqL.of hc,a6,?_⟩;dsimp only[yW];refine⟨_,rfl,_,rfl,_,_,rfl,rfl,_,rfl,U,_,rfl,.inl (SqL.of hc),_,_,rfl,rfl,S,U,_,_,_,rfl,rfl,SqL.of hc,e0,?_⟩;dsimp only[yW];refine bJB ?_;refine zU (λp t=>∃bs:Int,p= [some (.ref W),some (.ref U),some (.int (k:Nat)),some (.int m),some (.int turn),some (.int d),some (.int l),some (.int bs),none,none,none,none,none,none,none]/\t=H) ?X8 (λg=>?_);case X8=>
  rintro p t ⟨bs,rfl,rfl⟩;refine⟨_,rfl,W,_,rfl,.inl (SqL.of hB.lst),?_⟩;rw[hl];refine⟨_,rfl,by omega,by omega,λD hD=>?_⟩;rw[cQ6];refine W6 (λj=> !decide (zV (Bk.lk R j)=V.non)) (λk=>V.int (k:Nat)) hD (by rw[cQZ];omega) (λj hj H1 R' hH C=>?_) (λk hk _ t R' hH C=>⟨_,rfl,C⟩) ?_
  ·have c7:=cQw hj;obtain⟨b,Y,g2,cp,o,y⟩:=hB.get c7;have f0:H1 W=some (.lst (rs.map V.ref)):=by rw[hH W (yI hB.lst hD)];exact hB.lst
   have hb:H1 b=_:=(hH b (yI o hD)).trans o;rw[Bk.uL c7]at C;exact⟨_,rfl,_,rfl,W,_,_,_,rfl,rfl,SqL.of f0,yT Y,b,_,4,_,rfl,rfl,SqL.of hb,rfl,rfl,_,rfl,C⟩
  generalize j6:(cQJ R.length).filter (λj=> !decide (zV (Bk.lk R j)=V.non))=free;have k1:=yE hD (.lst (free.map λi=>V.int (i:Nat)));have b4:upd t D (.lst (free.map λi=>V.int (i:Nat))) D=some (.lst (free.map λi=>V.int (i:Nat))):=yB;generalize upd t D (.lst (free.map λi=>V.int (i:Nat)))=H1 at k1 b4 ⊢;dsimp only[yW];refine zU (λp H2=>∃m:Int,p= [some (.ref W),some (.ref U),some (.int (k:Nat)),some (.int m),some (.int turn),some (.int d),some (.int l),some (.int bs),some (.ref D),none,none,none,none,none,none]/\xJ t H2) ?rest2 (λg=>?_);case rest2=>
   rintro p H2 ⟨m,rfl,k2⟩;refine⟨_,_,rfl,rfl,by decide,by decide,by decide,zn (by show 6<=100000;omega),λl6 i3=>?_⟩;have e6:=yE i3 (.lst [.str "old",.str "",.str "new",.str "old files",.str "Old, ~",.str (cJ0 "y" 40)]);have h6:upd H2 l6 (.lst [.str "old",.str "",.str "new",.str "old files",.str "Old, ~",.str (cJ0 "y" 40)]) l6=some (.lst [.str "old",.str "",.str "new",.str "old files",.str "Old, ~",.str (cJ0 "y" 40)]):=yB;generalize upd H2 l6 (.lst [.str "old",.str "",.str "new",.str "old files",.str "Old, ~",.str (cJ0 "y" 40)])=H3 at e6 h6 ⊢;refine⟨_,rfl,z2,λl2 h5=>?_⟩;have e7:=yE h5 (.lst [.int 3,.int 6]);have h7:upd H3 l2 (.lst [.int 3,.int 6]) l2=some (.lst [.int 3,.int 6]):=yB;have d2:=e7 _ _ h6;have k4:=(k2.trans e6).trans e7;generalize upd H3 l2 (.lst [.int 3,.int 6])=H4 at e7 h7 d2 k4 ⊢;have d0:=k4 _ _ hc;refine⟨_,rfl,_,rfl,U,_,_,_,rfl,rfl,SqL.of d0,yT d8,_,_,rfl,rfl,(show(0:Int)<2 by decide),?_⟩;refine Y9 rfl rfl (SqL.of h7) (md0 (by decide)) (md1 (by decide)) (by simp) λj hj=>?_;have i7:j=3\/j=6:=by simpa using hj
   refine⟨_,_,rfl,rfl,(show(0:Int)<j by omega),?_⟩;refine aQ5 rfl rfl (SqL.of d2) (md0 (by omega)) (Int.lt_of_lt_of_le (md1 (by omega)) (show j<=6 by omega)) (by simp) λe f7=>?_;have a9:e∈wO:=by simpa[wO]using f7
   dsimp only[yW];refine⟨_,rfl,_,rfl,U,_,_,_,rfl,rfl,SqL.of d0,yT d8,_,_,rfl,rfl,(show(0:Int)<11 by decide),rfl,.inr ⟨_,rfl,?_⟩⟩;generalize i6:decide (V.int (ns[k] % 11)=V.int 4)=wb;dsimp only[yW];refine⟨_,rfl,_,rfl,z2,λl9 g0=>⟨_,rfl,?_⟩⟩;have e9:=yE g0 (.lst [.int 9,.int 3001]);refine Y9 rfl rfl (SqL.of yB) b0 b1 (by simp) λj hj=>?_;have i9:j=9\/j=3001:=by simpa using hj
   refine⟨_,_,rfl,rfl,(show(0:Int)<j by omega),_,_,rfl,rfl,z2,λl4 g8=>⟨_,rfl,?_⟩⟩;have B:=(k4.trans e9).trans (yE g8 (.lst [.int 4,.int 1500]));refine Y9 rfl rfl (SqL.of yB) b0 b1 (by simp) λj4 _=>?_;refine⟨_,_,rfl,rfl,?_⟩;generalize upd (upd H4 l9 (.lst [.int 9,.int 3001])) l4 (.lst [.int 4,.int 1500])=H5 at B ⊢;dsimp only[yW];refine⟨_,rfl,z2,λp1 h4=>⟨_,rfl,_,rfl,z3,λp2 b2=>⟨z2,λZ c0=>?_⟩⟩⟩;have M1:Y6 t (upd (upd (upd H5 p1 (.tup [.str "loose",.int m])) p2 (.tup [.str "date",.int m,.int (bs+d % j - j4)])) Z (.lst [.ref p1,.ref p2])) Z 2:=by
    have a1:=yE h4 (.tup [.str "loose",.int m]);have a2:=yE b2 (.tup [.str "date",.int m,.int (bs+d % j - j4)]);have a3:=yE c0 (.lst [.ref p1,.ref p2]);refine⟨((B.trans a1).trans a2).trans a3,((B.trans a1).trans a2).fresh c0,_,yB,rfl,λv a=>?_⟩;rcases cQG.mp a with rfl|a
    ·exact⟨p1,.loose m,rfl,a3 _ _ (a2 _ _ yB),⟨trivial,trivial⟩⟩
    ·rw[cQL.mp a];exact⟨p2,.date m (bs+d % j - j4),rfl,a3 _ _ yB,⟨trivial,trivial⟩⟩
   generalize upd (upd (upd H5 p1 (.tup [.str "loose",.int m])) p2 (.tup [.str "date",.int m,.int (bs+d % j - j4)])) Z (.lst [.ref p1,.ref p2])=H6 at M1 ⊢;dsimp only[yW];obtain⟨g6,d6, -, -⟩:=M1.ex;refine⟨_,rfl,.inl ⟨rfl,_,SqL.of d6⟩,_,rfl,_,rfl,zn (by show 5<=100000;omega),λl5 h9=>⟨_,rfl,_,_,rfl,rfl,(show(0:Int)<5 by decide),?_⟩⟩;refine Y9 rfl rfl (SqL.of yB) (md0 (by decide)) (md1 (by decide)) (by simp) λtm _=>⟨z3,λp3 h3=>?_⟩;have a5:=(yE h9 (.lst [.int 0,.int 2,.int 6,.int 1,.int (-1)])).trans (yE h3 (.tup [.str "term",.int m,.int tm]));have d5:uN (upd (upd H6 l5 (.lst [.int 0,.int 2,.int 6,.int 1,.int (-1)])) p3 (.tup [.str "term",.int m,.int tm])) (.ref p3):=⟨p3,.term m tm,rfl,yB,⟨trivial,trivial⟩⟩;generalize upd (upd H6 l5 (.lst [.int 0,.int 2,.int 6,.int 1,.int (-1)])) p3 (.tup [.str "term",.int m,.int tm])=H7 at a5 d5 ⊢;have M2:=M1.same a5;have b5:=a5 _ _ d6;refine⟨Z,_,_,rfl,rfl,b5,?_,?_⟩
   ·obtain⟨ws,w1,w2,_⟩:=M2.ex;rw[b5]at w1;cases w1;exact zlt (by omega)
   have M3:=M2.push b5 d5;generalize upd H7 Z (.lst (g6++ [.ref p3]))=H8 at M3 ⊢;obtain⟨i5,b9, -, -⟩:=M3.ex;refine⟨_,rfl,.inl ⟨rfl,_,SqL.of b9⟩,_,rfl,_,_,rfl,rfl,by decide,by decide,by decide,λz4 j1=>⟨zn (by show 6<=100000;omega),λl7 h8=>⟨_,rfl,_,_,rfl,rfl,(show(0:Int)<6 by decide),?_⟩⟩⟩;refine aQ5 rfl rfl (SqL.of yB) (md0 (by decide)) (md1 (by decide)) (by simp) λN _=>⟨z3,λp4 h2=>?_⟩;have a7:=(yE h8 (.lst [.str "ann",.str "cy",.str "bo",.str "",.str "ann lee",.str z4])).trans (yE h2 (.tup [.str "copy",.int m,.str N]));have d7:uN (upd (upd H8 l7 (.lst [.str "ann",.str "cy",.str "bo",.str "",.str "ann lee",.str z4])) p4 (.tup [.str "copy",.int m,.str N])) (.ref p4):=⟨p4,.copy m N,rfl,yB,⟨trivial,trivial⟩⟩;generalize upd (upd H8 l7 (.lst [.str "ann",.str "cy",.str "bo",.str "",.str "ann lee",.str z4])) p4 (.tup [.str "copy",.int m,.str N])=H9 at a7 d7 ⊢;have M4:=M3.same a7;have a4:=a7 _ _ b9;refine⟨Z,_,_,rfl,rfl,a4,?_,?_⟩
   ·obtain⟨ws,w1,w2,_⟩:=M4.ex;rw[a4]at w1;cases w1;exact zlt (by omega)
   have M5:=M4.push a4 d7;generalize upd H9 Z (.lst (i5++ [.ref p4]))=H10 at M5 ⊢;refine⟨_,rfl,_,_,rfl,rfl,(show(0:Int)<24 by decide),_,_,rfl,rfl,_,rfl,_,rfl,_,_,rfl,rfl,(show(0:Int)<12 by decide),_,_,rfl,rfl,z2,λl8 f8=>⟨_,rfl,_,_,rfl,rfl,(show(0:Int)<3 by decide),rfl,.inr ⟨_,rfl,?_⟩⟩⟩;refine Y9 rfl rfl (SqL.of yB) b0 b1 (by simp) λn _=>?_;have M6:=M5.same (yE f8 (.lst [.int (d % 24 - 2),.int (bs+d % 12)]));generalize upd H10 l8 (.lst [.int (d % 24 - 2),.int (bs+d % 12)])=H11 at M6 ⊢;dsimp only[yW];obtain⟨b8,i4,c9,f5⟩:=M6.ex;refine⟨_,rfl,_,rfl,_,rfl,z3,λI e8=>⟨_,rfl,z2,λO f6=>⟨_,rfl,z2,λG g7=>⟨z3,λb7 d9=>?_⟩⟩⟩⟩;have c1:=yE e8 (.tup [.str "file",.int m,.str e]);have c2:=yE f6 (.tup [.str "void",.int m]);have c3:=yE g7 (.tup [.str "shut",.int n]);have c4:=yE d9 (.lst [.ref I,.ref O,.ref G]);refine⟨Z,b7,_,_,rfl,rfl,c4 _ _ (c3 _ _ (c2 _ _ (c1 _ _ i4))),yB,by rw[c9,cQZ];show 7<=16777216;omega,λmb d4=>?_⟩;have c5:=yE d4 (.lst (b8++ [.ref I,.ref O,.ref G]));have M7:Y6 t (upd (upd (upd (upd (upd H11 I (.tup [.str "file",.int m,.str e])) O (.tup [.str "void",.int m])) G (.tup [.str "shut",.int n])) b7 (.lst [.ref I,.ref O,.ref G])) mb (.lst (b8++ [.ref I,.ref O,.ref G]))) mb 7:=by
    have kk:=(((M6.k.trans c1).trans c2).trans c3).trans c4;refine⟨kk.trans c5,kk.fresh d4,_,yB,by rw[cQ0,c9];rfl,λv a=>?_⟩;rcases cQ4.mp a with a|a
    ·exact(f5 v a).same ((((c1.trans c2).trans c3).trans c4).trans c5)
    ·rcases cQG.mp a with rfl|a
     ·exact⟨I,.file m e,rfl,c5 _ _ (c4 _ _ (c3 _ _ (c2 _ _ yB))),⟨trivial,a9⟩⟩
     ·rcases cQG.mp a with rfl|a
      ·exact⟨O,.void m,rfl,c5 _ _ (c4 _ _ (c3 _ _ yB)),⟨trivial,trivial⟩⟩
      ·rw[cQL.mp a];exact⟨G,.shut n,rfl,c5 _ _ (c4 _ _ yB),⟨trivial,trivial⟩⟩
   generalize upd (upd (upd (upd (upd H11 I (.tup [.str "file",.int m,.str e])) O (.tup [.str "void",.int m])) G (.tup [.str "shut",.int n])) b7 (.lst [.ref I,.ref O,.ref G])) mb (.lst (b8++ [.ref I,.ref O,.ref G]))=H12 at M7 ⊢;dsimp only[yW];refine⟨_,rfl,z2,λr1 e4=>⟨_,rfl,z2,λr2 i1=>⟨_,rfl,_,_,rfl,rfl,(show(0:Int)<26 by decide),_,_,rfl,rfl,z2,λr3 e5=>⟨z3,λna d3=>?_⟩⟩⟩⟩;have f1:=yE e4 (.tup [.str "state",.int m]);have f2:=yE i1 (.tup [.str "thread",.int m]);have f3:=yE e5 (.tup [.str "overdue",.int (l % 26 - 1)]);have f4:=yE d3 (.lst [.ref r1,.ref r2,.ref r3]);have M8:=(((M7.same f1).same f2).same f3).same f4;have N1:Y6 t (upd (upd (upd (upd H12 r1 (.tup [.str "state",.int m])) r2 (.tup [.str "thread",.int m])) r3 (.tup [.str "overdue",.int (l % 26 - 1)])) na (.lst [.ref r1,.ref r2,.ref r3])) na 3:=by
    have kk:=((M7.k.trans f1).trans f2).trans f3;refine⟨kk.trans f4,kk.fresh d3,_,yB,rfl,λv a=>?_⟩;rcases cQG.mp a with rfl|a
    ·exact⟨r1,.state m,rfl,f4 _ _ (f3 _ _ (f2 _ _ yB)),⟨trivial,trivial⟩⟩
    ·rcases cQG.mp a with rfl|a
     ·exact⟨r2,.thread m,rfl,f4 _ _ (f3 _ _ yB),⟨trivial,trivial⟩⟩
     ·rw[cQL.mp a];exact⟨r3,.on true (l % 26 - 1),rfl,f4 _ _ yB,⟨trivial,trivial⟩⟩
   generalize upd (upd (upd (upd H12 r1 (.tup [.str "state",.int m])) r2 (.tup [.str "thread",.int m])) r3 (.tup [.str "overdue",.int (l % 26 - 1)])) na (.lst [.ref r1,.ref r2,.ref r3])=H13 at M8 N1 ⊢;dsimp only[yW];obtain⟨b3,e3,e1,f9⟩:=N1.ex;refine⟨_,rfl,_,rfl,z2,λx g9=>⟨_,rfl,_,_,rfl,rfl,(show(0:Int)<26 by decide),_,_,rfl,rfl,z2,λM i2=>⟨_,rfl,z2,λL i0=>⟨z3,λa0 e2=>?_⟩⟩⟩⟩;have Y:=yE g9 (.tup [.str "letters",.str e]);have g2:=yE i2 (.tup [.str "waiting",.int (l % 26 - 1)]);have o:=yE i0 (.tup [.str "copies",.int m]);have y:=yE e2 (.lst [.ref x,.ref M,.ref L]);refine⟨na,a0,_,_,rfl,rfl,y _ _ (o _ _ (g2 _ _ (Y _ _ e3))),yB,by rw[e1,cQZ];show 6<=16777216;omega,λnb c8=>?_⟩;have g5:=yE c8 (.lst (b3++ [.ref x,.ref M,.ref L]));have M9:=((((M8.same Y).same g2).same o).same y).same g5;have N2:Y6 t (upd (upd (upd (upd (upd H13 x (.tup [.str "letters",.str e])) M (.tup [.str "waiting",.int (l % 26 - 1)])) L (.tup [.str "copies",.int m])) a0 (.lst [.ref x,.ref M,.ref L])) nb (.lst (b3++ [.ref x,.ref M,.ref L]))) nb 6:=by
    have kk:=(((M8.k.trans Y).trans g2).trans o).trans y;refine⟨kk.trans g5,kk.fresh c8,_,yB,by rw[cQ0,e1];rfl,λv a=>?_⟩;rcases cQ4.mp a with a|a
    ·exact(f9 v a).same ((((Y.trans g2).trans o).trans y).trans g5)
    ·rcases cQG.mp a with rfl|a
     ·exact⟨x,.letters e,rfl,g5 _ _ (y _ _ (o _ _ (g2 _ _ yB))),⟨trivial,trivial⟩⟩
     ·rcases cQG.mp a with rfl|a
      ·exact⟨M,.on false (l % 26 - 1),rfl,g5 _ _ (y _ _ (o _ _ yB)),⟨trivial,trivial⟩⟩
      ·rw[cQL.mp a];exact⟨L,.copies m,rfl,g5 _ _ (y _ _ yB),⟨trivial,trivial⟩⟩
   generalize upd (upd (upd (upd (upd H13 x (.tup [.str "letters",.str e])) M (.tup [.str "waiting",.int (l % 26 - 1)])) L (.tup [.str "copies",.int m])) a0 (.lst [.ref x,.ref M,.ref L])) nb (.lst (b3++ [.ref x,.ref M,.ref L]))=H14 at M9 N2 ⊢;dsimp only[yW];refine⟨_,rfl,_,_,rfl,rfl,_,rfl,?_⟩;refine X2 (λc=>?_) (λc=>?_)
   ·have c:turn<22:=of_decide_eq_true c;obtain⟨us,u1,u2,u3⟩:=M9.ex;refine⟨_,rfl,_,rfl,_,_,rfl,rfl,?_⟩;exact aYV rfl rfl (SqL.of u1) (by omega) (by rw[u2];show turn - 15<7;omega) λv a=>q _ _ M9.k (u3 v a)
   ·obtain⟨us,u1,u2,u3⟩:=N2.ex;refine⟨_,rfl,_,rfl,_,_,rfl,rfl,⟨by decide,by decide⟩,_,rfl,_,_,rfl,rfl,_,_,rfl,rfl,(show(0:Int)<6 by decide),?_⟩;exact aYV rfl rfl (SqL.of u1) (md0 (by decide)) (by rw[u2];exact md1 (by decide)) λv a=>q _ _ N2.k (u3 v a)
  refine⟨_,rfl,rfl,_,rfl,?_⟩;cases j3:decide (V.int turn=V.int 15)with
  |false=>exact onF rfl (onF rfl (g _ _ ⟨m,rfl,k1⟩))
  |true=>
  refine onT rfl ⟨_,rfl,z0,λpn c6=>⟨D,pn,_,rfl,rfl,SqL.of ((yE c6 (.lst [])) _ _ b4),SqL.of yB,_,rfl,?_⟩⟩;have B:=yE c6 (.lst []);generalize upd H1 pn (.lst [])=H4 at B ⊢;by_cases u:free= []
  ·subst u;exact onF rfl (onF rfl (g _ _ ⟨m,rfl,k1.trans B⟩))
  refine onT (by cases free with|nil=>exact absurd rfl u|cons=>rfl) ⟨_,rfl,_,_,rfl,rfl,(show(0:Int)<4 by decide),_,_,rfl,rfl,_,rfl,?_⟩;refine X2 (λc=>?_) (λc=>g _ _ ⟨m,rfl,k1.trans B⟩);obtain⟨g',h0⟩:=aJ9 u l;have d1:=B _ _ b4;have b2:(0:Int)<((free.map λi=>V.int (i:Nat)).length:Nat):=by rw[cQB];have:=cXM.mpr u;omega
  refine⟨_,rfl,_,rfl,_,rfl,D,_,rfl,.inl (SqL.of d1),_,_,rfl,rfl,b2,D,_,_,_,rfl,rfl,SqL.of d1,h0,?_⟩;dsimp only[yW];exact g _ _ ⟨g',rfl,k1.trans B⟩
 refine⟨_,rfl,_,rfl,W,rs,R,m,rfl,hB,_,rfl,?_⟩;cases h1:Bk.vK R m with
 |false=>exact onF rfl (g _ _ ⟨0,rfl,rfl⟩)
 |true=>
 obtain⟨i,r,rfl,j0,hi,a⟩:=Bk.vL h1;obtain⟨b,Y,g2,cp,o,y⟩:=hB.get hi;refine onT rfl ⟨_,rfl,_,rfl,W,_,_,_,rfl,rfl,SqL.of hB.lst,yT Y,b,_,1,_,rfl,rfl,SqL.of o,rfl,?_⟩;dsimp only[yW];exact g _ _ ⟨r.date,rfl,rfl⟩
end
end Law
namespace Law
open PySem L2 PyProof.Rows
open Bk (Row Rows xZ xV Ans)
open Desk (xP uA qB Wf vU stV)
def bKv:cXj "max"=some (.builtin "max"):=dk
def bVT{c:TT}{t u:TS}{D:aYo}{σ:L2.St}{H:Hp}(I:Bool->Hp->Prop)(h:∀Kk:Bool->Hp->Prop,(∀b a,I b a->Kk b a)->c σ H Kk)(e:∀a,I true a->t D σ a)(d:∀a,I false a->u D σ a):bYy c t u D σ H:=
 h _ λb a i=>by
  cases b with
  |true=>exact onT rfl (e a i)
  |false=>exact onF rfl (d a i)
def bYb{c:TT}{t u r:TS}{D:aYo}{σ:L2.St}{H:Hp}(h:bYy c t u {D with nx:=r D} σ H):bYz (bYy c t u) r D σ H:=h
def p60:(0:Int)<10 ^ (60:Int).toNat:=dk
def c60:bY0 10 60:=⟨by decide,by decide,by decide⟩
abbrev aVN:Stmt:=xM "_law_deed_at"
def aWP:Sp:=λf H Q _=>∃ (b c:Nat)(e:List Nat)(R:Rows)(d:List Int)(k:Nat),f= [.ref b,.ref c,.int (k:Nat)]/\xF H b e R/\R.length<=60/\H c=some (.lst (d.map V.int))/\k<d.length/\
 ∀ (a:Hp)(v:V),xJ H a->uN a v->Q v a
section
variable {K:cQz}
def bXi:yO ["_law_rows","_law_cells","_law_k","_law_near","_law_far","_law_turn","_law_number","_law_term","_law_date","_law_who","_law_twin","_law_base"] ["_law_rows","_law_cells","_law_k"] (yH aVN):=scM
seal PE PA PS PSs PT in
def bQs(T:uJ mg)(Z:mg "int"=none)(b3:mg "max"=none)(U:FnG P w K mg base 2 "_law_good" ["_law_rows","_law_number"] aQH)(o:FnG P w K mg base 2 "_law_hanging" ["_law_rows","_law_cells","_law_k","_law_number"] aJW) (I:FnG P w K mg base 2 "_law_about" ["_law_rows","_law_cells","_law_k","_law_number","_law_turn"] bXt) (F:Fun K "_law_deed_at" "_law_deed_at" aVN f fd):xL P w K mg base CX0 3 f fd ["_law_rows","_law_cells","_law_k"] aWP:=by
 have sc:=bXi;refine F.ok (k:=2) sc (λd0 A outer s H vs Q E hr h=>?_);obtain⟨G,g,rs,R,C,k,rfl,hB,hR,N,S,q⟩:=h;refine⟨_,(yC (yU (i:=3) (yL yK (pv 1) (yV xD (yV zT (pv 2) yG) (yR yN rfl T.b_len xG (yA (pv 1) yD))))) (yC (yU (i:=4) (yL yK (pv 1) (yV xD (yV zT (pv 2) yG) (yR yN rfl T.b_len xG (yA (pv 1) yD))))) (yC (yU (i:=5) (yV xD (yV zT (yL yK (pv 1) (pv 2)) (yV aWs yG (pv 2))) yG)) (yC (yU (i:=6) (yV xD (yV zT (pv 4) (pv 2)) (yR (aYw rfl) rfl b3 bKv (yA yG (yA (yR yN rfl T.b_len xG (yA (pv 0) yD)) yD))))) (yC (xA (yM zR (yV xD (yL yK (pv 1) (pv 2)) yG) yG) (yF (yU (i:=6) (yL yK (xB (yA (bQH aJ2 yG) (yA (yR yN rfl T.b_len xG (yA (pv 0) yD)) (yA (yV aXj yG yG) (yA (yV uF (bQH aJ2 yG) (yV xD (pv 3) (yV aXj yG yG))) (yA (yV zT (yR yN rfl T.b_len xG (yA (pv 0) yD)) (yV xD (pv 3) (yV aXj yG yG))) yD)))))) (yV xD (pv 3) yG)))) yS) (yC (yU (i:=7) (yL yK (xB (yA yG (yA yG (yA yG (yA yG (yA yG (yA yG yD))))))) (yV xD (yV aQg (pv 3) yG) yG))) (yC (xA (yM zR (yV xD (yL yK (pv 1) (pv 2)) yG) yG) (yF (yU (i:=7) (yL yK (xB (yA (bQH aJ2 yG) (yA yG (yA (yV uF (bQH aJ2 yG) (yV xD (pv 4) (yV aXj yG yG))) (yA (yV xD (pv 4) yG) yD))))) (yV xD (pv 4) yG)))) yS) (yC (xA (PW.pt (Y5 (yM uM (pv 5) yG) (uR (yM (aZA hr.units0) (pv 0) (xB yD))))) (yC (yU (i:=8) (yV zT (yV uF (yV xD (pv 3) yG) yG) (yV aWs (yV aXj yG yG) (zG uC rfl Z qC (yA (wL zR (yV xD (yL yK (pv 1) (pv 2)) yG) yG) yD))))) (yC (xA (yM zR (yV xD (yL yK (pv 1) (pv 2)) yG) yG) (yF (yU (i:=8) (yL yK (xB (yA (yV uF (yV xD (pv 3) yG) yG) (yA (yV xD (pv 3) (yV aXj yG yG)) (yA (yV uF yG (yV xD (pv 3) (yV aXj yG yG))) yD)))) (yV xD (pv 4) yG)))) yS) (yC (yU (i:=9) (yL yK (xB (yA yQ (yA yQ (yA yQ (yA yQ yD))))) (yV xD (pv 4) yG))) (yC (xA (yM zR (yV xD (yL yK (pv 1) (pv 2)) yG) yG) (yC (yU (i:=10) (yV aX7 (yV aX7 (yV aZB yQ (yV xD (yL yK (pv 1) yG) yG)) yQ) (yV aZB yQ (yV uF yG (yV xD (yL yK (pv 1) yG) yG))))) (yF (yU (i:=9) (yL yK (xB (yA yQ (yA (pv 10) (yA (yV aZB yQ yG) yD)))) (yV xD (pv 4) yG))))) yS) (yF (yP (xK (yA (yL yK (xB (yA yQ (yA yQ yD))) (yV xD (yV aQg (pv 4) yG) yG)) (yA (pv 8) (yA (pv 9) (yA (pv 7) yD))))))))))) yS) (yC (xA (yM uM (pv 5) yG) (yC (yU (i:=11) (yV xD (pv 3) yG)) (yC (xA (zA (xU U hr rfl (yA (pv 0) (yA (pv 6) yD)))) (yF (yU (i:=11) (yV uF (yV zT (yL yK (yL yK (pv 0) (pv 6)) yG) (yV xD (pv 3) (yL yK (xB (yA yG (yA yG yD))) (zG uC rfl Z qC (yA (wL zR (yV xD (yL yK (pv 1) (pv 2)) yG) yG) yD))))) yG))) yS) (yF (yP (xK (yA yQ (yA (pv 6) (yA (pv 11) (yA (pv 7) yD))))))))) yS) (yC (xA (yM uM (pv 5) yG) (yF (yP (xU o hr rfl (yA (pv 0) (yA (pv 1) (yA (pv 2) (yA (pv 6) yD))))))) yS) (yF (yP (xU I hr rfl (yA (pv 0) (yA (pv 1) (yA (pv 2) (yA (pv 6) (yA (pv 5) yD)))))))))))))))))),?_⟩;have X:C≠ []:=λz=>by rw[z]at S;simp at S
 have Y:(0:Int)<((C.map V.int).length:Nat):=by rw[cQB];have:=cXM.mpr X;omega
 have u:(C.map V.int)[k]? =some (.int C[k]):=by rw[cQR,cQw S];rfl
 have b5:(C.map V.int)[0]? =some (.int (C[0]'(by omega))):=by rw[cQR,cQw (by omega:0<C.length)];rfl
 obtain⟨l,a1⟩:=Q7 X ((k:Nat)+1);obtain⟨L,b4⟩:=Q7 X ((k:Nat)+2);refine⟨_,rfl,_,rfl,_,_,rfl,rfl,_,rfl,g,_,rfl,.inl (SqL.of N),_,_,rfl,rfl,Y,g,_,_,_,rfl,rfl,SqL.of N,a1,?_⟩;dsimp only[yW];refine⟨_,rfl,_,rfl,_,_,rfl,rfl,_,rfl,g,_,rfl,.inl (SqL.of N),_,_,rfl,rfl,Y,g,_,_,_,rfl,rfl,SqL.of N,b4,?_⟩;dsimp only[yW];refine⟨_,rfl,_,rfl,g,_,_,_,rfl,rfl,SqL.of N,yT u,_,rfl,_,_,rfl,rfl,.inl ⟨by decide,by decide⟩,_,_,rfl,rfl,_,_,rfl,rfl,(show(0:Int)<24 by decide),?_⟩;dsimp only[yW];obtain⟨turn,y⟩:∃turn:Int,turn=(C[k]+5*(k:Nat)) % 24:=⟨_,rfl⟩;have c4:0<=turn:=by rw[y];exact md0 (by decide)
 have a9:turn<24:=by rw[y];exact md1 (by decide)
 rw[<- y];refine⟨_,rfl,_,rfl,_,_,rfl,rfl,_,rfl,G,_,rfl,.inl (SqL.of hB.lst),_,_,rfl,_,_,rfl,rfl,?_,?_⟩
 ·show(0:Int)<(if _ then _ else _);split<;> omega
 dsimp only[yW];refine zU (λe B=>∃m:Int,e= [some (.ref G),some (.ref g),some (.int (k:Nat)),some (.int l),some (.int L),some (.int turn),some (.int m),none,none,none,none,none]/\xJ H B) ?X8 (λa=>?_);case X8=>
  rintro e H1 ⟨m,rfl,k1⟩;refine⟨zn (by show 6<=100000;omega),λl6 c1=>⟨_,rfl,_,_,rfl,rfl,⟨by decide,by decide⟩,_,_,rfl,rfl,(show(0:Int)<6 by decide),?_⟩⟩;refine Y9 rfl rfl (SqL.of yB) (md0 (by decide)) (md1 (by decide)) (by simp) λt0 _=>?_;have k2:=k1.trans (yE c1 (.lst [.int 0,.int 2,.int 1,.int 5,.int 3,.int 7]));generalize upd H1 l6 (.lst [.int 0,.int 2,.int 1,.int 5,.int 3,.int 7])=H2 at k2 ⊢;have b7:=k2 _ _ N;dsimp only[yW];refine zU (λe B=>∃t:Int,e= [some (.ref G),some (.ref g),some (.int (k:Nat)),some (.int l),some (.int L),some (.int turn),some (.int m),some (.int t),none,none,none,none]/\xJ H B) ?rest2 (λa=>?_);case rest2=>
   rintro e H3 ⟨t,rfl,k3⟩;have c8:=k3 _ _ N;have b8:=hB.same k3;refine bYb (bVT (λb B=>xJ H B) ?_ ?_ ?_)
   ·intro Kk hK;refine⟨_,rfl,_,_,rfl,rfl,_,rfl,?_⟩;refine X2 (λc=>hK _ _ k3) (λc=>?_);exact⟨_,rfl,z0,λpn a6=>⟨G,pn,_,rfl,rfl,SqL.of ((yE a6 (.lst [])) _ _ b8.lst),SqL.of yB,_,rfl,hK _ _ (k3.trans (yE a6 _))⟩⟩
   ·intro H4 O;have D:=O _ _ N;refine⟨_,rfl,_,_,rfl,rfl,(show(0:Int)<20 by decide),_,_,rfl,rfl,_,_,rfl,rfl,⟨by decide,by decide,by decide⟩,_,rfl,_,rfl,g,_,_,_,rfl,rfl,SqL.of D,yT u,_,_,rfl,rfl,(show(0:Int)<37 by decide),rfl,.inr ⟨_,rfl,_,_,rfl,rfl,.inl ⟨dk,dk⟩,_,_,rfl,rfl,?_⟩⟩;dsimp only[yW];refine zU (λe B=>∃d:Int,e= [some (.ref G),some (.ref g),some (.int (k:Nat)),some (.int l),some (.int L),some (.int turn),some (.int m),some (.int t),some (.int d),none,none,none]/\xJ H B) ?rest3 (λa=>?_);case rest3=>
     rintro e H5 ⟨d,rfl,k5⟩;refine⟨zn (by show 4<=100000;omega),λl4 b6=>⟨_,rfl,_,_,rfl,rfl,(show(0:Int)<4 by decide),?_⟩⟩;refine aQ5 rfl rfl (SqL.of yB) (md0 (by decide)) (md1 (by decide)) (by simp) λa8 _=>?_;have k6:=k5.trans (yE b6 (.lst [.str "ann",.str "bo",.str "ann",.str ""]));generalize upd H5 l4 (.lst [.str "ann",.str "bo",.str "ann",.str ""])=H6 at k6 ⊢;have a0:=k6 _ _ N;dsimp only[yW];refine zU (λe B=>∃ (a3:Str)(b2:Option V),e= [some (.ref G),some (.ref g),some (.int (k:Nat)),some (.int l),some (.int L),some (.int turn),some (.int m),some (.int t),some (.int d),some (.str a3),b2,none]/\xJ H B) ?rest4 (λa=>?_);case rest4=>
      rintro e H7 ⟨a3,b2,rfl,k7⟩;refine⟨z2,λl2 a2=>⟨_,rfl,_,_,rfl,rfl,⟨by decide,by decide⟩,_,_,rfl,rfl,(show(0:Int)<2 by decide),?_⟩⟩;refine aQ5 rfl rfl (SqL.of yB) (md0 (by decide)) (md1 (by decide)) (by simp) λa4 a5=>?_;have hw:a4="in"\/a4="out":=by simpa using a5
      refine⟨_,rfl,_,rfl,_,rfl,z4,λp hp=>?_⟩;exact q _ _ ((k7.trans (yE a2 _)).trans (yE hp _)) ⟨p,.enter a4 d a3 t,rfl,yB,⟨hw,trivial⟩⟩
     refine⟨_,rfl,_,rfl,g,_,_,_,rfl,rfl,SqL.of a0,yT u,_,_,rfl,rfl,(show(0:Int)<13 by decide),rfl,_,rfl,?_⟩;refine X2 (λc=>?_) (λc=>a _ _ ⟨a8,none,rfl,k6⟩);have W:∀x:Int,0<=x % 40/\x % 40<=39:=λx=>⟨md0 (by decide),by have:=md1 (x:=x) (n:=40) (by decide);omega⟩;refine⟨_,rfl,g,_,_,_,rfl,rfl,SqL.of a0,yT (j:=0) b5,_,_,rfl,rfl,(show(0:Int)<40 by decide),_,_,rfl,rfl,by decide,(W _).1,by have:=(W (C[0]'(by omega))).2;omega,λza c3=>?_⟩;refine⟨_,_,rfl,rfl,by rw[cQZ];show za.length+1<=_;omega,?_⟩;refine⟨_,rfl,g,_,_,_,rfl,rfl,SqL.of a0,yT (j:=0) b5,_,_,rfl,rfl,(show(0:Int)<40 by decide),_,_,rfl,rfl,_,_,rfl,rfl,by decide,by have:=(W (C[0]'(by omega))).2;omega,by have:=(W (C[0]'(by omega))).1;omega,λzb c5=>?_⟩;have c7:(za++("y":Str)).length<=101:=by
      show(za.cps++_).size<=101;rw[Array.size_append];have:za.cps.size<=100:=c3;have:("y":Str).cps.size=1:=by decide
      omega
     refine⟨_,_,rfl,rfl,by rw[cQZ];omega,?_⟩;dsimp only[yW];refine⟨_,rfl,_,_,rfl,rfl,by decide,by decide,by decide,λzc d2=>⟨z3,λl3 J=>⟨_,rfl,_,_,rfl,rfl,(show(0:Int)<3 by decide),?_⟩⟩⟩;refine aQ5 rfl rfl (SqL.of yB) (md0 (by decide)) (md1 (by decide)) (by simp) λa7 _=>?_;dsimp only[yW];exact a _ _ ⟨a7,_,rfl,k6.trans (yE J _)⟩
    refine⟨_,rfl,_,rfl,g,_,_,_,rfl,rfl,SqL.of D,yT u,_,_,rfl,rfl,(show(0:Int)<37 by decide),rfl,_,rfl,?_⟩;refine X2 (λc=>?_) (λc=>a _ _ ⟨_,rfl,O⟩);refine⟨_,rfl,_,_,rfl,rfl,(show(0:Int)<2001 by decide),_,_,rfl,rfl,_,rfl,_,_,rfl,rfl,c60,_,_,rfl,rfl,p60,_,rfl,_,_,rfl,rfl,c60,_,_,rfl,rfl,p60,_,_,rfl,rfl,z3,λl3 J=>⟨_,rfl,_,_,rfl,rfl,(show(0:Int)<3 by decide),?_⟩⟩;refine Y9 rfl rfl (SqL.of yB) (md0 (by decide)) (md1 (by decide)) (by simp) λd1 _=>?_;dsimp only[yW];exact a _ _ ⟨d1,rfl,O.trans (yE J _)⟩
   ·intro H4 O;have D:=O _ _ N;have M:=hB.same O;dsimp only[aV8];refine⟨_,rfl,_,_,rfl,rfl,_,rfl,?_⟩;refine X2 (λc=>?_) (λc=>?_)
    ·refine⟨_,rfl,_,_,rfl,rfl,(show(0:Int)<20 by decide),?_⟩;dsimp only[yW];refine zU (λe B=>∃bs:Int,e= [some (.ref G),some (.ref g),some (.int (k:Nat)),some (.int l),some (.int L),some (.int turn),some (.int m),some (.int t),none,none,none,some (.int bs)]/\xJ H B) ?rest5 (λa=>?_);case rest5=>
      rintro e H5 ⟨bs,rfl,k5⟩;refine⟨_,rfl,_,rfl,_,rfl,z4,λp hp=>?_⟩;exact q _ _ (k5.trans (yE hp _)) ⟨p,.reply m bs t,rfl,yB,⟨trivial,trivial⟩⟩
     refine⟨_,rfl,_,rfl,G,rs,R,m,rfl,M,_,rfl,?_⟩;cases h1:Bk.vK R m with
     |false=>exact onF rfl (a _ _ ⟨_,rfl,O⟩)
     |true=>
     obtain⟨i,r,rfl,c9,hi,hv⟩:=Bk.vL h1;obtain⟨b,g1,g2,cp,g3,g4⟩:=M.get hi;refine onT rfl ⟨_,rfl,_,rfl,G,_,_,_,rfl,rfl,SqL.of M.lst,yT g1,b,_,1,_,rfl,rfl,SqL.of g3,rfl,_,rfl,z2,λl2 a2=>?_⟩;have e2:=yE a2 (.lst [.int 7,.int 3000]);have c0:=e2 _ _ D;refine⟨_,rfl,_,rfl,g,_,_,_,rfl,rfl,SqL.of c0,yT u,_,_,rfl,rfl,(show(0:Int)<11 by decide),rfl,.inr ⟨_,rfl,?_⟩⟩;refine Y9 rfl rfl (SqL.of yB) b0 b1 (by simp) λj hj=>?_;have c6:j=7\/j=3000:=by simpa using hj
     refine⟨_,_,rfl,rfl,(show(0:Int)<j by omega),_,_,rfl,rfl,_,_,rfl,rfl,?_⟩;dsimp only[yW];exact a _ _ ⟨_,rfl,O.trans e2⟩
    ·have c:¬turn<12:=of_decide_eq_false (Bool.eq_false_iff.mpr c);refine⟨_,rfl,_,_,rfl,rfl,_,rfl,?_⟩;refine X2 (λc2=>?_) (λc2=>?_)
     ·exact⟨_,rfl,_,rfl,_,rfl,_,rfl,G,g,rs,R,C,k,m,rfl,M,hR,D,X,λB v k5 hd=>q _ _ (O.trans k5) hd⟩
     ·have c2:¬turn<15:=of_decide_eq_false (Bool.eq_false_iff.mpr c2);exact⟨_,rfl,_,rfl,_,rfl,_,rfl,_,rfl,G,g,rs,R,C,k,m,turn,rfl,M,hR,D,S,by omega,a9,λB v k5 hd=>q _ _ (O.trans k5) hd⟩
  refine⟨_,rfl,_,rfl,g,_,_,_,rfl,rfl,SqL.of b7,yT u,_,_,rfl,rfl,(show(0:Int)<29 by decide),rfl,_,rfl,?_⟩;refine X2 (λc=>?_) (λc=>a _ _ ⟨t0,rfl,k2⟩);refine⟨_,rfl,_,rfl,_,rfl,_,_,rfl,rfl,c60,_,_,rfl,rfl,p60,_,_,rfl,rfl,_,rfl,_,_,rfl,rfl,(show(0:Int)<990 by decide),z4,λl3 J=>⟨_,rfl,_,_,rfl,rfl,(show(0:Int)<4 by decide),?_⟩⟩;refine Y9 rfl rfl (SqL.of yB) (md0 (by decide)) (md1 (by decide)) (by simp) λt1 _=>?_;dsimp only[yW];exact a _ _ ⟨t1,rfl,k2.trans (yE J _)⟩
 refine⟨_,rfl,_,rfl,g,_,_,_,rfl,rfl,SqL.of N,yT u,_,_,rfl,rfl,(show(0:Int)<23 by decide),rfl,_,rfl,?_⟩;refine X2 (λc=>?_) (λc=>a _ _ ⟨_,rfl,xJ.refl _⟩);refine⟨_,rfl,_,rfl,G,_,rfl,.inl (SqL.of hB.lst),_,_,rfl,rfl,⟨by decide,by decide,by decide⟩,_,rfl,_,rfl,_,_,rfl,rfl,c60,_,_,rfl,rfl,p60,_,_,rfl,rfl,_,rfl,G,_,rfl,.inl (SqL.of hB.lst),_,rfl,_,_,rfl,rfl,c60,_,_,rfl,rfl,p60,_,_,rfl,rfl,zn (by show 5<=100000;omega),λl5 b9=>⟨_,rfl,_,_,rfl,rfl,(show(0:Int)<5 by decide),?_⟩⟩;refine Y9 rfl rfl (SqL.of yB) (md0 (by decide)) (md1 (by decide)) (by simp) λm1 _=>?_;dsimp only[yW];exact a _ _ ⟨m1,rfl,yE b9 _⟩
end
end Law
namespace Law
open PySem L2 PyProof.Rows
open Bk (Row Rows xZ xV Ans)
open Desk (xP uA qB Wf Up Run zM wH)
abbrev aWE:Stmt:=xM "_law_story"
def aXL:Sp:=λc H Q _=>∃ (i:Nat)(f:List Int),c= [.ref i]/\H i=some (.lst (f.map V.int))/\f.length<=40/\
 ∀ (b:Hp)(t h j:Nat)(g:List Nat)(d:List xV)(c:List V)(k:List Ans)(R:Rows)(S:List Int),xJ H b->b t=some (.tup [.ref h,.ref j])->zM b h g d->b j=some (.lst c)->cXn (λv a=>uA [] b a v) c k->Run [] [] d k R S->(∀e∈d,Wd e)->d.length<=f.length+3->Q (.ref t) b
def Mid.start{H l c p:Hp}{q sa ds us:Nat}(g:LGo H q sa [] [] l [])(i:List xV)(a:List Nat)(k:xJ l c)(m:l ds=none)(t:c ds=some (.lst (a.map V.ref)))(o:xJ c p)(f:c us=none)(v:p us=some (.lst []))(w:∀e∈i,Wd e)(len:a.length=i.length) (n:∀ (j:Nat)(d:Nat)(e:xV),a[j]? =some d->i[j]? =some e->c d=some (.tup (xP e))):Mid H q sa ds us i a 0 p:=by
 have ne:ds≠us:=λz=>by rw[<- z,t]at f;cases f
 obtain⟨R,S,s,_⟩:=g.ex;have d1:∀ {x},l x=none->x≠q/\x≠sa:=λ{x} h=>⟨λz=>(by rw[z,s.book.lst]at h;cases h),λz=>(by rw[z,s.shut]at h;cases h)⟩;refine⟨ne,w,len,λj d e y u=>o _ _ (n j d e y u),[],[],[],(g.same k).same o,⟨o _ _ t,g.keep.fresh m,(d1 m).1,(d1 m).2,by simp,λb r=>by simp at r⟩,⟨v,g.keep.fresh (k.fresh f),(d1 (k.fresh f)).1,(d1 (k.fresh f)).2,by simp,λb r=>by simp at r⟩,.nil⟩
section
variable {K:cQz}
def bJw:yO ["_law_cells","_law_rows","_law_shut","_law_deeds","_law_dues","_law_k","_law_deed"] ["_law_cells"] (yH aWE):=scM
def bZq:xO ["_law_cells","_law_rows","_law_shut","_law_deeds","_law_dues","_law_k","_law_deed"] (yH aWE) "_law_deed" ["_law_rows","_law_shut"] [1,2] (lsN [(".0",.local),("_law_deed",.local),("_law_done_by",.globalImplicit),("_law_rows",.free),("_law_shut",.free)]):=
 lcM
seal PE PA PS PSs PT in
def bZU(T:uJ mg)(l:FnG P w K mg base 5 "_law_done_by" ["_law_rows","_law_shut","_law_deed"] aZg)(C:FnG P w K mg base 5 "_law_deed_at" ["_law_rows","_law_cells","_law_k"] aWP)(F:Fun K "_law_story" "_law_story" aWE f fd):xL P w K mg base CX0 6 f fd ["_law_cells"] aXL:=by
 have sc:=bJw;refine F.ok (k:=5) sc (λd2 A outer s H vs Q E hr h=>?_);obtain⟨ca,ns,rfl,hc,hn,q⟩:=h;refine⟨_,(yC (yU (i:=1) (xB yD)) (yC (yU (i:=2) (xB yD)) (yC (yU (i:=3) (xB yD)) (yC (yU (i:=4) (xB yD)) (yC (xA (PW.pt (jE (yM (jM hr.units0) (pv 0) (xB yD)) (uG (yM zR (yV xD (yL yK (pv 0) yG) yG) yG)))) (yC (yU (i:=3) (xB (yA (xK (yA yQ (yA yG (yA yQ (yA yG yD))))) (yA (xK (yA yQ (yA yG (yA yG (yA yG yD))))) (yA (xK (yA yQ (yA yG (yA yG yD)))) yD))))) (yF (aXZ (i:=4) bZq rfl sc.nd rfl rfl (xN (pv 3)) (λ_ _ _ _ _=>wQ) (λ_ _ _ _ _=>(xU l hr rfl (yA (pv 1) (yA (pv 2) (yA (pv 0) yD)))))))) yS) (yC (wT cXo rfl (zY rfl T.b_range (yA (yR yN rfl T.b_len xG (yA (pv 0) yD)) yD)) (xI (i:=5)) (yC (yU (i:=6) (xU C hr rfl (yA (pv 1) (yA (pv 0) (yA (pv 5) yD))))) (yC (yZ (jC cQ3 cXc cXd xR (pv 3) (yA (pv 6) yD))) (yF (yZ (jC cQ3 cXc cXd xR (pv 4) (yA (xU l hr rfl (yA (pv 1) (yA (pv 2) (yA (pv 6) yD)))) yD))))))) (yF (yP (xK (yA (pv 3) (yA (pv 4) yD))))))))))),?_⟩;refine⟨z0,λU b8=>?_⟩;dsimp only[yW];refine⟨z0,λsa b7=>?_⟩;dsimp only[yW];have g0:=LGo.start b8 b7;generalize upd (upd H U (.lst [])) sa (.lst [])=H2 at g0 ⊢;refine⟨z0,λB b5=>?_⟩;dsimp only[yW];refine⟨z0,λI b2=>?_⟩;dsimp only[yW];have k3:=yE b5 (.lst []);have k4:=yE b2 (.lst []);have M0:Mid H U sa B I [] [] 0 (upd (upd H2 B (.lst [])) I (.lst [])):=Mid.start g0 [] [] k3 b5 yB k4 b2 yB (λe h=>by simp at h) rfl (λj d e h=>by simp at h);have gk:=g0.same (k3.trans k4);generalize upd (upd H2 B (.lst [])) I (.lst [])=H4 at M0 gk k4 ⊢;have b3:=M0.keep _ _ hc;refine zU (λσ' W=>∃ (B I:Nat)(x:List xV)(b:List Nat),σ'= [some (.ref ca),some (.ref U),some (.ref sa),some (.ref B),some (.ref I),none,none]/\Mid H U sa B I x b x.length W/\x.length<=3) ?X8 (λa5=>?_);case X8=>
  rintro σ' H5 ⟨B,I,x,b,rfl,M5,h3⟩;refine⟨_,rfl,ca,_,rfl,.inl (SqL.of (M5.keep _ _ hc)),?_⟩;rw[cQB];refine⟨_,rfl,by omega,by omega,?_⟩;rw[cQ6];refine vO (λt σ H6=>∃ (x:List xV)(b:List Nat)(o5 o6:Option V),σ= [some (.ref ca),some (.ref U),some (.ref sa),some (.ref B),some (.ref I),o5,o6]/\Mid H U sa B I x b x.length H6/\x.length<=3+t) ?_ ?_ ?_
  ·exact⟨x,b,none,none,rfl,M5,by omega⟩
  ·rintro k σ H6 hk ⟨x,b,o5,o6,rfl,Y,c7⟩;rw[cZX];dsimp only[yW];obtain⟨rs,as,vs,g6,s6,u6,p6⟩:=Y.ex;obtain⟨R,S,hL,hu,c2,O⟩:=g6.ex;have b6:=hu.r;rw[cXs]at b6;refine⟨_,rfl,_,rfl,_,rfl,U,ca,rs,R,ns,k,rfl,hL.book,by omega,Y.keep _ _ hc,hk,λH7 v k7 c1=>?_⟩;obtain⟨p,e,rfl,hp,hw⟩:=c1;dsimp only[yW];have M7:=Y.same k7;have b4:=k7 _ _ s6.at_;refine⟨_,rfl,.inl ⟨rfl,_,SqL.of b4⟩,_,rfl,B,_,_,rfl,rfl,b4,zlt (by rw[cQB,Y.len];omega),?_⟩;have el:b.map V.ref++ [V.ref p]=(b++ [p]).map V.ref:=by simp
   rw[el];have M8:=M7.push rfl hp hw;generalize upd H7 B (.lst ((b++ [p]).map V.ref))=H8 at M8 ⊢;obtain⟨d1,d3,d0,g8,s8,u8,p8⟩:=M8.ex;have X:(b++ [p])[x.length]? =some p:=by rw[<- Y.len,cQX (cQE _),cXV];rfl
   have Z:(x++ [e])[x.length]? =some e:=by rw[cQX (cQE _),cXV];rfl
   refine⟨_,rfl,.inl ⟨rfl,_,SqL.of u8.at_⟩,_,rfl,_,rfl,_,rfl,M8.next (by omega) X Z λv H9 ws _ a9 c8 M9=>⟨I,_,_,rfl,rfl,a9,zlt (by omega),x++ [e],b++ [p],_,_,rfl,?_,by rw[cQ0];simp;omega⟩⟩;rw[cQ0];exact M9
  ·rintro σ H6 ⟨x,b,o5,o6,rfl,Y,c7⟩;refine⟨_,rfl,_,rfl,z2,λt ht=>?_⟩;have k6:=yE ht (.tup [.ref B,.ref I]);have M7:=Y.same k6;obtain⟨rs,as,vs,g7,s7,u7,p7⟩:=M7.ex;obtain⟨R,S,hL,hu,c2,O⟩:=g7.ex;rw[cXs]at O;exact q _ t B I b x vs as R S M7.keep yB ⟨s7.at_,M7.len,M7.at_⟩ u7.at_ (wH (λv a z=>qO z λp u n e=>⟨by simp,e⟩) p7) O M7.wf (by omega)
 refine⟨_,rfl,z0,λpn b0=>⟨ca,pn,_,rfl,rfl,SqL.of ((yE b0 (.lst [])) _ _ b3),SqL.of yB,_,rfl,?_⟩⟩;have k5:=yE b0 (.lst []);generalize upd H4 pn (.lst [])=H5 at k5 ⊢;have a6:∀W,xJ H4 W->_:=λW k=>a5 [some (.ref ca),some (.ref U),some (.ref sa),some (.ref B),some (.ref I),none,none] W ⟨B,I,[],[],rfl,M0.same k,by simp⟩;by_cases a0:ns= []
 ·subst a0;exact onF rfl (onF rfl (a6 _ k5))
 have c9:(ns.map V.int)[0]? =some (.int (ns[0]'(cXM.mpr a0))):=by rw[cQR,cQw (cXM.mpr a0)];rfl
 refine onT (by cases ns with|nil=>exact absurd rfl a0|cons=>rfl) ⟨_,rfl,ca,_,_,_,rfl,rfl,SqL.of (k5 _ _ b3),yT (j:=0) c9,_,_,rfl,rfl,(show(0:Int)<5 by decide),rfl,_,rfl,?_⟩;refine X2 (λc=>?_) (λc=>a6 _ k5);refine⟨z4,λG c3=>⟨z4,λJ b9=>⟨z3,λL c0=>⟨z3,λdl b1=>?_⟩⟩⟩⟩;have a1:=yE c3 (.tup (xP (.enter "in" 4 "ann" 2)));have a2:=yE b9 (.tup (xP (.reply 0 4 1)));have a3:=yE c0 (.tup (xP (.hang 0 1)));have a4:=yE b1 (.lst ([G,J,L].map V.ref));have g5:=((gk.same k5).same a1).same (a2.trans a3);have e1:=a4 _ _ (a3 _ _ (a2 _ _ (yB (H:=H5) (a:=G) (o:= .tup (xP (.enter "in" 4 "ann" 2))))));have e2:=a4 _ _ (a3 _ _ (yB (H:=upd H5 G (.tup (xP (.enter "in" 4 "ann" 2)))) (a:=J) (o:= .tup (xP (.reply 0 4 1)))));have e3:=a4 _ _ (yB (H:=upd (upd H5 G (.tup (xP (.enter "in" 4 "ann" 2)))) J (.tup (xP (.reply 0 4 1)))) (a:=L) (o:= .tup (xP (.hang 0 1))));have e4:=yB (H:=upd (upd (upd H5 G (.tup (xP (.enter "in" 4 "ann" 2)))) J (.tup (xP (.reply 0 4 1)))) L (.tup (xP (.hang 0 1)))) (a:=dl) (o:= .lst ([G,J,L].map V.ref));have c4:∀D,upd (upd (upd (upd H5 G (.tup (xP (.enter "in" 4 "ann" 2)))) J (.tup (xP (.reply 0 4 1)))) L (.tup (xP (.hang 0 1)))) dl (.lst ([G,J,L].map V.ref)) D=none->Mid H U sa dl D [.enter "in" 4 "ann" 2,.reply 0 4 1,.hang 0 1] [G,J,L] 0 (upd (upd (upd (upd (upd H5 G (.tup (xP (.enter "in" 4 "ann" 2)))) J (.tup (xP (.reply 0 4 1)))) L (.tup (xP (.hang 0 1)))) dl (.lst ([G,J,L].map V.ref))) D (.lst [])):=λD hD=>by
  refine Mid.start g5 _ _ a4 b1 e4 (yE hD (.lst [])) hD yB (λe he=>?_) rfl (λj d e X Z=>?_)
  ·simp only[cQG,cVq,or_false]at he;rcases he with rfl|rfl|rfl
   ·exact⟨.inl rfl,trivial⟩
   ·exact⟨trivial,trivial⟩
   ·exact⟨trivial,trivial⟩
  ·match j,X,Z with
   |0,X,Z=>cases X;cases Z;exact e1
   |1,X,Z=>cases X;cases Z;exact e2
   |2,X,Z=>cases X;cases Z;exact e3
 dsimp only[yW];refine⟨_,rfl,dl,rfl,⟨_,SqL.of e4⟩,λD hD=>?_⟩;have Y:=c4 D hD;refine⟨λi m ys W=>m=3 - i/\i<=3/\W D=some (.lst ys)/\Mid H U sa dl D [.enter "in" 4 "ann" 2,.reply 0 4 1,.hang 0 1] [G,J,L] i W,⟨3,rfl,by omega,yB,Y⟩,?_⟩;rintro i m ys W ⟨rfl,hi,a7,M⟩;refine⟨a7,?_⟩;obtain⟨rs,as,vs,g,s1,s2,p⟩:=M.ex;by_cases N:i<3
 ·have a8:([G,J,L]:List Nat)[i]? =some ([G,J,L][i]'(by simpa using N)):=cQw (by simpa using N);have c6:([.enter "in" 4 "ann" 2,.reply 0 4 1,.hang 0 1]:List xV)[i]? =some (([.enter "in" 4 "ann" 2,.reply 0 4 1,.hang 0 1]:List xV)[i]'(by simpa using N)):=cQw (by simpa using N);refine .inr ⟨⟨_,_,SqL.of s1.at_,by rw[cQR,a8];rfl⟩,λv H7 yl=>?_⟩;obtain⟨rfl,y⟩:=yl;have hv:=y _ (SqL.of s1.at_);rw[cQR,a8]at hv;cases hv;refine⟨_,rfl,_,rfl,_,rfl,?_⟩;refine M.next (by omega) a8 c6 λv H8 ws c5 a9 c8 M8=>?_;have ey:ys=ws:=by rw[c5]at a7;cases a7;rfl
  subst ey;exact⟨by rw[cQZ];omega,a9,3 - (i+1),by omega,rfl,N,yB,M8⟩
 ·have:i=3:=by omega
  subst this;refine .inl ⟨⟨_,SqL.of s1.at_,by simp⟩,?_⟩;exact a5 _ _ ⟨dl,D,_,_,rfl,M,by simp⟩
end
end Law
namespace Alike
open PySem L2 PyProof.Rows
open Law (xM)
abbrev bQR:Stmt:=xM "_law_alike"
abbrev bWI:Stmt:=xM "_law_room"
abbrev bQ9:Stmt:=xM "_law_whole"
def xG:cXj "len"=some (.builtin "len"):=dk
def wW:cXj "sorted"=some (.builtin "sorted"):=dk
def yY:cXj "isinstance"=some (.builtin "isinstance"):=dk
def qC:cXj "int"=some (.type "int"):=dk
def aJe:cXj "str"=some (.type "str"):=dk
def aVc:cXj "bool"=some (.type "bool"):=dk
def wK:cXj "list"=some (.type "list"):=dk
def vT:cXj "tuple"=some (.type "tuple"):=dk
structure uJ(mg:Str->Option cQx):Prop where
 b_len:mg "len"=none
 b_sorted:mg "sorted"=none
 b_isinstance:mg "isinstance"=none
 b_int:mg "int"=none
 b_str:mg "str"=none
 b_bool:mg "bool"=none
 b_list:mg "list"=none
 b_tuple:mg "tuple"=none
 b_range:mg "range"=none
def bXI:Sp:=λa H Q _=>∃n,a= [.int n]/\Q (.bl true) H
def bVm(K:cQz):Sp:=λc H Q _=>∃ (a:Nat)(b:List Int)(x y:Int),c= [.ref a,.int x,.int y]/\SqL K H a (b.map V.int)/\b.length<=63/\Q (.int x) H
section
variable {K:cQz}
def bJA:yO ["_law_found"] ["_law_found"] (yH bQ9):=scM
def bZY(T:uJ mg)(F:Fun K "_law_whole" "_law_whole" bQ9 f fd):xL P w K mg base CX0 1 f fd ["_law_found"] bXI:=by
 have a:=bJA;refine F.ok (k:=0) a (λb A outer s H c Q E d h=>?_);obtain⟨n,rfl,q⟩:=h;refine⟨_,(yF (yP (aWw (yR zH rfl T.b_isinstance yY (yA (pv 0) (yA (xX (v:= .ty "int") rfl T.b_int qC rfl) yD))) (aJF (bVe (yR zH rfl T.b_isinstance yY (yA (pv 0) (yA (xX (v:= .ty "bool") rfl T.b_bool aVc rfl) yD)))))))),?_⟩;refine⟨_,rfl,_,"int",_,_,rfl,.int n,aX5 _,_,rfl,onT rfl ?_⟩;exact⟨_,rfl,_,"bool",_,_,rfl,.int n,X4 _,_,rfl,q⟩
def bWW:yO ["_law_script","_law_most","_law_bound"] ["_law_script","_law_most","_law_bound"] (yH bWI):=scM
def bWk(T:uJ mg)(F:Fun K "_law_room" "_law_room" bWI f fd):xL P w K mg base CX0 1 f fd ["_law_script","_law_most","_law_bound"] (bVm K):=by
 have c:=bWW;refine F.ok (k:=0) c (λe A outer s H i Q E j h=>?_);obtain⟨a,g,x,y,rfl,d,b,q⟩:=h;refine⟨_,(yC (xA (yM aXY (yR yN rfl T.b_len xG (yA (pv 0) yD)) yG) (yF (yP (pv 2))) yS) (yF (yP (pv 1)))),?_⟩;refine⟨_,rfl,a,_,rfl,.inl d,_,_,rfl,rfl,_,rfl,onF ?_ ⟨_,rfl,q⟩⟩;rw[cQB];exact decide_eq_false (by omega)
end
def Sq(K:cQz)(H:Hp)(a:Nat)(xs:List V):Prop:=H a=some (.lst xs)\/H a=some (.tup xs)
def Sq.same{K:cQz}{H b:Hp}{a:Nat}{xs:List V}(k:xJ H b)(h:Sq K H a xs):Sq K b a xs:=h.imp (k _ _) (k _ _)
def Sq.ix{K:cQz}{H:Hp}{a:Nat}{xs:List V}{i:Nat}{v:V}{Q:VK}(h:Sq K H a xs)(e:xs[i]? =some v)(q:Q v H):rIx K (.ref a) (.int (i:Int)) H Q:=by
 rcases h with h|h
 ·exact .inl ⟨a,xs,_,v,rfl,rfl,SqL.of h,yT e,q⟩
 ·exact .inr (.inl ⟨a,xs,_,v,rfl,rfl,SqT.of h,yT e,q⟩)
def zE:List (Nat×Dt)->Nat
 |[]=>0
 |q::r=>q.2.size+zE r
def xE:∀a b:List (Nat×Dt),zE (a++b)=zE a+zE b
 |[],b=>by simp[zE]
 |q::r,b=>by rw[cVn];show q.2.size+zE (r++b)=q.2.size+zE r+zE b;rw[xE r b];omega
def uI:∀ {a:List (Nat×Dt)} {ds:List Dt},a.map (·.2)=ds->zE a=wB ds
 |[],[],_=>by simp[zE,wB]
 |q::r,d::ds,h=>by rw[cXb]at h;cases h;show q.2.size+zE r=q.2.size+wB (r.map (·.2));rw[uI rfl]
 |[],_::_,h=>by cases h
 |_::_,[],h=>by cases h
def qK:∀qs:List (Nat×Dt),qs.length<=zE qs
 |[]=>cQE _
 |q::r=>by
  have:=qK r;have a:1<=q.2.size:=by cases q.2<;> simp[Dt.size]
  show r.length+1<=q.2.size+zE r;omega
def qG:∀ds:List Dt,ds.length<=wB ds
 |[]=>cQE _
 |d::r=>by
  have:=qG r;have a:1<=d.size:=by cases d<;> simp[Dt.size]
  show r.length+1<=d.size+wB r;omega
def aZX{α:Type}:∀ {l:List α},l≠ []->∃b a,l=b++ [a]
 |[],h=>absurd rfl h
 |[x],_=>⟨[],x,rfl⟩
 |x::y::r,_=>by obtain⟨i,l,e⟩:=aZX (l:=y::r) (by simp);exact⟨x::i,l,by rw[e];rfl⟩
def zZ{a H:Hp}{c:Nat}{o:HO}(k:xJ a H)(h:a c=none):xJ a (upd H c o):=λb u q=>by rw[yJ (yI q h)];exact k b u q
mutual
def nb:Dt->Bool
 |.bl _=>false
 |.lst a=>nbs a
 |.tup a=>nbs a
 |.non=>true
 |.int _=>true
 |.str _=>true
def nbs:List Dt->Bool
 |[]=>true
 |d::r=>nb d && nbs r
end
def aVr:∀ {ds:List Dt} {i:Nat} (h:i<ds.length),nbs ds=true->nb ds[i]=true
 |d::r,0,h,e=>by unfold nbs at e;rw[Bool.and_eq_true]at e;exact e.1
 |d::r,i+1,h,e=>by unfold nbs at e;rw[Bool.and_eq_true]at e;exact aVr (ds:=r) (by simpa using h) e.2
def bVz(a H:Hp)(q:Nat×Dt):Prop:=∃x y,H q.1=some (.tup [x,y])/\Is a x q.2/\Is a y q.2/\nb q.2=true
def bVz.keep{d H c:Hp}{q:Nat×Dt}(p:bVz d H q)(k:∀a b,H a=some (.tup b)->c a=some (.tup b)):bVz d c q:=let ⟨x,y,h,r⟩:=p;⟨x,y,k _ _ h,r⟩
def qL{H:Hp}{p:Nat}{o:HO}(h:H p=none):∀a b,H a=some (.tup b)->upd H p o a=some (.tup b):=λa b e=>by rw[yJ (yI e h)];exact e
def vS{H:Hp}{p:Nat}{c:List V}{o:HO}(h:H p=some (.lst c)):∀a b,H a=some (.tup b)->upd H p o a=some (.tup b):=λa b e=>by rw[yJ (aXU e h (by intro z;cases z))];exact e
def WU(b:Hp)(v u:V)(c:Nat)(m:Nat)(σ:L2.St)(H:Hp):Prop:=∃a l r k,σ= [some v,some u,some (.ref c),l,r,k]/\xJ b H/\H c=some (.lst (a.map λq=> .ref q.1))/\(∀q∈a,bVz b H q)/\m=zE a/\zE a<=50000
def bXu:Sp:=λb H Q _=>∃v u d,b= [v,u]/\Is H v d/\Is H u d/\nb d=true/\d.size<=50000/\∀a,xJ H a->Q (.bl true) a
section
variable {K:cQz}
def bJg:yO ["_law_found","_law_due","_law_todo","_law_one","_law_other","_law_k"] ["_law_found","_law_due"] (yH bQR):=scM
seal PE PA PS PSs PT in
def bZE(T:uJ mg)(Y:FnG P w K mg base 1 "_law_whole" ["_law_found"] bXI)(F:Fun K "_law_alike" "_law_alike" bQR f fd):xL P w K mg base CX0 2 f fd ["_law_found","_law_due"] bXu:=by
 have sc:=bJg;refine F.ok (k:=1) sc (λc7 A outer s H0 vs Q E hr h=>?_);obtain⟨v,u,d,rfl,hv,hu,b7,hd,q⟩:=h;refine⟨_,(yC (yU (i:=2) (xB (yA (xK (yA (pv 0) (yA (pv 1) yD))) yD))) (yC (jO cXo (yM (jM hr.units0) (pv 2) (xB yD)) (yC (uQ (bQF cQ3 cVs cVt bQd (pv 2)) (aWy rfl (wI (xI (i:=3)) (wI (xI (i:=4)) aZC)))) (yF (xA (zA (yR Z8 rfl T.b_isinstance yY (yA (pv 4) (yA (xK (yA (xX (v:= .ty "list") rfl T.b_list wK rfl) (yA (xX (v:= .ty "tuple") rfl T.b_tuple vT rfl) yD))) yD)))) (yC (xA (yM J7 (yR zH rfl T.b_isinstance yY (yA (pv 3) (yA (xX (v:= .ty "list") rfl T.b_list wK rfl) yD))) (yR zH rfl T.b_isinstance yY (yA (pv 4) (yA (xX (v:= .ty "list") rfl T.b_list wK rfl) yD)))) (yF (yP vQ)) yS) (yC (xA (yM J7 (yR zH rfl T.b_isinstance yY (yA (pv 3) (yA (xX (v:= .ty "tuple") rfl T.b_tuple vT rfl) yD))) (yR zH rfl T.b_isinstance yY (yA (pv 4) (yA (xX (v:= .ty "tuple") rfl T.b_tuple vT rfl) yD)))) (yF (yP vQ)) yS) (yC (xA (yM J7 (yR yN rfl T.b_len xG (yA (pv 3) yD)) (yR yN rfl T.b_len xG (yA (pv 4) yD))) (yF (yP vQ)) yS) (yF (wT cXo rfl (zY rfl T.b_range (yA (yR yN rfl T.b_len xG (yA (pv 4) yD)) yD)) (xI (i:=5)) (yF (yZ (jC cQ3 cXc cXd xR (pv 2) (yA (xK (yA (yL aWk (pv 3) (pv 5)) (yA (yL aWk (pv 4) (pv 5)) yD))) yD))))))))) (yF (xA (yM aX9 (pv 4) zL) (yF (xA (yM wZ (pv 3) zL) (yF (yP vQ)) yS)) (yF (xA (zA (yR zH rfl T.b_isinstance yY (yA (pv 4) (yA (xX (v:= .ty "str") rfl T.b_str aJe rfl) yD)))) (yF (xA (PW.pt (Y5 (vH (zA (yR zH rfl T.b_isinstance yY (yA (pv 3) (yA (xX (v:= .ty "str") rfl T.b_str aJe rfl) yD))))) (uR (yM J7 (pv 3) (pv 4))))) (yF (yP vQ)) yS)) (yF (xA (PW.pt (Y5 (vH (zA (xU Y hr rfl (yA (pv 3) yD)))) (uR (yM J7 (pv 3) (pv 4))))) (yF (yP vQ)) yS)))))))))) (yF (yP vQ)))),?_⟩;refine⟨_,rfl,_,rfl,z2,λp0 b1=>⟨z1,λB b3=>?_⟩⟩;have a1:H0 B=none:=(yE b1 _).fresh b3;refine⟨WU H0 v u B,⟨d.size,[(p0,d)],none,none,none,rfl,zZ (yE b1 _) a1,yB,?_,by simp[zE],by simpa[zE]using hd⟩,?_⟩
 ·intro q t;rw[cQL.mp t];exact⟨v,u,qL b3 _ _ yB,hv,hu,b7⟩
 rintro m σ H ⟨qs,l,r,k,rfl,hk,hT,hP,rfl,a6⟩;refine⟨_,rfl,z0,λpn a0=>?_⟩;have c0:pn≠B:=cXg (yI hT a0);have a3:upd H pn (.lst []) B=some (.lst (qs.map λq=> .ref q.1)):=by rw[yJ (cXg c0)];exact hT
 refine⟨B,pn,_,rfl,rfl,SqL.of a3,SqL.of yB,_,rfl,?_⟩;by_cases b4:qs= []
 ·subst b4;rw[if_neg (by decide)];exact q _ (hk.trans (yE a0 _))
 obtain⟨c,⟨lp,d⟩,rfl⟩:=aZX b4;rw[if_pos (by simp)];refine⟨λD I=>∃m',m'<zE (c++ [(lp,d)])/\WU H0 v u B m' D I,λD I z=>z,?_⟩;obtain⟨x,y,b5,hx,hy,G⟩:=hP (lp,d) (by simp);have a9:((c++ [(lp,d)]).map λq=>V.ref q.1)[((c++ [(lp,d)]).map λq=>V.ref q.1).length - 1]? =some (.ref lp):=by simp
 have a8:((c++ [(lp,d)]).map λq=>V.ref q.1).dropLast=c.map λq=>V.ref q.1:=by simp
 have b0:∀a N,H a=some (.tup N)->upd (upd H pn (.lst [])) B (.lst (c.map λq=>V.ref q.1)) a=some (.tup N):=λa N e=>vS a3 _ _ (qL a0 _ _ e);refine⟨_,rfl,.inl ⟨rfl,_,SqL.of a3⟩,B,_,.ref lp,rfl,rfl,a3,a9,?_⟩;rw[a8];have L:xJ H0 (upd (upd H pn (.lst [])) B (.lst (c.map λq=>V.ref q.1))):=zZ (hk.trans (yE a0 _)) a1;have a5:upd (upd H pn (.lst [])) B (.lst (c.map λq=>V.ref q.1)) B=some (.lst (c.map λq=> .ref q.1)):=yB;have a4:∀q∈c,bVz H0 (upd (upd H pn (.lst [])) B (.lst (c.map λq=>V.ref q.1))) q:=λq t=>(hP q (by simp[t])).keep b0;have a7:=b0 _ _ b5;generalize c5:upd (upd H pn (.lst [])) B (.lst (c.map λq=>V.ref q.1))=H2 at L a5 a4 a7 ⊢;refine⟨lp,[x,y],rfl,SqT.of a7,rfl,x,[y],rfl,y,[],rfl,rfl,?_⟩;have c4:1<=d.size:=by cases d<;> simp[Dt.size]
 have c6:zE c+d.size<=50000:=by rw[xE]at a6;simpa[zE]using a6
 have hm:zE c<zE (c++ [(lp,d)]):=by rw[xE];simp[zE];omega
 have fin:∀H3,(∀b o,H2 b=some o->H3 b=some o)->∃m',m'<zE (c++ [(lp,d)])/\WU H0 v u B m' [some v,some u,some (.ref B),some x,some y,k] H3:=λH3 k3=>
  ⟨zE c,hm,c,some x,some y,k,rfl,L.trans k3,k3 _ _ a5,λq t=>(a4 q t).keep λa N e=>k3 _ _ e,rfl,by omega⟩
 refine⟨_,rfl,z2,λp1 b9=>?_⟩;have j:xJ H2 (upd H2 p1 (.tup [.ty "list",.ty "tuple"])):=yE b9 _;cases d with
 |non=>
  have ex:x= .non:=by unfold Is at hx;exact hx
  have ey:y= .non:=by unfold Is at hy;exact hy
  subst ex;subst ey;refine⟨_,p1,"list","tuple",_,_,_,rfl,SqT.of yB,.non,jV _,uZ _,_,rfl,onF rfl ?_⟩;refine⟨_,rfl,rfl,_,rfl,onT rfl ?_⟩;refine⟨_,rfl,rfl,_,rfl,onF rfl ?_⟩;exact fin _ j
 |bl b=>unfold nb at G;cases G
 |int n=>
  have ex:x= .int n:=by unfold Is at hx;exact hx
  have ey:y= .int n:=by unfold Is at hy;exact hy
  subst ex;subst ey;refine⟨_,p1,"list","tuple",_,_,_,rfl,SqT.of yB,.int n,aQ7 _,aQA _,_,rfl,onF rfl ?_⟩;refine⟨_,rfl,rfl,_,rfl,onF rfl ?_⟩;refine⟨_,rfl,_,"str",_,_,rfl,.int n,qS _,_,rfl,onF rfl ?_⟩;refine⟨_,rfl,n,rfl,_,rfl,onF rfl ⟨_,rfl,_,rfl,rfl,_,rfl,onF (by simp) ?_⟩⟩;exact fin _ j
 |str z=>
  have ex:x= .str z:=by unfold Is at hx;exact hx
  have ey:y= .str z:=by unfold Is at hy;exact hy
  subst ex;subst ey;refine⟨_,p1,"list","tuple",_,_,_,rfl,SqT.of yB,.str z,aQ9 _,aQB _,_,rfl,onF rfl ?_⟩;refine⟨_,rfl,rfl,_,rfl,onF rfl ?_⟩;refine⟨_,rfl,_,"str",_,_,rfl,.str z,jA _,_,rfl,onT rfl ?_⟩;refine⟨_,rfl,_,"str",_,_,rfl,.str z,jA _,_,rfl,onF rfl ⟨_,rfl,_,rfl,rfl,_,rfl,onF (by simp) ?_⟩⟩;exact fin _ j
 |lst g=>
  unfold Is at hx hy;obtain⟨a,N,rfl,ha,U⟩:=hx;obtain⟨b,ys,rfl,hb,Z⟩:=hy;have lx:=U.length;have ly:=Z.length;have a2:=L _ _ ha;have O:=L _ _ hb;have c1:wB g+1<=50000:=by
   have:Dt.size (.lst g)=1+wB g:=by simp[Dt.size]
   omega
  have b6:g.length<=wB g:=qG g;have G:nbs g=true:=by unfold nb at G;exact G
  refine⟨_,p1,"list","tuple",_,_,_,rfl,SqT.of yB,.lst (j _ _ O),zF _,wY _,_,rfl,onT rfl ?_⟩;refine⟨_,rfl,_,"list",_,_,rfl,.lst (j _ _ a2),zF _,_,rfl,_,"list",_,_,rfl,.lst (j _ _ O),zF _,rfl,_,rfl,onF rfl ?_⟩;refine⟨_,rfl,_,"tuple",_,_,rfl,.lst (j _ _ a2),wY _,_,rfl,_,"tuple",_,_,rfl,.lst (j _ _ O),wY _,rfl,_,rfl,onF rfl ?_⟩;refine⟨_,rfl,a,_,rfl,.inl (SqL.of (j _ _ a2)),_,rfl,b,_,rfl,.inl (SqL.of (j _ _ O)),rfl,_,rfl,onF (by simp[lx,ly]) ?_⟩;refine⟨_,rfl,b,_,rfl,.inl (SqL.of (j _ _ O)),_,rfl,by omega,by omega,?_⟩;have R:Dt.size (.lst g)=1+wB g:=by simp[Dt.size]
  generalize c2:upd H2 p1 (.tup [.ty "list",.ty "tuple"])=H3 at j ⊢;refine vO (λi D I=>∃ (C:List (Nat×Dt))(kk:Option V),D= [some v,some u,some (.ref B),some (.ref a),some (.ref b),kk]/\xJ H0 I/\I B=some (.lst ((c++C).map λq=> .ref q.1))/\(∀q∈c++C,bVz H0 I q)/\C.map (·.2)=g.take i) ?_ ?_ ?_
  ·exact⟨[],k,rfl,L.trans j,by rw[cXC];exact j _ _ a5,λq t=>(a4 q (by simpa using t)).keep λa N e=>j _ _ e,rfl⟩
  ·rintro i D I hi ⟨C,kk,rfl,S,W,h3,X⟩;have J:i<g.length:=by rw[<- ly];omega
   obtain⟨xi,ex,ix⟩:=U.get (cQw J);obtain⟨yi,ey,iy⟩:=Z.get (cQw J);show aV7 _ _ _ _;have sa:Sq K I a N:=Sq.same S (.inl ha);have sb:Sq K I b ys:=Sq.same S (.inl hb);refine⟨_,rfl,.inl ⟨rfl,_,SqL.of W⟩,_,rfl,_,rfl,?_⟩;rw[cZX];refine sa.ix ex ⟨_,rfl,_,rfl,?_⟩;refine sb.ix ey ⟨z2,λp hp=>?_⟩;have c3:C.length=i:=by have:=congrArg cZH X;simp at this;omega
   have b8:=qK c;have M:upd I p (.tup [xi,yi]) B=some (.lst ((c++C).map λq=> .ref q.1)):=by rw[yJ (yI W hp)];exact W
   refine⟨B,_,.ref p,rfl,rfl,M,zlt (by simp;omega),C++ [(p,g[i])],_,rfl,zZ (S.trans (yE hp _)) a1,?_,?_,?_⟩
   ·rw[yB];simp
   ·intro q t;rw[<- cXJ,cQ4]at t;rcases t with t|t
    ·exact(h3 q t).keep λa N e=>vS M _ _ (qL hp _ _ e)
    ·rw[cQL.mp t];exact⟨xi,yi,vS M _ _ yB,ix,iy,aVr J G⟩
   ·rw[cXU,X,cXx,cQw J];rfl
  ·rintro D I ⟨C,kk,rfl,S,W,h3,X⟩;have e1:g.take ((ys.length:Nat):Int).toNat=g:=by rw[cQ6,ly,cXs]
   rw[e1]at X;have e2:=uI X;refine⟨zE (c++C),?_,c++C,some (.ref a),some (.ref b),kk,rfl,S,W,h3,rfl,?_⟩
   ·rw[xE,xE,e2];simp[zE,R]
   ·rw[xE,e2];omega
 |tup g=>
  unfold Is at hx hy;obtain⟨a,N,rfl,ha,U⟩:=hx;obtain⟨b,ys,rfl,hb,Z⟩:=hy;have lx:=U.length;have ly:=Z.length;have a2:=L _ _ ha;have O:=L _ _ hb;have c1:wB g+1<=50000:=by
   have:Dt.size (.tup g)=1+wB g:=by simp[Dt.size]
   omega
  have b6:g.length<=wB g:=qG g;have G:nbs g=true:=by unfold nb at G;exact G
  refine⟨_,p1,"list","tuple",_,_,_,rfl,SqT.of yB,.tup (j _ _ O),zO _,wN _,_,rfl,onT rfl ?_⟩;refine⟨_,rfl,_,"list",_,_,rfl,.tup (j _ _ a2),zO _,_,rfl,_,"list",_,_,rfl,.tup (j _ _ O),zO _,rfl,_,rfl,onF rfl ?_⟩;refine⟨_,rfl,_,"tuple",_,_,rfl,.tup (j _ _ a2),wN _,_,rfl,_,"tuple",_,_,rfl,.tup (j _ _ O),wN _,rfl,_,rfl,onF rfl ?_⟩;refine⟨_,rfl,a,_,rfl,.inr (SqT.of (j _ _ a2)),_,rfl,b,_,rfl,.inr (SqT.of (j _ _ O)),rfl,_,rfl,onF (by simp[lx,ly]) ?_⟩;refine⟨_,rfl,b,_,rfl,.inr (SqT.of (j _ _ O)),_,rfl,by omega,by omega,?_⟩;have R:Dt.size (.tup g)=1+wB g:=by simp[Dt.size]
  generalize c2:upd H2 p1 (.tup [.ty "list",.ty "tuple"])=H3 at j ⊢;refine vO (λi D I=>∃ (C:List (Nat×Dt))(kk:Option V),D= [some v,some u,some (.ref B),some (.ref a),some (.ref b),kk]/\xJ H0 I/\I B=some (.lst ((c++C).map λq=> .ref q.1))/\(∀q∈c++C,bVz H0 I q)/\C.map (·.2)=g.take i) ?_ ?_ ?_
  ·exact⟨[],k,rfl,L.trans j,by rw[cXC];exact j _ _ a5,λq t=>(a4 q (by simpa using t)).keep λa N e=>j _ _ e,rfl⟩
  ·rintro i D I hi ⟨C,kk,rfl,S,W,h3,X⟩;have J:i<g.length:=by rw[<- ly];omega
   obtain⟨xi,ex,ix⟩:=U.get (cQw J);obtain⟨yi,ey,iy⟩:=Z.get (cQw J);show aV7 _ _ _ _;have sa:Sq K I a N:=Sq.same S (.inr ha);have sb:Sq K I b ys:=Sq.same S (.inr hb);refine⟨_,rfl,.inl ⟨rfl,_,SqL.of W⟩,_,rfl,_,rfl,?_⟩;rw[cZX];refine sa.ix ex ⟨_,rfl,_,rfl,?_⟩;refine sb.ix ey ⟨z2,λp hp=>?_⟩;have c3:C.length=i:=by have:=congrArg cZH X;simp at this;omega
   have b8:=qK c;have M:upd I p (.tup [xi,yi]) B=some (.lst ((c++C).map λq=> .ref q.1)):=by rw[yJ (yI W hp)];exact W
   refine⟨B,_,.ref p,rfl,rfl,M,zlt (by simp;omega),C++ [(p,g[i])],_,rfl,zZ (S.trans (yE hp _)) a1,?_,?_,?_⟩
   ·rw[yB];simp
   ·intro q t;rw[<- cXJ,cQ4]at t;rcases t with t|t
    ·exact(h3 q t).keep λa N e=>vS M _ _ (qL hp _ _ e)
    ·rw[cQL.mp t];exact⟨xi,yi,vS M _ _ yB,ix,iy,aVr J G⟩
   ·rw[cXU,X,cXx,cQw J];rfl
  ·rintro D I ⟨C,kk,rfl,S,W,h3,X⟩;have e1:g.take ((ys.length:Nat):Int).toNat=g:=by rw[cQ6,ly,cXs]
   rw[e1]at X;have e2:=uI X;refine⟨zE (c++C),?_,c++C,some (.ref a),some (.ref b),kk,rfl,S,W,h3,rfl,?_⟩
   ·rw[xE,xE,e2];simp[zE,R]
   ·rw[xE,e2];omega
end
end Alike
namespace Alike
open PySem L2 PyProof.Rows
open Bk (Row Rows xZ xV Ans)
open Desk (xP uA stV xH)
def vDt:V->Dt
 |.int n=> .int n
 |.str x=> .str x
 |_=> .non
def aW5(v:V):Prop:=v= .non\/(∃n,v= .int n)\/∃x,v= .str x
def aW5.is{H:Hp}{v:V}(h:aW5 v):Is H v (vDt v):=by
 rcases h with rfl|⟨n,rfl⟩|⟨x,rfl⟩
 ·show Is H .non .non;unfold Is;rfl
 ·show Is H (.int n) (.int n);unfold Is;rfl
 ·show Is H (.str x) (.str x);unfold Is;rfl
def jK{H:Hp}:∀ {xs:List V},(∀v∈xs,aW5 v)->wD H xs (xs.map vDt)
 |[],_=>by show wD H [] [];unfold wD;trivial
 |x::xs,h=>by show wD H (x::xs) (vDt x::xs.map vDt);unfold wD;exact⟨(h x cQM).is,jK λv a=>h v (cQI _ a)⟩
def zX{H:Hp}{α:Type}{F:V->α->Prop}{g:α->Dt}(b:∀v a,F v a->Is H v (g a)):∀ {vs:List V} {c:List α},cXn F vs c->wD H vs (c.map g)
 |_,_,.nil=>by show wD H [] [];unfold wD;trivial
 |_,_,.cons r t=>by rw[cXb];unfold wD;exact⟨b _ _ r,zX b t⟩
def bY4(v:V):nb (vDt v)=true:=by cases v<;> (unfold vDt;unfold nb;rfl)
def aQf{α:Type}{g:α->Dt}(h:∀a,nb (g a)=true):∀l:List α,nbs (l.map g)=true
 |[]=>by show nbs []=true;unfold nbs;rfl
 |a::l=>by rw[cXb];unfold nbs;rw[h a,aQf h l];rfl
def aWX(r:Row):∀v∈stV r,aW5 v:=by
 intro v a;unfold stV at a;simp only[cQG,cVq,or_false]at a;rcases a with rfl|rfl|rfl|rfl|rfl|rfl
 ·exact .inr (.inr ⟨_,rfl⟩)
 ·exact .inr (.inl ⟨_,rfl⟩)
 ·exact .inr (.inr ⟨_,rfl⟩)
 ·exact .inr (.inl ⟨_,rfl⟩)
 ·cases r.link with
  |none=>exact .inl rfl
  |some j=>exact .inr (.inl ⟨_,rfl⟩)
 ·unfold Desk.W4;split
  ·exact .inl rfl
  ·exact .inr (.inr ⟨_,rfl⟩)
def jJ:Ans->Dt
 |.num n=> .int n
 |.txt x=> .str x
 |.nums l=> .lst (l.map λi=> .int (i:Nat))
 |.txts l=> .lst (l.map .str)
 |.row r=> .tup ((stV r).map vDt)
def uV(r:Row):Dt:=if r.void then .str "void" else .tup ((stV r).map vDt)
def aYS{H:Hp}{p:Nat}{xs:List V}(h:H p=some (.tup xs))(k:∀v∈xs,aW5 v):Is H (.ref p) (.tup (xs.map vDt)):=by
 unfold Is;exact⟨p,xs,rfl,h,jK k⟩
def aJp{o:List Nat}{H:Hp}{a:Ans}{v:V}(h:uA o H a v):Is H v (jJ a):=by
 cases a with
 |num n=>show Is H v (.int n);unfold Is;exact h
 |txt x=>show Is H v (.str x);unfold Is;exact h
 |nums l=>
  obtain⟨p,e,_,q⟩:=h;show Is H v (.lst (l.map λi=> .int (i:Nat)));unfold Is;refine⟨p,_,e,q,?_⟩;have:=jK (H:=H) (xs:=l.map λi=>V.int (i:Nat)) λv b=>by obtain⟨i,_,rfl⟩:=cXr.mp b;exact .inr (.inl ⟨_,rfl⟩)
  rw[cZf]at this;exact this
 |txts l=>
  obtain⟨p,e,_,q⟩:=h;show Is H v (.lst (l.map .str));unfold Is;refine⟨p,_,e,q,?_⟩;have:=jK (H:=H) (xs:=l.map V.str) λv b=>by obtain⟨i,_,rfl⟩:=cXr.mp b;exact .inr (.inr ⟨_,rfl⟩)
  rw[cZf]at this;exact this
 |row r=>obtain⟨p,e,_,q⟩:=h;subst e;exact aYS q (aWX r)
def aQO{H:Hp}{r:Row}{v:V}(h:xH H r v):Is H v (uV r):=by
 unfold xH at h;unfold uV;split
 ·rename_i e;rw[if_pos e]at h;unfold Is;exact h
 ·rename_i e;rw[if_neg e]at h;obtain⟨p,e,q⟩:=h;subst e;exact aYS q (aWX r)
def bVa(a:Ans):nb (jJ a)=true:=by
 cases a with
 |num n=>show nb (.int n)=true;unfold nb;rfl
 |txt x=>show nb (.str x)=true;unfold nb;rfl
 |nums l=>show nb (.lst (l.map λi=> .int (i:Nat)))=true;unfold nb;exact aQf (λi=>by unfold nb;rfl) l
 |txts l=>show nb (.lst (l.map .str))=true;unfold nb;exact aQf (λi=>by unfold nb;rfl) l
 |row r=>show nb (.tup ((stV r).map vDt))=true;unfold nb;exact aQf bY4 _
def bZz(r:Row):nb (uV r)=true:=by
 unfold uV;split
 ·unfold nb;rfl
 ·unfold nb;exact aQf bY4 _
end Alike
namespace Alike
open PySem L2 PyProof.Rows
open Bk (Row Rows xZ xV Ans)
open Desk (xP uA stV xH Up Run)
def aQP:∀ (n:Nat)(l:List Nat),l.Nodup->(∀k∈l,k<n)->l.length<=n
 |0,l,_,h=>by
  cases l with
  |nil=>exact cQE _
  |cons a r=>exact absurd (h a cQM) (cZg _)
 |n+1,l,nd,h=>by
  by_cases d:n∈l
  ·have:=aQP n (l.erase n) (nd.erase n) λk b=>by
    have c:=(cV7 nd).mp b;have e:=h k c.2;have f:=c.1;omega
   rw[cV8 d]at this;omega
  ·have:=aQP n l nd λk b=>by
    have e:=h k b;have f:k≠n:=λz=>d (by rw[<- z];exact b);omega
   omega
def jF{α:Type}{g:α->Dt}(h:∀a,(g a).size=1):∀l:List α,wB (l.map g)=l.length
 |[]=>by simp[wB]
 |a::l=>by rw[cXb];show(g a).size+wB (l.map g)=l.length+1;rw[h a,jF h l];omega
def aWG{α:Type}{g:α->Dt}{c:Nat}:∀ (l:List α),(∀a∈l,(g a).size<=c)->wB (l.map g)<=l.length*c
 |[],_=>by simp[wB]
 |a::l,h=>by rw[cXb,cXy,Nat.succ_mul];show(g a).size+wB (l.map g)<=_;have e:=h a cQM;have f:=aWG l λb d=>h b (cQI _ d);omega
def bVt(v:V):(vDt v).size=1:=by cases v<;> simp[vDt,Dt.size]
def aZi(r:Row):(uV r).size<=7:=by
 unfold uV;split
 ·simp[Dt.size]
 ·have h:Dt.size (.tup ((stV r).map vDt))=1+wB ((stV r).map vDt):=by simp[Dt.size]
  rw[h,jF bVt];simp[stV]
def bXQ{R:Rows}(t:Bk.qN R){k:Nat}:(Bk.thr R k).length<=R.length:=by
 obtain⟨d,o,b,c⟩:=Bk.Q0 t k;refine aQP _ _ (b.imp λ{x y} h z=>?_) λj a=>((c j).mp a).1;rw[z,Stree.vX]at h;cases h
def bKS{R:Rows}{S:List Int}{d:Int}{a:Bool}{l:List Nat}(h:Bk.bJW R S d a l):l.length<=R.length:=by
 refine aQP _ _ (h.ord.imp λ{x y} h z=>?_) λj b=>((h.mem j).mp b).1;rw[z,Stree.vW]at h;cases h
def J2(l:List Nat):(jJ (.nums l)).size=1+l.length:=by
 have h:(jJ (.nums l)).size=1+wB (l.map λi=>Dt.int (i:Nat)):=by unfold jJ;simp[Dt.size]
 rw[h,jF (λi=>by simp[Dt.size])]
def bXY{t:Nat}{R j:Rows}{S l:List Int}{e:xV}{a:Ans}(h:xZ R S e a j l)(g:Bk.Z5 R)(f:Up t R S):(jJ a).size<=t+7:=by
 have d:∀x:Str,(jJ (.txt x)).size=1:=λx=>by unfold jJ;simp[Dt.size]
 have b:∀n:Int,(jJ (.num n)).size=1:=λn=>by unfold jJ;simp[Dt.size]
 have m:=f.r;cases h<;> (try rw[d])<;> (try rw[b])<;> try omega
 case state hk hv=>
  rename_i k r;have h:(jJ (.row r)).size=1+wB ((stV r).map vDt):=by unfold jJ;simp[Dt.size]
  rw[h,jF bVt];simp[stV]
 case thread hk hv=>
  rename_i k r;rw[J2];have:=bXQ g.tree (k:=k);omega
 case copies hk hv=>
  rename_i k r;have h:(jJ (.txts r.copies)).size=1+wB (r.copies.map Dt.str):=by unfold jJ;simp[Dt.size]
  rw[h,jF (λi=>by simp[Dt.size])];have:=f.c r (cQP hk);omega
 case letters=>
  rw[J2];refine cQ7 (Nat.add_le_add_left (cXu _ _) 1) ?_;rw[cXp];omega
 case on h=>
  rw[J2];have:=bKS h;omega
def aJL:∀ (n:Nat) {b:List xV} {i:List Ans} {c:Rows} {j:List Int},b.length=n->(∀e∈b,Desk.Wf e)->Run [] [] b i c j->Up n c j/\Bk.Z5 c/\∀a∈i,(jJ a).size<=n+7
 |0,b,i,c,j,hn,hw,h=>by
  rcases h.inv with⟨_,rfl,rfl,rfl⟩|⟨_,_,_,_,_,_,rfl,_⟩
  ·exact⟨⟨cQE _,cQE _,λr h=>by simp at h⟩,Bk.aZm,λa h=>by simp at h⟩
  ·simp at hn
 |n+1,b,i,c,j,hn,hw,h=>by
  rcases h.inv with⟨rfl,_⟩|⟨v,e,p,a,y,z,rfl,rfl,g,d⟩
  ·simp at hn
  ·obtain⟨l,m,o⟩:=aJL n (by simpa using hn) (λe q=>hw e (cZl _ q)) g;have k:=hw e (by simp);refine⟨l.done d,Bk.xZ.book m (λu d w t s=>by subst s;exact k) d,λx f=>?_⟩;rcases cQ4.mp f with f|f
   ·have:=o x f;omega
   ·rw[cQL.mp f];have:=bXY d m l;omega
end Alike
namespace Alike
open PySem L2 PyProof.Rows
open Law (xM)
abbrev aXw:Stmt:=xM "_law_unturned"
abbrev sAt:Stmt:=xM "_law_at"
def aWJ(K:cQz):Sp:=λc H Q _=>∃ (a:Nat)(b:List Int)(k:Nat),c= [.ref a,.int (k:Int)]/\SqL K H a (b.map V.int)/\Q (.int (b.getD k 0)) H
section
variable {K:cQz}
def bWN:yO ["_law_script","_law_k"] ["_law_script","_law_k"] (yH sAt):=scM
seal PE PA PS PSs PT in
def bV9(T:uJ mg)(F:Fun K "_law_at" "_law_at" sAt f fd):xL P w K mg base CX0 1 f fd ["_law_script","_law_k"] (aWJ K):=by
 have j:=bWN;refine F.ok (k:=0) j (λl A outer s H m Q E n h=>?_);obtain⟨a,b,k,rfl,i,q⟩:=h;refine⟨_,(yC (xA (yM uM (pv 1) (yR yN rfl T.b_len xG (yA (pv 0) yD))) (yF (yP (yL yK (pv 0) (pv 1)))) yS) (yF (yP yG))),?_⟩;refine⟨_,rfl,_,rfl,a,_,rfl,.inl i,_,_,rfl,rfl,_,rfl,?_⟩;refine X2 (λc=>?_) (λc=>?_)
 ·have d:=of_decide_eq_true c;have g:k<b.length:=by rw[cQB]at d;omega
  refine⟨_,rfl,_,rfl,a,_,_,.int (b.getD k 0),rfl,rfl,i,yT ?_,q⟩;simp[cQR,cXk,cQw g]
 ·have d:=of_decide_eq_false (Bool.eq_false_iff.mpr c);have g:¬k<b.length:=by rw[cQB]at d;omega
  have e:b.getD k 0=0:=by simp[cXk,cXa (show b.length<=k by omega)]
  rw[e]at q;exact q
end
def aJ6(a H:Hp)(q:Nat×Dt):Prop:=∃x y,H q.1=some (.tup [x,y])/\Is a x q.2/\Is a y q.2
def aJ6.keep{d H c:Hp}{q:Nat×Dt}(p:aJ6 d H q)(k:∀a b,H a=some (.tup b)->c a=some (.tup b)):aJ6 d c q:=let ⟨x,y,h,r⟩:=p;⟨x,y,k _ _ h,r⟩
def WUU(b:Hp)(v u:V)(c:Nat)(m:Nat)(σ:L2.St)(H:Hp):Prop:=∃a l r k,σ= [some v,some u,some (.ref c),l,r,k]/\xJ b H/\H c=some (.lst (a.map λq=> .ref q.1))/\(∀q∈a,aJ6 b H q)/\m=zE a/\zE a<=1000
def aZh:Sp:=λb H Q _=>∃v u d,b= [v,u]/\Is H v d/\Is H u d/\d.size<=1000/\∀a,xJ H a->Q (.bl true) a
section
variable {K:cQz}
def aV2:yO ["_law_found","_law_due","_law_todo","_law_left","_law_right","_law_k"] ["_law_found","_law_due"] (yH aXw):=scM
seal PE PA PS PSs PT in
def aVC(T:uJ mg)(F:Fun K "_law_unturned" "_law_unturned" aXw f fd):xL P w K mg base CX0 1 f fd ["_law_found","_law_due"] aZh:=by
 have sc:=aV2;refine F.ok (k:=0) sc (λc7 A outer s H0 vs Q E hr h=>?_);obtain⟨v,u,d,rfl,hv,hu,hd,q⟩:=h;refine⟨_,(yC (yU (i:=2) (xB (yA (xK (yA (pv 0) (yA (pv 1) yD))) yD))) (yC (jO cXo (yM (jM hr.units0) (pv 2) (xB yD)) (yC (uQ (bQF cQ3 cVs cVt bQd (pv 2)) (aWy rfl (wI (xI (i:=3)) (wI (xI (i:=4)) aZC)))) (yF (xA (zA (yR Z8 rfl T.b_isinstance yY (yA (pv 4) (yA (xK (yA (xX (v:= .ty "list") rfl T.b_list wK rfl) (yA (xX (v:= .ty "tuple") rfl T.b_tuple vT rfl) yD))) yD)))) (yC (xA (yM J7 (yR zH rfl T.b_isinstance yY (yA (pv 3) (yA (xX (v:= .ty "list") rfl T.b_list wK rfl) yD))) (yR zH rfl T.b_isinstance yY (yA (pv 4) (yA (xX (v:= .ty "list") rfl T.b_list wK rfl) yD)))) (yF (yP vQ)) yS) (yC (xA (PW.pt (Y5 (vH (zA (yR Z8 rfl T.b_isinstance yY (yA (pv 3) (yA (xK (yA (xX (v:= .ty "list") rfl T.b_list wK rfl) (yA (xX (v:= .ty "tuple") rfl T.b_tuple vT rfl) yD))) yD))))) (uR (yM J7 (yR yN rfl T.b_len xG (yA (pv 3) yD)) (yR yN rfl T.b_len xG (yA (pv 4) yD)))))) (yF (yP vQ)) yS) (yF (wT cXo rfl (zY rfl T.b_range (yA (yR yN rfl T.b_len xG (yA (pv 4) yD)) yD)) (xI (i:=5)) (yF (yZ (jC cQ3 cXc cXd xR (pv 2) (yA (xK (yA (yL aWk (pv 3) (pv 5)) (yA (yL aWk (pv 4) (pv 5)) yD))) yD)))))))) (yF (xA (PW.pt (Y5 (yM aX9 (pv 3) zL) (uR (yM aX9 (pv 4) zL)))) (yF (xA (PW.pt (Y5 (yM wZ (pv 3) zL) (uR (yM wZ (pv 4) zL)))) (yF (yP vQ)) yS)) (yF (xA (yM J7 (yR zH rfl T.b_isinstance yY (yA (pv 3) (yA (xX (v:= .ty "bool") rfl T.b_bool aVc rfl) yD))) (yR zH rfl T.b_isinstance yY (yA (pv 4) (yA (xX (v:= .ty "bool") rfl T.b_bool aVc rfl) yD)))) (yF (yP vQ)) (yF (xA (yM J7 (yR zH rfl T.b_isinstance yY (yA (pv 3) (yA (xX (v:= .ty "str") rfl T.b_str aJe rfl) yD))) (yR zH rfl T.b_isinstance yY (yA (pv 4) (yA (xX (v:= .ty "str") rfl T.b_str aJe rfl) yD)))) (yF (yP vQ)) (yF (xA (PW.pt (Y5 (vH (zA (yR Z8 rfl T.b_isinstance yY (yA (pv 3) (yA (xK (yA (xX (v:= .ty "str") rfl T.b_str aJe rfl) (yA (xX (v:= .ty "int") rfl T.b_int qC rfl) yD))) yD))))) (uR (yM J7 (pv 3) (pv 4))))) (yF (yP vQ)) yS)))))))))))) (yF (yP vQ)))),?_⟩;refine⟨_,rfl,_,rfl,z2,λp0 b3=>⟨z1,λt b4=>?_⟩⟩;have a3:H0 t=none:=(yE b3 _).fresh b4;refine⟨WUU H0 v u t,⟨d.size,[(p0,d)],none,none,none,rfl,zZ (yE b3 _) a3,yB,?_,by simp[zE],by simpa[zE]using hd⟩,?_⟩
 ·intro q j;rw[cQL.mp j];exact⟨v,u,qL b4 _ _ yB,hv,hu⟩
 rintro m σ H ⟨qs,l,r,k,rfl,hk,hT,hP,rfl,a7⟩;refine⟨_,rfl,z0,λpn a1=>?_⟩;have c0:pn≠t:=cXg (yI hT a1);have a4:upd H pn (.lst []) t=some (.lst (qs.map λq=> .ref q.1)):=by rw[yJ (cXg c0)];exact hT
 refine⟨t,pn,_,rfl,rfl,SqL.of a4,SqL.of yB,_,rfl,?_⟩;by_cases b5:qs= []
 ·subst b5;rw[if_neg (by decide)];exact q _ (hk.trans (yE a1 _))
 obtain⟨c,⟨lp,d⟩,rfl⟩:=aZX b5;rw[if_pos (by simp)];refine⟨λC D=>∃m',m'<zE (c++ [(lp,d)])/\WUU H0 v u t m' C D,λC D z=>z,?_⟩;obtain⟨x,y,b6,N,R⟩:=hP (lp,d) (by simp);have b0:((c++ [(lp,d)]).map λq=>V.ref q.1)[((c++ [(lp,d)]).map λq=>V.ref q.1).length - 1]? =some (.ref lp):=by simp
 have a9:((c++ [(lp,d)]).map λq=>V.ref q.1).dropLast=c.map λq=>V.ref q.1:=by simp
 have b1:∀a O,H a=some (.tup O)->upd (upd H pn (.lst [])) t (.lst (c.map λq=>V.ref q.1)) a=some (.tup O):=λa O e=>vS a4 _ _ (qL a1 _ _ e);refine⟨_,rfl,.inl ⟨rfl,_,SqL.of a4⟩,t,_,.ref lp,rfl,rfl,a4,b0,?_⟩;rw[a9];have I:xJ H0 (upd (upd H pn (.lst [])) t (.lst (c.map λq=>V.ref q.1))):=zZ (hk.trans (yE a1 _)) a3;have a6:upd (upd H pn (.lst [])) t (.lst (c.map λq=>V.ref q.1)) t=some (.lst (c.map λq=> .ref q.1)):=yB;have a5:∀q∈c,aJ6 H0 (upd (upd H pn (.lst [])) t (.lst (c.map λq=>V.ref q.1))) q:=λq j=>(hP q (by simp[j])).keep b1;have a8:=b1 _ _ b6;generalize c5:upd (upd H pn (.lst [])) t (.lst (c.map λq=>V.ref q.1))=H2 at I a6 a5 a8 ⊢;refine⟨lp,[x,y],rfl,SqT.of a8,rfl,x,[y],rfl,y,[],rfl,rfl,?_⟩;have c4:1<=d.size:=by cases d<;> simp[Dt.size]
 have c6:zE c+d.size<=1000:=by rw[xE]at a7;simpa[zE]using a7
 have hm:zE c<zE (c++ [(lp,d)]):=by rw[xE];simp[zE];omega
 have fin:∀H3,(∀b o,H2 b=some o->H3 b=some o)->∃m',m'<zE (c++ [(lp,d)])/\WUU H0 v u t m' [some v,some u,some (.ref t),some x,some y,k] H3:=λH3 k3=>
  ⟨zE c,hm,c,some x,some y,k,rfl,I.trans k3,k3 _ _ a6,λq j=>(a5 q j).keep λa O e=>k3 _ _ e,rfl,by omega⟩
 refine⟨_,rfl,z2,λp1 b9=>?_⟩;have S:xJ H2 (upd H2 p1 (.tup [.ty "list",.ty "tuple"])):=yE b9 _;cases d with
 |non=>
  have ex:x= .non:=by unfold Is at N;exact N
  have W:y= .non:=by unfold Is at R;exact R
  subst ex;subst W;refine⟨_,p1,"list","tuple",_,_,_,rfl,SqT.of yB,.non,jV _,uZ _,_,rfl,onF rfl ?_⟩;refine⟨_,rfl,rfl,_,rfl,onT rfl (onT rfl ?_)⟩;refine⟨_,rfl,rfl,_,rfl,onF rfl ?_⟩;refine⟨_,rfl,rfl,_,rfl,onF rfl ?_⟩;exact fin _ S
 |bl b=>
  have ex:x= .bl b:=by unfold Is at N;exact N
  have W:y= .bl b:=by unfold Is at R;exact R
  subst ex;subst W;refine⟨_,p1,"list","tuple",_,_,_,rfl,SqT.of yB,.bl b,aJt _,aZu _,_,rfl,onF rfl ?_⟩;refine⟨_,rfl,rfl,_,rfl,onF rfl ?_⟩;refine⟨_,rfl,rfl,_,rfl,onF rfl ?_⟩;refine⟨_,rfl,_,"bool",_,_,rfl,.bl b,aQz _,_,rfl,_,"bool",_,_,rfl,.bl b,aQz _,rfl,_,rfl,onF rfl ?_⟩;refine⟨_,rfl,_,"str",_,_,rfl,.bl b,X3 _,_,rfl,_,"str",_,_,rfl,.bl b,X3 _,rfl,_,rfl,onF rfl ?_⟩;refine⟨_,rfl,z2,λp2 G=>?_⟩;refine⟨_,p2,"str","int",_,_,_,rfl,SqT.of yB,.bl b,X3 _,aVm _,_,rfl,onF rfl ?_⟩;refine⟨_,rfl,_,rfl,rfl,_,rfl,onF (by simp) ?_⟩;exact fin _ (S.trans (yE G _))
 |int n=>
  have ex:x= .int n:=by unfold Is at N;exact N
  have W:y= .int n:=by unfold Is at R;exact R
  subst ex;subst W;refine⟨_,p1,"list","tuple",_,_,_,rfl,SqT.of yB,.int n,aQ7 _,aQA _,_,rfl,onF rfl ?_⟩;refine⟨_,rfl,rfl,_,rfl,onF rfl ?_⟩;refine⟨_,rfl,rfl,_,rfl,onF rfl ?_⟩;refine⟨_,rfl,_,"bool",_,_,rfl,.int n,X4 _,_,rfl,_,"bool",_,_,rfl,.int n,X4 _,rfl,_,rfl,onF rfl ?_⟩;refine⟨_,rfl,_,"str",_,_,rfl,.int n,qS _,_,rfl,_,"str",_,_,rfl,.int n,qS _,rfl,_,rfl,onF rfl ?_⟩;refine⟨_,rfl,z2,λp2 G=>?_⟩;refine⟨_,p2,"str","int",_,_,_,rfl,SqT.of yB,.int n,qS _,aX5 _,_,rfl,onF rfl ?_⟩;refine⟨_,rfl,_,rfl,rfl,_,rfl,onF (by simp) ?_⟩;exact fin _ (S.trans (yE G _))
 |str z=>
  have ex:x= .str z:=by unfold Is at N;exact N
  have W:y= .str z:=by unfold Is at R;exact R
  subst ex;subst W;refine⟨_,p1,"list","tuple",_,_,_,rfl,SqT.of yB,.str z,aQ9 _,aQB _,_,rfl,onF rfl ?_⟩;refine⟨_,rfl,rfl,_,rfl,onF rfl ?_⟩;refine⟨_,rfl,rfl,_,rfl,onF rfl ?_⟩;refine⟨_,rfl,_,"bool",_,_,rfl,.str z,aQ8 _,_,rfl,_,"bool",_,_,rfl,.str z,aQ8 _,rfl,_,rfl,onF rfl ?_⟩;refine⟨_,rfl,_,"str",_,_,rfl,.str z,jA _,_,rfl,_,"str",_,_,rfl,.str z,jA _,rfl,_,rfl,onF rfl ?_⟩;refine⟨_,rfl,z2,λp2 G=>?_⟩;refine⟨_,p2,"str","int",_,_,_,rfl,SqT.of yB,.str z,jA _,aKn _,_,rfl,onF rfl ?_⟩;refine⟨_,rfl,_,rfl,rfl,_,rfl,onF (by simp) ?_⟩;exact fin _ (S.trans (yE G _))
 |lst g=>
  unfold Is at N R;obtain⟨a,O,rfl,ha,Y⟩:=N;obtain⟨b,ys,rfl,hb,a0⟩:=R;have lx:=Y.length;have ly:=a0.length;have a2:=I _ _ ha;have b2:=I _ _ hb;have c1:wB g+1<=1000:=by
   have:Dt.size (.lst g)=1+wB g:=by simp[Dt.size]
   omega
  have b7:g.length<=wB g:=qG g;refine⟨_,p1,"list","tuple",_,_,_,rfl,SqT.of yB,.lst (S _ _ b2),zF _,wY _,_,rfl,onT rfl ?_⟩;refine⟨_,rfl,_,"list",_,_,rfl,.lst (S _ _ a2),zF _,_,rfl,_,"list",_,_,rfl,.lst (S _ _ b2),zF _,rfl,_,rfl,onF rfl ?_⟩;refine⟨_,rfl,z2,λp2 G=>?_⟩;have J:=S.trans (yE G (.tup [.ty "list",.ty "tuple"]));refine⟨_,p2,"list","tuple",_,_,_,rfl,SqT.of yB,.lst (J _ _ a2),zF _,wY _,_,rfl,onF rfl ?_⟩;refine⟨_,rfl,a,_,rfl,.inl (SqL.of (J _ _ a2)),_,rfl,b,_,rfl,.inl (SqL.of (J _ _ b2)),rfl,_,rfl,onF (by simp[lx,ly]) ?_⟩;refine⟨_,rfl,b,_,rfl,.inl (SqL.of (J _ _ b2)),_,rfl,by omega,by omega,?_⟩;have U:Dt.size (.lst g)=1+wB g:=by simp[Dt.size]
  generalize c2:upd (upd H2 p1 (.tup [.ty "list",.ty "tuple"])) p2 (.tup [.ty "list",.ty "tuple"])=H3 at J ⊢;refine vO (λi C D=>∃ (B:List (Nat×Dt))(kk:Option V),C= [some v,some u,some (.ref t),some (.ref a),some (.ref b),kk]/\xJ H0 D/\D t=some (.lst ((c++B).map λq=> .ref q.1))/\(∀q∈c++B,aJ6 H0 D q)/\B.map (·.2)=g.take i) ?_ ?_ ?_
  ·exact⟨[],k,rfl,I.trans J,by rw[cXC];exact J _ _ a6,λq j=>(a5 q (by simpa using j)).keep λa O e=>J _ _ e,rfl⟩
  ·rintro i C D hi ⟨B,kk,rfl,X,Z,h3,h4⟩;have M:i<g.length:=by rw[<- ly];omega
   obtain⟨xi,ex,ix⟩:=Y.get (cQw M);obtain⟨yi,W,iy⟩:=a0.get (cQw M);show aV7 _ _ _ _;have sa:Sq K D a O:=Sq.same X (.inl ha);have sb:Sq K D b ys:=Sq.same X (.inl hb);refine⟨_,rfl,.inl ⟨rfl,_,SqL.of Z⟩,_,rfl,_,rfl,?_⟩;rw[cZX];refine sa.ix ex ⟨_,rfl,_,rfl,?_⟩;refine sb.ix W ⟨z2,λp hp=>?_⟩;have c3:B.length=i:=by have:=congrArg cZH h4;simp at this;omega
   have b8:=qK c;have L:upd D p (.tup [xi,yi]) t=some (.lst ((c++B).map λq=> .ref q.1)):=by rw[yJ (yI Z hp)];exact Z
   refine⟨t,_,.ref p,rfl,rfl,L,zlt (by simp;omega),B++ [(p,g[i])],_,rfl,zZ (X.trans (yE hp _)) a3,?_,?_,?_⟩
   ·rw[yB];simp
   ·intro q j;rw[<- cXJ,cQ4]at j;rcases j with j|j
    ·exact(h3 q j).keep λa O e=>vS L _ _ (qL hp _ _ e)
    ·rw[cQL.mp j];exact⟨xi,yi,vS L _ _ yB,ix,iy⟩
   ·rw[cXU,h4,cXx,cQw M];rfl
  ·rintro C D ⟨B,kk,rfl,X,Z,h3,h4⟩;have e1:g.take ((ys.length:Nat):Int).toNat=g:=by rw[cQ6,ly,cXs]
   rw[e1]at h4;have e2:=uI h4;refine⟨zE (c++B),?_,c++B,some (.ref a),some (.ref b),kk,rfl,X,Z,h3,rfl,?_⟩
   ·rw[xE,xE,e2];simp[zE,U]
   ·rw[xE,e2];omega
 |tup g=>
  unfold Is at N R;obtain⟨a,O,rfl,ha,Y⟩:=N;obtain⟨b,ys,rfl,hb,a0⟩:=R;have lx:=Y.length;have ly:=a0.length;have a2:=I _ _ ha;have b2:=I _ _ hb;have c1:wB g+1<=1000:=by
   have:Dt.size (.tup g)=1+wB g:=by simp[Dt.size]
   omega
  have b7:g.length<=wB g:=qG g;refine⟨_,p1,"list","tuple",_,_,_,rfl,SqT.of yB,.tup (S _ _ b2),zO _,wN _,_,rfl,onT rfl ?_⟩;refine⟨_,rfl,_,"list",_,_,rfl,.tup (S _ _ a2),zO _,_,rfl,_,"list",_,_,rfl,.tup (S _ _ b2),zO _,rfl,_,rfl,onF rfl ?_⟩;refine⟨_,rfl,z2,λp2 G=>?_⟩;have J:=S.trans (yE G (.tup [.ty "list",.ty "tuple"]));refine⟨_,p2,"list","tuple",_,_,_,rfl,SqT.of yB,.tup (J _ _ a2),zO _,wN _,_,rfl,onF rfl ?_⟩;refine⟨_,rfl,a,_,rfl,.inr (SqT.of (J _ _ a2)),_,rfl,b,_,rfl,.inr (SqT.of (J _ _ b2)),rfl,_,rfl,onF (by simp[lx,ly]) ?_⟩;refine⟨_,rfl,b,_,rfl,.inr (SqT.of (J _ _ b2)),_,rfl,by omega,by omega,?_⟩;have U:Dt.size (.tup g)=1+wB g:=by simp[Dt.size]
  generalize c2:upd (upd H2 p1 (.tup [.ty "list",.ty "tuple"])) p2 (.tup [.ty "list",.ty "tuple"])=H3 at J ⊢;refine vO (λi C D=>∃ (B:List (Nat×Dt))(kk:Option V),C= [some v,some u,some (.ref t),some (.ref a),some (.ref b),kk]/\xJ H0 D/\D t=some (.lst ((c++B).map λq=> .ref q.1))/\(∀q∈c++B,aJ6 H0 D q)/\B.map (·.2)=g.take i) ?_ ?_ ?_
  ·exact⟨[],k,rfl,I.trans J,by rw[cXC];exact J _ _ a6,λq j=>(a5 q (by simpa using j)).keep λa O e=>J _ _ e,rfl⟩
  ·rintro i C D hi ⟨B,kk,rfl,X,Z,h3,h4⟩;have M:i<g.length:=by rw[<- ly];omega
   obtain⟨xi,ex,ix⟩:=Y.get (cQw M);obtain⟨yi,W,iy⟩:=a0.get (cQw M);show aV7 _ _ _ _;have sa:Sq K D a O:=Sq.same X (.inr ha);have sb:Sq K D b ys:=Sq.same X (.inr hb);refine⟨_,rfl,.inl ⟨rfl,_,SqL.of Z⟩,_,rfl,_,rfl,?_⟩;rw[cZX];refine sa.ix ex ⟨_,rfl,_,rfl,?_⟩;refine sb.ix W ⟨z2,λp hp=>?_⟩;have c3:B.length=i:=by have:=congrArg cZH h4;simp at this;omega
   have b8:=qK c;have L:upd D p (.tup [xi,yi]) t=some (.lst ((c++B).map λq=> .ref q.1)):=by rw[yJ (yI Z hp)];exact Z
   refine⟨t,_,.ref p,rfl,rfl,L,zlt (by simp;omega),B++ [(p,g[i])],_,rfl,zZ (X.trans (yE hp _)) a3,?_,?_,?_⟩
   ·rw[yB];simp
   ·intro q j;rw[<- cXJ,cQ4]at j;rcases j with j|j
    ·exact(h3 q j).keep λa O e=>vS L _ _ (qL hp _ _ e)
    ·rw[cQL.mp j];exact⟨xi,yi,vS L _ _ yB,ix,iy⟩
   ·rw[cXU,h4,cXx,cQw M];rfl
  ·rintro C D ⟨B,kk,rfl,X,Z,h3,h4⟩;have e1:g.take ((ys.length:Nat):Int).toNat=g:=by rw[cQ6,ly,cXs]
   rw[e1]at h4;have e2:=uI h4;refine⟨zE (c++B),?_,c++B,some (.ref a),some (.ref b),kk,rfl,X,Z,h3,rfl,?_⟩
   ·rw[xE,xE,e2];simp[zE,U]
   ·rw[xE,e2];omega
end
end Alike
namespace Alike
open PySem L2 PyProof.Rows
open Bk (Row Rows xZ xV Ans)
open Desk (xP uA stV xH Up Run zM Wf jG vZ)
open Law (xM LGo LBk xF aZg jW)
open Thr (vE)
def aWj{H:Hp}{α:Type}{g:α->Dt}:∀ {vs:List V} {b:List α},vs.length=b.length->(∀ (i:Nat) v a,vs[i]? =some v->b[i]? =some a->Is H v (g a))->wD H vs (b.map g)
 |[],[],_,_=>by show wD H [] [];unfold wD;trivial
 |v::vs,a::b,hl,h=>by rw[cXb];unfold wD;exact⟨h 0 v a rfl rfl,aWj (by simpa using hl) λi v a c d=>h (i+1) v a c d⟩
 |[],_::_,hl,_=>by simp at hl
 |_::_,[],hl,_=>by simp at hl
def aQy{H:Hp}{p:Nat}{vs:List V}{ds:List Dt}(h:H p=some (.lst vs))(k:wD H vs ds):Is H (.ref p) (.lst ds):=by
 unfold Is;exact⟨p,vs,rfl,h,k⟩
def bQe{α:Type}{g:α->Dt}(h:∀a,nb (g a)=true)(l:List α):nb (.lst (l.map g))=true:=by unfold nb;exact aQf h l
def aQU{α:Type}{g:α->Dt}{c n:Nat}{l:List α}(h:∀a∈l,(g a).size<=c)(hl:l.length<=n):Dt.size (.lst (l.map g))<=1+n*c:=by
 have b:Dt.size (.lst (l.map g))=1+wB (l.map g):=by simp[Dt.size]
 have d:=aWG l h;have e:l.length*c<=n*c:=cVA _ hl;omega
def Run.cut:∀ (n:Nat) {R c:Rows} {S b:List Int} {f fs:List xV} {cs:List Ans},fs.length=n->Run R S (f++fs) cs c b->∃d bs i j,cs=d++bs/\Run R S f d i j/\Run i j fs bs c b
 |0,R,c,S,b,f,fs,cs,hn,h=>by have e:fs= []:=cZQ hn;subst e;rw[cXC]at h;exact⟨cs,[],c,b,by rw[cXC],h,.nil⟩
 |n+1,R,c,S,b,f,fs,cs,hn,h=>by
  obtain⟨x,g,rfl⟩:=aZX (l:=fs) (by intro z;rw[z]at hn;cases hn);rcases Desk.Run.inv h with⟨z,_⟩|⟨l,e,m,a,i,j,k,q,r,o⟩
  ·rw[<- cXJ]at z;simp at z
  ·rw[<- cXJ]at k;obtain⟨u,w⟩:=cJQ k rfl;cases w;subst u;obtain⟨d,bs,R2,v,t,p,s⟩:=Run.cut n (by simpa using hn) r;exact⟨d,bs++ [a],R2,v,by rw[q,t,cXJ],p,.snoc s o⟩
abbrev aVK:Stmt:=xM "_law_book_of"
abbrev aZO:Stmt:=xM "_law_standing_of"
def aWK:Sp:=λi H Q _=>∃ (f:Nat)(c:List Nat)(a:List xV),i= [.ref f]/\zM H f c a/\a.length<=60/\(∀e∈a,Wf e)/\
 ∀ (t d g:Nat)(b:Hp)(h:List Nat)(j:List Ans),LGo H d g a j b h->b t=some (.tup [.ref d,.ref g])->Q (.ref t) b
def aJY:Sp:=λf H Q _=>∃ (b:Nat)(e:List Nat)(R:Rows),f= [.ref b]/\xF H b e R/\R.length<=60/\
 ∀ (d:Nat)(a:Hp)(c:List V),xJ H a->H d=none->a d=some (.lst c)->cXn (λv r=>xH a r v) c R->Q (.ref d) a
section
variable {K:cQz}
def bXe:yO ["_law_deeds","_law_rows","_law_shut","_law_deed"] ["_law_deeds"] (yH aVK):=scM
seal PE PA PS PSs PT in
def bQo(a:FnG P w K mg base n "_law_done_by" ["_law_rows","_law_shut","_law_deed"] aZg)(F:Fun K "_law_book_of" "_law_book_of" aVK f fd):xL P w K mg base CX0 (n+1) f fd ["_law_deeds"] aWK:=by
 have S:=bXe;refine F.ok (k:=n) S (λU A outer s M Z Q E T h=>?_);obtain⟨J,m,l,rfl,j,hl,H,q⟩:=h;refine⟨_,(yC (yU (i:=1) (xB yD)) (yC (yU (i:=2) (xB yD)) (yC (wT cXo rfl (xN (pv 0)) (xI (i:=3)) (yF (yZ (xU a T rfl (yA (pv 1) (yA (pv 2) (yA (pv 3) yD))))))) (yF (yP (xK (yA (pv 1) (yA (pv 2) yD)))))))),?_⟩;refine⟨z0,λz C=>?_⟩;dsimp only[yW];refine⟨z0,λu I=>?_⟩;dsimp only[yW];have D:=LGo.start C I;generalize upd (upd M z (.lst [])) u (.lst [])=H6 at D ⊢;refine⟨_,rfl,J,rfl,⟨_,SqL.of (D.keep _ _ j.1)⟩,?_⟩;refine zS (xs:=m.map V.ref) (λt σ B=>∃ (e:List Nat)(c:List Ans)(r:Option V),σ= [some (.ref J),some (.ref z),some (.ref u),r]/\LGo M z u (l.take t) c B e) ?_ ?_ ?_ ?_
 ·exact⟨[],[],none,rfl,D⟩
 ·rintro t σ B N ⟨e,c,r,rfl,g⟩;exact SqL.of (g.keep _ _ j.1)
 ·rintro t x σ B o ⟨e,c,r,rfl,g⟩;rw[cQR]at o;cases y:m[t]? with
  |none=>rw[y]at o;cases o
  |some d=>
   rw[y]at o;cases o;have p:t<l.length:=by rw[<- j.2.1];exact(cQK.mp y).1
   have L:=cQw p;dsimp only[yW];refine⟨_,rfl,_,rfl,_,rfl,g.step (H _ (cZk p)) (by rw[cXH];omega) (g.keep _ _ (j.2.2 t d _ y L)) λb v W G R st Y X=>?_⟩;have O:l.take (t+1)=l.take t++ [l[t]]:=by rw[cXx,L];rfl
   exact⟨G,c++ [b],_,rfl,by rw[O];exact R⟩
 rintro σ B ⟨e,c,r,rfl,g⟩;rw[cQB,j.2.1,cXs]at g;dsimp only[aV8];refine⟨_,rfl,_,rfl,z2,λt N=>?_⟩;exact q t z u _ e c (g.same (yE N _)) yB
def aYd:yO ["_law_rows","_law_made","_law_row"] ["_law_rows"] (yH aZO):=scM
seal PE PA PS PSs PT in
def aKQ(T:uJ mg)(F:Fun K "_law_standing_of" "_law_standing_of" aZO f fd):xL P w K mg base CX0 1 f fd ["_law_rows"] aJY:=by
 have sc:=aYd;refine F.ok (k:=0) sc (λa9 A outer s H7 vs Q E hr h=>?_);obtain⟨ra,rs,R,rfl,I,a7,q⟩:=h;refine⟨_,(yC (yU (i:=1) (xB yD)) (yC (wT cXo rfl (xN (pv 0)) (xI (i:=2)) (yF (yZ (jC cQ3 cXc cXd xR (pv 1) (yA (yL yK (xB (yA (zG Z9 rfl T.b_tuple vT (yA (qW aXI (pv 2) aXo (X7 yG)) yD)) (yA yQ yD))) (zG uC rfl T.b_int qC (yA (yL yK (pv 2) yG) yD))) yD))))) (yF (yP (pv 1))))),?_⟩;refine⟨z0,λu n=>?_⟩;dsimp only[yW];have k8:=yE n (.lst []);refine⟨_,rfl,ra,rfl,⟨_,SqL.of (k8 _ _ I.lst)⟩,?_⟩;refine zS (xs:=rs.map V.ref) (λt σ g=>∃ (m:List V)(N:Option V),σ= [some (.ref ra),some (.ref u),N]/\xJ H7 g/\g u=some (.lst m)/\cXn (λv r=>xH g r v) m (R.take t)) ?_ ?_ ?_ ?_
 ·exact⟨[],none,rfl,k8,yB,.nil⟩
 ·rintro t σ g ht ⟨m,N,rfl,B,c,d⟩;exact SqL.of (B _ _ I.lst)
 ·rintro t x σ g L ⟨m,N,rfl,B,c,d⟩;rw[cQR]at L;cases O:rs[t]? with
  |none=>rw[O]at L;cases L
  |some b=>
   rw[O]at L;cases L;have a6:t<R.length:=by rw[<- I.len];exact(cQK.mp O).1
   have C:=cQw a6;obtain⟨l,e1,e2⟩:=I.row t b _ O C;have b9:g b=some (.lst (jW R[t] l)):=B _ _ e1;have a8:m.length=t:=by rw[cZE d,cXH];omega
   dsimp only[yW];refine⟨_,rfl,.inl ⟨rfl,_,SqL.of c⟩,_,rfl,_,rfl,b,_,rfl,SqL.of b9,λM a0=>⟨M,_,rfl,.inl ⟨SqL.of yB,λj X=>⟨z2,λS Z=>?_⟩⟩⟩⟩;have a2:=yE a0 (.lst (qA (jW R[t] l) none (some 6)));have a3:=yE X (.tup (qA (jW R[t] l) none (some 6)));have a4:=yE Z (.lst [.ref j,.str "void"]);have y:=(a2.trans a3).trans a4;have J:=a4 _ _ (yB (H:=upd g M (.lst (qA (jW R[t] l) none (some 6)))) (a:=j) (o:= .tup (qA (jW R[t] l) none (some 6))));have e4:upd (upd (upd g M (.lst (qA (jW R[t] l) none (some 6)))) j (.tup (qA (jW R[t] l) none (some 6)))) S (.lst [.ref j,.str "void"]) S=some (.lst [.ref j,.str "void"]):=yB;generalize upd (upd (upd g M (.lst (qA (jW R[t] l) none (some 6)))) j (.tup (qA (jW R[t] l) none (some 6)))) S (.lst [.ref j,.str "void"])=H10 at y J e4 ⊢;have U:=y _ _ b9;have a1:atI [V.ref j,V.str "void"] (if R[t].void=true then 1 else 0)=some (if R[t].void=true then .str "void" else .ref j):=by cases R[t].void<;> rfl
   refine⟨_,rfl,b,_,6,_,rfl,rfl,SqL.of U,rfl,.inr ⟨_,rfl,S,_,_,_,rfl,rfl,SqL.of e4,a1,u,_,_,rfl,rfl,y _ _ c,zlt (by omega),?_⟩⟩;have G:H7 u=none:=n;have Y:∀D,xJ H7 (upd H10 u (.lst D)):=λD x o e=>by rw[yJ (yI e G)];exact y _ _ (B _ _ e)
   have tk:∀ {x zs D},g x=some (.tup zs)->upd H10 u (.lst D) x=some (.tup zs):=λ{x zs D} e=>by rw[yJ (λz=>by rw[z,c]at e;cases e)];exact y _ _ e
   refine⟨m++ [if R[t].void=true then .str "void" else .ref j],_,rfl,Y _,yB,?_⟩;have et:R.take (t+1)=R.take t++ [R[t]]:=by rw[cXx,C];rfl
   rw[et];refine cVj (Desk.wH (λv r z=>?_) d) ?_
   ·unfold xH at z ⊢;split
    ·rename_i e;rw[if_pos e]at z;exact z
    ·rename_i e;rw[if_neg e]at z;obtain⟨p,e,q⟩:=z;exact⟨p,e,tk q⟩
   ·unfold xH;cases hv:R[t].void with
    |true=>exact rfl
    |false=>
     have W:qA (jW R[t] l) none (some 6)=stV R[t]:=by unfold stV Desk.aQr Desk.W4;rw[hv];cases a5:R[t].link<;> (unfold jW;rw[a5];rfl)
     rw[W]at J;refine⟨j,rfl,?_⟩;rw[yJ (λz=>by rw[z,y _ _ c]at J;cases J)];exact J
 rintro σ g ⟨m,N,rfl,B,c,d⟩;rw[cQB,I.len,cXs]at d;exact⟨_,rfl,q u g m B n c d⟩
end
end Alike
namespace Alike
open PySem L2 PyProof.Rows
open Bk (Row Rows xZ xV Ans)
open Desk (xP uA stV xH Up Run zM Wf jG vZ)
open Law (xM LGo LBk xF aXL jW)
open Thr (vE)
def bVH(ns:List Int)(a b:Option Int):∃ms:List Int,qA (ns.map V.int) a b=ms.map V.int/\ms.length<=HT.sIx ns.length ns.length b - HT.sIx ns.length 0 a:=by
 refine⟨(ns.drop (HT.sIx ns.length 0 a)).take (HT.sIx ns.length ns.length b - HT.sIx ns.length 0 a),?_,?_⟩
 ·unfold qA;rw[cQB,List.map_take,List.map_drop]
 ·rw[cXH];exact Nat.min_le_left _ _
def aYB(ns:List Int)(a b:Nat):∃c:List Int,qA (ns.map V.int) (some (a:Int)) (some (b:Int))=c.map V.int/\c.length<=b - a:=by
 obtain⟨c,d,e⟩:=bVH ns (some (a:Int)) (some (b:Int));refine⟨c,d,cQ7 e ?_⟩;rw[aVO,aVO];omega
def aWd(xs:List V)(m:Nat):qA xs (some (m:Int)) none=xs.drop m:=by
 unfold qA;rw[HT.bJd,aVO];by_cases h:m<=xs.length
 ·rw[Nat.min_eq_left h,List.take_of_length_le (by rw[cVp];exact cQE _)]
 ·rw[Nat.min_eq_right (by omega),List.drop_of_length_le (cQE _),List.drop_of_length_le (by omega)];simp
def bWr{α β:Type}{F:α->β->Prop}:∀ {xs:List α} {d bs:List β},cXn F xs (d++bs)->∃c b,xs=c++b/\cXn F c d/\cXn F b bs
 |xs,[],bs,h=>⟨[],xs,rfl,.nil,h⟩
 |x::xs,a::d,bs,.cons h1 h2=>by obtain⟨c,b,e,g,f⟩:=bWr h2;exact⟨x::c,b,by rw[e];rfl,.cons h1 g,f⟩
def bZZ{α β:Type}{F:α->β->Prop}{xs:List α}{ys:List β}(h:cXn F xs ys):∀ {i:Nat} {y:β},ys[i]? =some y->∃x,xs[i]? =some x/\F x y:=by
 induction h with
 |nil=>intro i y e;simp at e
 |@cons a b d c g l k=>
  intro i y e;cases i with
  |zero=>cases e;exact⟨a,rfl,g⟩
  |succ i=>obtain⟨u,f,j⟩:=k (i:=i) (by simpa using e);exact⟨u,by simpa using f,j⟩
def W3{H:Hp}{das das2:List Nat}{es es2:List xV}(c:das.length=es.length)(g:∀ (i:Nat)(d:Nat)(e:xV),das[i]? =some d->es[i]? =some e->H d=some (.tup (xP e))) (f:das2.length=es2.length) (j:∀ (i:Nat)(d:Nat)(e:xV),das2[i]? =some d->es2[i]? =some e->H d=some (.tup (xP e))) {p:Nat} (k:H p=some (.lst (das.map V.ref++das2.map V.ref))):zM H p (das++das2) (es++es2):=by
 refine⟨by rw[cXU];exact k,by rw[cQ0,cQ0,c,f],λi d e a b=>?_⟩;by_cases h:i<das.length
 ·rw[cXh h]at a;rw[cXh (by omega)]at b;exact g i d e a b
 ·rw[cQX (by omega)]at a b;rw[c]at a;exact j _ d e a b
structure Has(K:cQz)(Tb a ds ra sa:Nat)(ns:List Int)(das:List Nat)(es:List xV)(rs:List Nat)(R:Rows)(S:List Int)(H:Hp):Prop where
 s:SqL K H a (ns.map V.int)
 d:zM H ds das es
 b:xF H ra rs R
 sh:H sa=some (.lst (S.map V.int))
 t:vE Tb H
def bKu{H H':Hp}{ra:Nat}{rs:List Nat}{R:Rows}(h:xF H ra rs R)(k:zI H H'):xF H' ra rs R:=
 ⟨k.lst h.lst,h.len,h.nd,λi b r a c=>let ⟨cp,e1,e2⟩:=h.row i b r a c;⟨cp,k.lst e1,k.lst e2⟩⟩
section
variable {K:cQz}{Tb a ds ra sa:Nat}{ns:List Int}{das:List Nat}{es:List xV}{rs:List Nat}{R:Rows}{S:List Int}{H H':Hp}
def Has.sameT(h:Has K Tb a ds ra sa ns das es rs R S H)(k:zI H H')(t:vE Tb H'):Has K Tb a ds ra sa ns das es rs R S H':=
 ⟨k.seq h.s,h.d.same k,bKu h.b k,k.lst h.sh,t⟩
def Has.same(h:Has K Tb a ds ra sa ns das es rs R S H)(k:xJ H H'):Has K Tb a ds ra sa ns das es rs R S H':=h.sameT k.t (Desk.Y1 h.t k)
end
end Alike
namespace L2
open PySem PySem.Spec PyProof.Rows
def aWi:∀ {a:List Int} {vs:List cQx},zD (a.map V.int) vs->cZT vs a
 |[],_,.nil=> .nil
 |k::a,_,.cons ⟨t,e⟩ r=>by subst e;exact .cons _ t (aWi r)
section
variable {X:Cx}
def aQZ:jX X (.builtin "sorted") (λw H Q=>∃ (p:Nat)(k:List Int),w= [.ref p]/\H p=some (.lst (k.map V.int))/\k.length<64/\ ∀ (l:Nat)(t:List Int),H l=none->t.Perm k->t.Pairwise (·<=·)->Q (.ref l) (upd H l (.lst (t.map V.int)))):=by
 intro z s σ H w O Q I r h;obtain⟨p,k,rfl,K,F,q⟩:=h;obtain⟨u,rfl,B⟩:=aQs r;cases B;obtain⟨a,x,pl,P⟩:=I.list (SqL.of K);have A:a.length=k.length:=by rw[<- x.length,cQB]
 have D:=aWi x;refine cJb kind_sorted cVH cVE (args_sorted1 _) ?_;unfold cZm.«sorted»;refine cQy (m:=checkCount "sorted" 1 1 _) (cQC ?_);refine cQy (collect_list pl.isList ?_ (by rw[cQZ];omega));refine cQy (cJt ?_ (by rw[cQZ];omega));have g:((s.heap.push (cXf "list" #[] 0)).update s.heap.objs.size (cXm (·++a.toArray))).objs.size=s.heap.objs.size+1:=by rw[cVm,size_push']
 have c:(((s.heap.push (cXf "list" #[] 0)).update s.heap.objs.size (cXm (·++a.toArray))).push (cXf "list" a.toArray 0)).get? (s.heap.objs.size+1)=some (cXf "list" a.toArray 0):=by rw[<- g];exact cQY _ rfl
 have keep:∀b o,s.heap.get? b=some o->(((s.heap.push (cXf "list" #[] 0)).update s.heap.objs.size (cXm (·++a.toArray))).push (cXf "list" a.toArray 0)).get? b=some o:=λb o q=>by have d:b<s.heap.objs.size:=cQN q;refine cQD _ ?_;exact(cQ9 _ _ (cZZ d)).trans (cQD _ q)
 show cQF _ _ _ _ _ {s with heap:=((s.heap.push (cXf "list" #[] 0)).update s.heap.objs.size (cXm (·++a.toArray))).push (cXf "list" a.toArray 0) };rw[g];have f:(((s.heap.push (cXf "list" #[] 0)).update s.heap.objs.size (cXm (·++a.toArray))).push (cXf "list" a.toArray 0)).objs.size=s.heap.objs.size+2:=by rw[size_push',g]
 generalize J:((s.heap.push (cXf "list" #[] 0)).update s.heap.objs.size (cXm (·++a.toArray))).push (cXf "list" a.toArray 0)=h1 at c keep f ⊢;refine cQy (cXP (cX6 cJL ⟨_,c,rfl⟩ cJE (list_sort_tree c D (by omega) λj i L y C=>⟨_,rfl,?_⟩) (cJJ _)));obtain⟨n,e⟩:=sortedHeap_at (out:=j) c;have hl:s.heap.objs.size<=s.heap.objs.size+1:=cZD _;have G:H (s.heap.objs.size+1)=none:=I.hok.fresh hl;have v:i.length<=cQW:=by rw[y.length_eq,cQZ];omega
 refine cQC ⟨_,rfl,.ref (s.heap.objs.size+1),_,I.laid (o:= .lst (i.map V.int)) (λb o e=>?_) hl ⟨by rw[cQB];exact v,j.toList,n,jH L,by simpa using e⟩,rfl,q _ i G y C⟩;have N:=keep b o e;have d:b<s.heap.objs.size:=cQN e;have M:b≠s.heap.objs.size+1:=cQV (cXF d);have E:b<h1.objs.size:=by rw[f];exact cQ1 d (Nat.le_add_right _ 2)
 rw[sortedHeap_old M E];exact N
def bVc{k:Nat}{x:Str}{c:List Str}{sp:Sp}{p pos:Pos}(G:FnG X.prog X.w X.K X.mg X.base k x c sp)(g:uS k X.A)(e:Gl X x)(a:(x==("__debug__":Str))=false:=by decide):PE X (.Call (.Name x p) [] [] pos) (aYj sp [] E0 bXO):=by
 obtain⟨f,h,F,b,d,m⟩:=G.ex;exact bZ0 F g e m d b .nil uT a
end
end L2
namespace Alike
open PySem L2 PyProof.Rows
open Bk (Row Rows xZ xV Ans xW laid thr lk dt vF)
open Desk (Run stV)
open Law (wO Nm)
def aXn{R:Rows}(t:∀r∈R,r.place∈wO)(i:Nat)(f:Row->Row)(b:∀r∈R,(f r).place∈wO):∀r∈xW R i f,r.place∈wO:=λr a=>by
 rcases Bk.W9 a with z|⟨q,z,rfl⟩
 ·exact t r z
 ·exact b q z
def aZD{w:Str}(hw:w∈wO):∀ (l:List Nat) {R:Rows},(∀r∈R,r.place∈wO)->∀r∈laid R l w,r.place∈wO
 |[],R,t=>t
 |k::l,R,t=>aZD hw l (R:=xW R k λr=>{r with place:=w}) (aXn t k _ λ_ _=>hw)
def aKg{R f:Rows}{S i:List Int}{e:xV}{a:Ans}(h:xZ R S e a f i)(k:Nm e)(t:∀r∈R,r.place∈wO):∀r∈f,r.place∈wO:=by
 have b:∀x:Row,x.place∈wO->∀r∈R++ [x],r.place∈wO:=λx l r m=>by
  rcases cQ4.mp m with z|z
  ·exact t r z
  ·rw[cQL.mp z];exact l
 cases h with
 |enter h=>exact b _ (by show("":Str)∈wO;decide+kernel)
 |reply c h v q=>have h0:=t _ (cQP c);exact b _ h0
 |hang u j g hw h n s o p=>have d:=t _ (cQP g);exact aXn (aZD d _ t) _ _ (aZD d _ t)
 |loose=>exact aXn t _ _ t
 |date=>exact aXn t _ _ t
 |term=>exact aXn t _ _ t
 |copy=>exact aXn t _ _ t
 |void=>exact aXn t _ _ t
 |file c j=>exact aZD k _ t
 |_=>exact t
def bQQ{R a:Rows}{S j:List Int}{b:List xV}{i:List Ans}(h:Run R S b i a j)(c:∀e∈b,Nm e)(t:∀r∈R,r.place∈wO):∀r∈a,r.place∈wO:=by
 induction h with
 |nil=>exact t
 |snoc h d g=>exact aKg d (c _ (by simp)) (g (λe f=>c e (by simp[f])))
def aWo{R:Rows}{rk:Nat->Nat}(b:Bk.Z5 R)(o:Fm.Ok R.length (lk R) rk):∀ (m k:Nat)(r:Row),rk k<m->R[k]? =some r->r.void=false->∃q,R[Fm.tp (lk R) rk k]? =some q/\q.void=false
 |0,k,r,h,_,_=>absurd h (cZg _)
 |m+1,k,r,h,hr,hv=>by
  have a:=Bk.wU hr;cases hl:r.link with
  |none=>rw[Fm.wM (by rw[Bk.uL hr];exact hl)];exact⟨r,hr,hv⟩
  |some j=>
   have e:lk R k=some j:=by rw[Bk.uL hr];exact hl
   obtain⟨q,c,f⟩:=b.ans k j r hr hl;rw[Fm.uW o a e];exact aWo b o m j q (by have:=(o.lt k j a e).2;omega) c f.2.1
def bJM{R:Rows}(b:Bk.Z5 R){i k:Nat}{r q:Row}(l:R[i]? =some r)(g:r.void=false)(c:R[k]? =some q)(d:k∈thr R i):q.void=false:=by
 obtain⟨n,o,_,h⟩:=Bk.Q0 b.tree i;obtain⟨m,a,e⟩:=aWo b o _ i r (cX5 _) l g;rw[<- ((h k).mp d).2]at a;cases hl:q.link with
 |none=>rw[Fm.wM (by rw[Bk.uL c];exact hl),c]at a;cases a;exact e
 |some j=>obtain⟨p,_,f⟩:=b.ans k j q c hl;exact f.1
def zJ:List Str:= ["","old","new","deep","old files","Old, ~",cJ0 "y" 40]
def aKj:zJ.Nodup:=dk
def bQI:∀x∈wO,x∈zJ:=dk
def bX7:("deep":Str)∉wO:=dk
def bXM(f g:Str->Int):∀F:List Str,(F.map λn=>f n+g n).sum=(F.map f).sum+(F.map g).sum
 |[]=>rfl
 |x::F=>by simp only[cXb,List.sum_cons,bXM f g F];omega
def aWZ:∀F:List Str,(F.map λ_=>(0:Int)).sum=0
 |[]=>rfl
 |x::F=>by simp only[cXb,List.sum_cons,aWZ F];rfl
def bXN(x:Str):∀ {F:List Str},F.Nodup->(x∉F->(F.map λn=>if x=n then(1:Int)else 0).sum=0)/\(x∈F->(F.map λn=>if x=n then(1:Int)else 0).sum=1)
 |[],_=>⟨λ_=>rfl,λh=>nomatch h⟩
 |y::F,nd=>by
  obtain⟨a,b⟩:=bXN x (cZr.mp nd).2;refine⟨λh=>?_,λh=>?_⟩
  ·rw[cXb,List.sum_cons,if_neg (λz=>h (by rw[z];exact cQM)),a (λz=>h (cQI _ z))];rfl
  ·rw[cXb,List.sum_cons];by_cases e:x=y
   ·rw[if_pos e,a (by rw[e];exact(cZr.mp nd).1)];rfl
   ·rw[if_neg e,b (by rcases cQG.mp h with z|z;exact absurd z e;exact z)];rfl
def aJ0{F:List Str}(a:F.Nodup)(pl:Nat->Str):∀l:List Nat,(∀k∈l,pl k∈F)->(F.map λn=>((l.filter λk=>decide (pl k=n)).length:Int)).sum=(l.length:Int)
 |[],_=>by simpa using aWZ F
 |k::l,h=>by
  have c:=aJ0 a pl l λj b=>h j (cQI _ b);have e:(F.map λn=>(((k::l).filter λk=>decide (pl k=n)).length:Int))=F.map λn=>(if pl k=n then(1:Int)else 0)+((l.filter λk=>decide (pl k=n)).length:Int):=by
   refine cJo λn _=>?_;by_cases z:pl k=n
   ·rw[cXZ (by simpa using z),if_pos z,cXy];omega
   ·rw[cXY (by simpa using z),if_neg z];omega
  rw[e,bXM,c,(bXN (pl k) a).2 (h k cQM),cXy];omega
end Alike
namespace Alike
open PySem L2 PyProof.Rows
open Bk (Row Rows xZ xV Ans)
open Desk (xP uA stV xH Up Run zM Wf jG vZ)
open Law (xM LGo LBk xF aXL jW zV wO Nm Wd)
open Thr (vE)
abbrev aZL:Stmt:=xM "_law_folders"
def aJV:Sp:=λa H Q _=>a= []/\∀l,H l=none->Q (.ref l) (upd H l (.lst (zJ.map V.str)))
def aZ4(a:Nat)(H:Hp)(v:V)(l:List Nat):Prop:=∃p,v= .ref p/\p≠a/\H p=some (.lst (l.map λi=>V.int (i:Nat)))
def aQc(R:Rows)(k:Nat):Bool:=match R[k]? with|some r=> !r.void|none=>false
def pl(R:Rows)(k:Nat):Str:=((R[k]?).map (·.place)).getD ""
def plB(R:Rows)(x:Str):V->Bool
 |.int n=>decide (pl R n.toNat=x)
 |_=>false
def inF(R:Rows)(x:Str):List Nat:=(cQJ R.length).filter λk=>match R[k]? with|some r=> !r.void && decide (r.place=x)|none=>false
def bKD(R:Rows)(x:Str):((cQJ R.length).filter (aQc R)).filter (λk=>decide (pl R k=x))=inF R x:=by
 rw[List.filter_filter];refine cVb λk a=>?_;obtain⟨r,b⟩:∃r,R[k]? =some r:=⟨_,cQw (cQ5.mp a)⟩;unfold aQc pl;rw[b];show(decide (r.place=x) && !r.void)=_;exact Bool.and_comm _ _
def bKX{R:Rows}{k:Nat}{r:Row}(h:R[k]? =some r):pl R k=r.place:=by unfold pl;rw[h];rfl
def aQt{R b:Rows}{S c:List Int}{x:Str}{a:Ans}(h:xZ R S (.letters x) a b c):a= .nums (inF R x)/\b=R/\c=S:=Bk.xZ.det rfl h .letters
def bKU{α β:Type}{F:α->β->Prop}{xs:List α}{ys:List β}(h:cXn F xs ys):∀ {i:Nat} {x:α},xs[i]? =some x->∃y,ys[i]? =some y/\F x y:=by
 induction h with
 |nil=>intro i y e;simp at e
 |@cons a b d c g l k=>
  intro i y e;cases i with
  |zero=>cases e;exact⟨b,rfl,g⟩
  |succ i=>obtain⟨u,f,j⟩:=k (i:=i) (by simpa using e);exact⟨u,by simpa using f,j⟩
def aJK{R f:Rows}{S g:List Int}:∀ (n:Nat) {fs:List xV} {bs:List Ans},fs.length=n->(∀e∈fs,∀a b c,xZ R S e a b c->b=R/\c=S)->Run R S fs bs f g->f=R/\g=S/\cXn (λe a=>xZ R S e a R S) fs bs
 |0,fs,bs,hn,hf,h=>by
  rcases Desk.Run.inv h with⟨rfl,rfl,rfl,rfl⟩|⟨_,_,_,_,_,_,rfl,_⟩
  ·exact⟨rfl,rfl,.nil⟩
  ·simp at hn
 |n+1,fs,bs,hn,hf,h=>by
  rcases Desk.Run.inv h with⟨rfl,rfl,rfl,rfl⟩|⟨l,e,i,a,b,c,rfl,rfl,k,d⟩
  ·simp at hn
  ·obtain⟨rfl,rfl,m⟩:=aJK n (by simpa using hn) (λe j=>hf e (by simp[j])) k;obtain⟨rfl,rfl⟩:=hf e (by simp) _ _ _ d;exact⟨rfl,rfl,cVj m d⟩
def aXg{R:Rows}{S:List Int}:∀ {F:List Str} {bs:List Ans},cXn (λe a=>xZ R S e a R S) (F.map xV.letters) bs->bs=F.map λx=> .nums (inF R x)
 |[],_,.nil=>rfl
 |x::F,_,.cons h r=>by rw[(aQt h).1,aXg r];rfl
def aY2{K:cQz}{a:Nat}{F:List Str}{E:List Nat}{A:TE}{σ:L2.St}{D:Nat}{Q:VK}{H:Hp}(g:Str->xV)(hl:H a=some (.lst (F.map V.str)))(G:H D=none)(hz:F.length<=1000) (N:∀x∈F,∀ (c:Hp)(R:VK),(∀t,c t=none->R (.ref t) (upd c t (.tup (xP (g x)))))->A (sub σ E (some (.str x))) c R) (O:∀ (c:Hp)(b:List Nat),xJ H c->zM c D b (F.map g)->Q (.ref D) c):bVx (Itl K a) E bYZ A σ D Q (upd H D (.lst [])):=by
 refine⟨λi m B c=>m=F.length - i/\i<=F.length/\∃b:List Nat,B=b.map V.ref/\xJ H c/\zM c D b ((F.take i).map g),⟨F.length,by simp,cXz _,[],rfl,yE G _,yB,by simp,λi d e h=>by simp at h⟩,?_⟩;rintro i m B c ⟨rfl,P,b,rfl,p,f⟩;refine⟨f.1,?_⟩;by_cases l:i<F.length
 ·have w:=cQw l;refine .inr ⟨⟨_,.str F[i],SqL.of (p _ _ hl),by rw[cQR,w];rfl⟩,λv I M=>?_⟩;obtain⟨rfl,y⟩:=M;have C:(F.map V.str)[i]? =some v:=y _ (SqL.of (p _ _ hl));rw[cQR,w]at C;cases C;have L:b.length=i:=by rw[f.2.1,cQB,cXH];omega
  have J:F.take (i+1)=F.take i++ [F[i]]:=by rw[cXx,w];rfl
  show A _ _ _;refine N _ (cZk l) _ _ λt s=>?_;have r:=yE s (.tup (xP (g F[i])));refine⟨zlt (by rw[cQB];omega),r _ _ f.1,F.length - (i+1),by omega,rfl,l,b++ [t],by simp,λx o e=>?_,?_⟩
  ·rw[yJ (yI e G)];exact r _ _ (p _ _ e)
  ·rw[J,cXU];have q:∀ {x:Nat} {u:List V},upd I t (.tup (xP (g F[i]))) x=some (.tup u)->upd (upd I t (.tup (xP (g F[i])))) D (.lst (b.map V.ref++ [.ref t])) x=some (.tup u):=λ{x u} e=>by
    rw[yJ (λz=>by rw[z,r _ _ f.1]at e;cases e)];exact e
   refine W3 f.2.1 (λj d e k n=>q (r _ _ (f.2.2 j d e k n))) rfl (λj d e k n=>?_) yB;match j,k,n with
   |0,k,n=>cases k;cases n;exact q yB
   |j+1,k,n=>cases k
 ·obtain rfl:i=F.length:=by omega
  rw[cXs]at f;exact .inl ⟨⟨_,SqL.of (p _ _ hl),by rw[cQB];exact cQE _⟩,O _ _ p f⟩
def bXs{f:List Int}{l m:List Nat}(n:f.Perm (l.map λi:Nat=>(i:Int)))(o:f.Pairwise (·<=·))(j:l.Nodup)(q:m.Pairwise (·<·))(h:∀k,k∈l↔k∈m):f=m.map λi:Nat=>(i:Int):=by
 have g:(l.map λi:Nat=>(i:Int)).Nodup:=by unfold List.Nodup at j ⊢;rw[cZ7];exact j.imp λh z=>h (by omega)
 have d:f.Nodup:=n.nodup_iff.mpr g;refine Stree.uniq (lt:=λx y:Int=>x<y) (λa h=>by omega) (λa b c e p=>by omega) ((o.and d).imp λ{a b} h=>by have e:=h.1;have p:=h.2;omega) ?_ λk=>?_
 ·rw[cZ7];exact q.imp λh=>by omega
 ·rw[n.mem_iff,cXr,cXr];constructor
  ·rintro⟨i,e,rfl⟩;exact⟨i,(h i).mp e,rfl⟩
  ·rintro⟨i,e,rfl⟩;exact⟨i,(h i).mpr e,rfl⟩
def bJa(n:Nat):(cQJ n).Pairwise (·<·):=List.pairwise_lt_range
section
variable {K:cQz}
def aK9:yO [] [] (yH aZL):=scM
seal PE PA PS PSs PT in
def aKM(F:Fun K "_law_folders" "_law_folders" aZL f fd):xL P w K mg base CX0 1 f fd [] aJV:=by have a:=aK9;refine F.ok (k:=0) a (λb A outer s H c Q E d h=>?_);obtain⟨rfl,q⟩:=h;refine⟨_,(yF (yP (xB (yA yQ (yA yQ (yA yQ (yA yQ (yA yQ (yA yQ (yA (yV Law.bQB yQ yG) yD)))))))))),?_⟩;exact⟨_,_,rfl,rfl,by decide,by decide,by decide,zn (by show 7<=100000;omega),λl hl=>q l hl⟩
end
end Alike
namespace Alike
open PySem L2 PyProof.Rows
open Bk (Row Rows xZ xV Ans)
open Desk (xP uA stV xH Up Run zM Wf jG vZ)
open Law (xM LGo LBk xF aXL jW zV wO Nm Wd md0 md1 qZ)
open Thr (vE)
def bVD:cXj "sum"=some (.builtin "sum"):=dk
abbrev bWF:Stmt:=xM "law"
def bJE(e:Nat)(K:cQz):Sp:=λd H Q _=>∃ (a:Nat)(b:List Int),d= [.ref a]/\SqL K H a (b.map V.int)/\b.length<=63/\vE e H/\∀c,Q (.bl true) c
def bV2(H:Hp):V->V
 |.ref p=>match H p with|some (.lst xs)=> .int xs.length|_=> .non
 |_=> .non
def aWm{H:Hp}{p:Nat}{xs:List V}(h:H p=some (.lst xs)):bV2 H (.ref p)= .int (xs.length:Nat):=by
 show(match H p with|some (.lst xs)=>V.int xs.length|_=>V.non)=_;rw[h]
def bXK{H:Hp}{b:List V}{R:Rows}(f:cXn (λv r=>xH H r v) b R){k:Nat}{r:Row}(g:R[k]? =some r)(c:r.void=false):∃p,b[k]? =some (.ref p)/\H p=some (.tup (stV r)):=by
 obtain⟨v,d,a⟩:=bZZ f g;unfold xH at a;rw[if_neg (by rw[c];decide)]at a;obtain⟨p,rfl,e⟩:=a;exact⟨p,d,e⟩
def aWW{r:Row}(a:r.void=false):stV r= [.str r.way,.int r.date,.str r.partner,.int r.term,zV r.link,.str r.place]:=by
 unfold stV Desk.aQr Desk.W4;rw[a];cases r.link<;> rfl
def cQd(H:Hp)(c:Nat)(a:List V)(R:Rows)(done:List Nat)(b:List V):Prop:=b.length=R.length/\∀ (m:Nat)(r:Row),R[m]? =some r->∃v,b[m]? =some v/\
 (m∈done->∃p,v= .ref p/\p≠c/\H p=some (.tup [.str r.way,.int r.date,.str r.partner,.int r.term,zV r.link,.str "deep"]))/\(m∉done->a[m]? =some v)
abbrev bKK:List Str:= ["_law_script","_law_deeds","_law_rows","_law_due","_law_found","_law_asks","_law_here","_law_name","_law_told","_law_number","_law_numbers","_law_laid","_law_behind","_law_k"]
section
variable {K:cQz}
def bK9:yO bKK ["_law_script"] (yH bWF):=scM
def bVY:xO bKK (yH bWF) "_law_name" [] [] (lsN [(".0",.local),("_law_name",.local)]):=
 lcM
def bVZ:xO bKK (yH bWF) "_law_k" ["_law_rows"] [2] (lsN [(".0",.local),("_law_k",.local),("_law_rows",.free)]):=
 lcM
def bV0:xO bKK (yH bWF) "_law_k" ["_law_name","_law_rows"] [7,2] (lsN [(".0",.local),("_law_k",.local),("_law_name",.free),("_law_rows",.free)]):=
 lcM
def bV1:xO bKK (yH bWF) "_law_numbers" [] [] (lsN [(".0",.local),("_law_numbers",.local),("len",.globalImplicit)]):=
 lcM
seal PE PA PS PSs PT in
def bKQ(T:uJ mg)(s9:mg "sum"=none)(e4:FnG P w K mg base n "_law_story" ["_law_cells"] aXL)(i2:FnG P w K mg base n "_law_room" ["_law_script","_law_most","_law_bound"] (bVm K))(a7:FnG P w K mg base n "_law_book_of" ["_law_deeds"] aWK) (W:FnG P w K mg base n "_law_standing_of" ["_law_rows"] aJY) (a3:FnG P w K mg base n "_law_unturned" ["_law_found","_law_due"] aZh) (t4:FnG P w K mg base n "_law_at" ["_law_script","_law_k"] (aWJ K)) (a0:FnG P w K mg base n "_law_folders" [] aJV) (d4:FnG P w K mg base n "_law_family" ["_law_rows","_law_number"] qZ) (X:FnG P w K mg base n "_law_alike" ["_law_found","_law_due"] bXu) (Y:FnG P w K mg base n "answers" ["deeds"] (jG Rf)) (O:FnG P w K mg base n "standing" ["deeds"] (vZ Rf)) (F:Fun K "law" "law" bWF f fd):xL P w K mg base CX0 (n+1) f fd ["_law_script"] (bJE Rf.2 K):=by
 have sc:=bK9;refine F.ok (k:=n) sc (λz5 A outer s H0 vs Q E hr h=>?_);obtain⟨a,ns,rfl,hS,t9,hT,q⟩:=h;refine⟨_,(yC (yU (i:=1) (yL yX (xU e4 hr rfl (yA (qW aXI (pv 0) (X7 yG) (X7 (yV zT yG (xU i2 hr rfl (yA (pv 0) (yA yG (yA yG yD))))))) yD)) yG)) (yC (yU (i:=2) (yL yX (xU a7 hr rfl (yA (pv 1) yD)) yG)) (yC (yU (i:=3) (xU W hr rfl (yA (pv 2) yD))) (yC (yU (i:=4) (xU O hr rfl (yA (zG uP rfl T.b_list wK (yA (pv 1) yD)) yD))) (yC (xA (vH (zA (xU a3 hr rfl (yA (pv 4) (yA (pv 3) yD))))) (yF (yP vQ)) yS) (yC (yU (i:=4) (pv 3)) (yC (aXZ (i:=5) bVY rfl sc.nd rfl rfl (xN (bVc a0 hr rfl)) (λ_ _ _ _ _=>wQ) (λ_ _ _ _ _=>(xK (yA yQ (yA (pv 0) yD))))) (yC (aXZ (i:=6) bVZ rfl sc.nd rfl rfl (zY rfl T.b_range (yA (yR yN rfl T.b_len xG (yA (pv 2) yD)) yD)) (λ_ _ _ _ _=>(vA (vH (zA (yL ixK (yL ixK (pv 1) (pv 0)) yG))))) (λ_ _ _ _ _=>(pv 0))) (yC (yU (i:=3) (xB yD)) (yC (wT cXo rfl (xN (bVc a0 hr rfl)) (xI (i:=7)) (yF (yZ (jC cQ3 cXc cXd xR (pv 3) (yA (aQj bV0 rfl (xN (pv 6)) (λ_ _ _ _ _=>(vA (yM zR (yL ixK (yL ixK (pv 2) (pv 0)) yG) (pv 1)))) (λ_ _ _ _ _=>(pv 0))) yD))))) (yC (yU (i:=8) (xU Y hr rfl (yA (yV aX8 (pv 1) (pv 5)) yD))) (yC (xA (PW.pt (Y5 (vH (zA (yR zH rfl T.b_isinstance yY (yA (pv 8) (yA (xX (v:= .ty "list") rfl T.b_list wK rfl) yD))))) (uR (vH (zA (xU X hr rfl (yA (qW aXI (pv 8) (X7 (yR yN rfl T.b_len xG (yA (pv 1) yD))) aXo) (yA (pv 3) yD)))))))) (yF (yP vQ)) yS) (yC (xA (yM J7 (yR (bX0 rfl) rfl s9 bVD (yA (aQj bV1 rfl (xN (pv 3)) (λ_ _ _ _ _=>wQ) (λ_ _ _ _ _=>(yR (show jX _ (.builtin "len") (λxs H Q=>∃p ys,xs= [.ref p]/\(SqL K H p ys\/SqT K H p ys)/\Q (.int (ys.length:Nat)) H)from yN) rfl T.b_len xG (yA (pv 0) yD)))) yD)) (yR yN rfl T.b_len xG (yA (pv 6) yD))) (yF (yP vQ)) yS) (yC (xA (yM (aZA hr.units0) (pv 6) (xB yD)) (yF (yP vQ)) yS) (yC (yU (i:=9) (yL yK (pv 6) (yV xD (xU t4 hr rfl (yA (pv 0) (yA yG yD))) (yR yN rfl T.b_len xG (yA (pv 6) yD))))) (yC (yU (i:=10) (xU d4 hr rfl (yA (pv 2) (yA (pv 9) yD)))) (yC (yU (i:=11) (xK (yA yQ (yA (pv 9) (yA yQ yD))))) (yC (yU (i:=8) (xU Y hr rfl (yA (yV aX8 (pv 1) (xB (yA (pv 11) (yA (xK (yA yQ (yA yQ yD))) yD)))) yD))) (yC (xA (vH (zA (yR zH rfl T.b_isinstance yY (yA (pv 8) (yA (xX (v:= .ty "list") rfl T.b_list wK rfl) yD))))) (yF (yP vQ)) yS) (yC (xA (vH (zA (xU X hr rfl (yA (qW aXI (pv 8) (X7 (yR yN rfl T.b_len xG (yA (pv 1) yD))) aXo) (yA (xB (yA (yR yN rfl T.b_len xG (yA (pv 10) yD)) (yA (yR aQZ rfl T.b_sorted wW (yA (pv 10) yD)) yD))) yD))))) (yF (yP vQ)) yS) (yC (yU (i:=12) (zG uP rfl T.b_list wK (yA (pv 4) yD))) (yC (wT cXo rfl (xN (pv 10)) (xI (i:=13)) (yF (uQ (yV bQz (qW bYe (yL yK (pv 4) (pv 13)) aXo (X7 yG)) (xK (yA yQ yD))) (X0 (pv 12) (pv 13) wR)))) (yF (yP (xU X hr rfl (yA (xU O hr rfl (yA (yV aX8 (pv 1) (xB (yA (pv 11) yD))) yD)) (yA (pv 12) yD))))))))))))))))))))))))))),?_⟩;refine⟨_,rfl,_,rfl,_,rfl,a,ns,22,60,rfl,hS,t9,_,_,rfl,rfl,_,rfl,a,_,rfl,hS,λp hp=>?_⟩;obtain⟨ms,w6,q4⟩:=aYB ns 1 23;have k0:=yE hp (.lst (qA (ns.map V.int) (some 1) (some (1+22))));refine⟨p,ms,rfl,yB.trans (congrArg (λz=>some (HO.lst z)) w6),by omega,λH1 t ds us B es vs as R S k1 ht hD u2 hP Z s4 x7=>?_⟩;have g0:∀e∈es,Wf e:=λe he=>(s4 e he).1;have p6:es.length<=25:=by omega
 have s7:=(k0.trans k1).t.seq hS;have T1:=Desk.Y1 hT (k0.trans k1);refine⟨t,_,0,_,rfl,rfl,SqT.of ht,rfl,?_⟩;dsimp only[yW];refine⟨_,rfl,ds,B,es,rfl,hD,by omega,g0,λt2 ra sa H2 rs cs g s6=>?_⟩;obtain⟨R2,S2,hL,u5,n8,p7⟩:=g.ex;obtain⟨rfl,rfl,rfl⟩:=Run.det es.length rfl Z p7;have o3:R.length<=25:=cQ7 u5.r p6;have i5:=bQQ Z (λe he=>(s4 e he).2) (λr h=>nomatch h);have A2:Has K Rf.2 a ds ra sa ns B es rs R S H2:=⟨g.keep.t.seq s7,hD.same g.keep.t,hL.book,hL.shut,Desk.Y1 T1 g.keep⟩;clear hD u2 hP ht s7 T1 g hL k1;refine⟨t2,_,0,_,rfl,rfl,SqT.of s6,rfl,?_⟩;dsimp only[yW];refine⟨_,rfl,ra,rs,R,rfl,A2.b,by omega,λd1 H3 h4 k3 y4 q6 f5=>?_⟩;have A3:=A2.same k3;dsimp only[yW];refine⟨_,rfl,ds,_,rfl,.inl (SqL.of A3.d.1),λhl g8=>?_⟩;have k4:=yE g8 (.lst (B.map V.ref));have A4:=A3.same k4;have D4:zM (upd H3 hl (.lst (B.map V.ref))) hl B es:=⟨yB,A3.d.2.1,λi d e I G=>k4 _ _ (A3.d.2.2 i d e I G)⟩;have n1:=k4 _ _ q6;have c9:=Desk.wH (λv r (z:xH H3 r v)=>z.same k4.t) f5;generalize upd H3 hl (.lst (B.map V.ref))=H4 at A4 D4 n1 c9 ⊢;refine⟨hl,B,es,rfl,D4,by omega,g0,A4.t,λl H5 ws bs R2 S2 k5 T5 p8 A1 f8 h5=>?_⟩;obtain⟨-,rfl, -⟩:=Run.det es.length rfl Z p8;have A5:=A4.sameT k5 T5;have m3:=k5.lst n1;have e7:=Desk.wH (λv r (z:xH H4 r v)=>z.same k5) c9;dsimp only[yW];refine⟨_,rfl,_,rfl,.ref l,.ref d1,.lst (R.map uV),rfl,aQy f8 (zX (F:=λv r=>xH H5 r v) (λv r z=>aQO z) h5),aQy m3 (zX (F:=λv r=>xH H5 r v) (λv r z=>aQO z) e7),cQ7 (aQU (n:=25) (c:=7) (λr _=>aZi r) o3) (by decide),λH6 k6=>⟨_,rfl,onF rfl ?_⟩⟩;have A6:=A5.same k6;have q7:=k6 _ _ m3;have t0:=Desk.wH (λv r (z:xH H5 r v)=>z.same k6.t) e7;have v0:h4.length=R.length:=f5.length;clear A2 A3 A4 A5 D4 c9 h5 e7 f8 n1 m3 k4 k5 k3 k6 g8 s6 q6 f5;refine⟨_,rfl,?_⟩;dsimp only[yW];refine⟨rfl,λfl t7=>⟨fl,rfl,⟨_,SqL.of yB⟩,λD hD=>?_⟩⟩;have b0:=yE t7 (.lst (zJ.map V.str));refine aY2 xV.letters yB hD (by decide) (λx hx H' R' M=>⟨_,rfl,z2,λt ht=>M t ht⟩) λH7 i1 k7 hq=>?_;have m7:=b0.trans k7;have A7:=A6.same m7;have q0:=m7 _ _ q7;have r8:=Desk.wH (λv r (z:xH H6 r v)=>z.same m7.t) t0;have y8:i1.length=7:=by rw[hq.2.1];rfl
 have y0:B.length<=25:=by rw[A7.d.2.1];exact p6
 clear A6 q7 t0 b0 k7 t7;dsimp only[yW];have w1:(rs.map V.ref).length=R.length:=by rw[cQB];exact A7.b.len
 refine⟨_,rfl,ra,_,rfl,.inl (SqL.of A7.b.lst),?_⟩;rw[w1];refine⟨_,rfl,by omega,by omega,λD2 d5=>?_⟩;rw[cQ6];refine W6 (aQc R) (λk=>V.int (k:Nat)) d5 (by rw[cQZ];omega) (λk hk H' R' hH M=>?_) (λk hk _ H' R' hH M=>⟨_,rfl,M⟩) ?_
 ·have f7:=cQw hk;obtain⟨b,g1,g2,cp,g3,g4⟩:=A7.b.get f7;have m8:H' ra=some (.lst (rs.map V.ref)):=by rw[hH ra (yI A7.b.lst d5)];exact A7.b.lst
  have hb:H' b=_:=(hH b (yI g3 d5)).trans g3;have eB:aQc R k= !R[k].void:=by unfold aQc;rw[f7]
  rw[eB]at M;exact⟨_,rfl,_,rfl,ra,_,_,_,rfl,rfl,SqL.of m8,yT g1,b,_,6,_,rfl,rfl,SqL.of hb,rfl,_,rfl,M⟩
 dsimp only[yW];have k8:=yE d5 (.lst (((cQJ R.length).filter (aQc R)).map λk=>V.int (k:Nat)));have d2:upd H7 D2 (.lst (((cQJ R.length).filter (aQc R)).map λk=>V.int (k:Nat))) D2=some (.lst (((cQJ R.length).filter (aQc R)).map λk=>V.int (k:Nat))):=yB;have c7:∀k∈(cQJ R.length).filter (aQc R),∃r,R[k]? =some r/\r.void=false:=λk hk=>by obtain⟨I,G⟩:=cXA.mp hk;have f7:=cQw (cQ5.mp I);unfold aQc at G;rw[f7]at G;exact⟨_,f7,by simpa using G⟩
 have g8:((cQJ R.length).filter (aQc R)).length<=25:=by have:=cXu (aQc R) (cQJ R.length);rw[cXp]at this;omega
 have f9:=bKD R;generalize (cQJ R.length).filter (aQc R)=here at k8 d2 c7 g8 f9 ⊢;have A8:=A7.same k8;have m1:=k8 _ _ q0;have j7:=Desk.wH (λv r (z:xH H7 r v)=>z.same k8.t) r8;have n0:=hq.same k8.t;generalize upd H7 D2 (.lst (here.map λk=>V.int (k:Nat)))=H8 at k8 d2 A8 m1 j7 n0 ⊢;clear A7 q0 r8 hq k8 d5 hD;refine⟨z0,λdu o2=>?_⟩;dsimp only[yW];have b1:=yE o2 (.lst []);refine⟨rfl,λm9 c0=>⟨m9,rfl,⟨_,SqL.of yB⟩,?_⟩⟩;have b2:=yE c0 (.lst (zJ.map V.str));have r6:m9≠du:=λz=>by rw[z,yB]at c0;cases c0
 refine zS (xs:=zJ.map V.str) (λt σ H=>∃ (us:List V)(o7:Option V),σ= [some (.ref a),some (.ref ds),some (.ref ra),some (.ref du),some (.ref d1),some (.ref D),some (.ref D2),o7,none,none,none,none,none,none]/\xJ H8 H/\H m9=some (.lst (zJ.map V.str))/\H du=some (.lst us)/\cXn (aZ4 du H) us ((zJ.take t).map (inF R))) ?_ ?_ ?_ ?_
 ·exact⟨[],none,rfl,b1.trans b2,yB,b2 _ _ yB,.nil⟩
 ·rintro t σ H ht ⟨us,o7,rfl,kH,I,G,h3⟩;exact SqL.of I
 ·rintro t v σ H hv ⟨us,o7,rfl,kH,I,G,h3⟩;rw[cQR]at hv;cases hx:zJ[t]? with
  |none=>rw[hx]at hv;cases hv
  |some x=>
   rw[hx]at hv;cases hv;have et:zJ.take (t+1)=zJ.take t++ [x]:=by rw[cXx,hx];rfl
   have x0:us.length<=7:=by rw[h3.length,cQB,cXH];exact Nat.min_le_right _ _
   have A9:=A8.same kH;dsimp only[yW];refine⟨_,rfl,.inl ⟨rfl,_,SqL.of G⟩,_,rfl,D2,rfl,⟨_,SqL.of (kH _ _ d2)⟩,λD3 d0=>?_⟩;refine aXd (plB R x) id (SqL.of (kH _ _ d2)) d0 (zn (by rw[cQB];omega)) (λv hv H' R' hH M=>?_) (λv hv _ H' R' hH M=>⟨_,rfl,M⟩) ?_
   ·obtain⟨k,hk,rfl⟩:=cXr.mp hv;obtain⟨r,J,a4⟩:=c7 k hk;obtain⟨b,g1,g2,cp,g3,g4⟩:=A9.b.get J;have m8:H' ra=some (.lst (rs.map V.ref)):=by rw[hH ra (yI A9.b.lst d0)];exact A9.b.lst
    have hb:H' b=_:=(hH b (yI g3 d0)).trans g3;have eT:plB R x (V.int (k:Nat))=decide (V.str r.place=V.str x):=by show decide (pl R (k:Int).toNat=x)=_;rw[cQ6,bKX J];simp
    rw[eT]at M;exact⟨_,rfl,_,rfl,ra,_,_,_,rfl,rfl,SqL.of m8,yT g1,b,_,5,_,rfl,rfl,SqL.of hb,rfl,_,rfl,rfl,_,rfl,M⟩
   have ef:((here.map λk=>V.int (k:Nat)).filter (plB R x)).map id=(inF R x).map λk=>V.int (k:Nat):=by rw[cVi,List.filter_map,<- f9 x];rfl
   rw[ef];have b3:=yE d0 (.lst ((inF R x).map λk=>V.int (k:Nat)));refine⟨du,_,_,rfl,rfl,b3 _ _ G,zlt (by omega),?_⟩;have nD:D3≠du:=λz=>by rw[z,G]at d0;cases d0
   have r3:H8 du=none:=o2;refine⟨us++ [.ref D3],_,rfl,zZ (kH.trans b3) r3,by rw[yJ r6];exact b3 _ _ I,yB,?_⟩;rw[et,cXU];refine cVj (Desk.wH (λv l z=>?_) h3) ⟨D3,rfl,nD,by rw[yJ nD];exact yB⟩;obtain⟨p,e,n,z⟩:=z;exact⟨p,e,n,by rw[yJ n];exact b3 _ _ z⟩
 rintro σ H9 ⟨us,o7,rfl,k9,I,G,h3⟩;rw[cQB,cXs]at h3;have A9:=A8.same k9;have t8:=k9 _ _ m1;have s8:=Desk.wH (λv r (z:xH H8 r v)=>z.same k9.t) j7;have h0:=n0.same k9.t;have s0:=k9 _ _ d2;clear A8 m1 j7 n0 d2 b1 b2 c0 o2 k9 r6 I;dsimp only[aV8];refine⟨_,rfl,_,rfl,ds,D,_,_,rfl,rfl,A9.d.1,h0.1,by rw[cQB,cQB,cQZ];omega,λp1 x1=>?_⟩;have b1:=yE x1 (.lst (B.map V.ref++i1.map V.ref));have r4:=W3 A9.d.2.1 (λi d e I G=>b1 _ _ (A9.d.2.2 i d e I G)) h0.2.1 (λi d e I G=>b1 _ _ (h0.2.2 i d e I G)) (yB (H:=H9) (a:=p1) (o:= .lst (B.map V.ref++i1.map V.ref)));have o5:∀e∈es++zJ.map xV.letters,Wf e:=λe he=>by
  rcases cQ4.mp he with z|z
  ·exact g0 e z
  ·obtain⟨k,_,rfl⟩:=cXr.mp z;exact cXQ
 have x8:(es++zJ.map xV.letters).length<=32:=by rw[cQ0,cQB];show es.length+7<=_;omega
 refine⟨p1,B++i1,_,rfl,r4,by omega,o5,(A9.same b1).t,λm g9 y6 y5 R' S' d3 v7 e6 x6 hm j6=>?_⟩;obtain⟨_,_,w8⟩:=aJL _ rfl o5 e6;obtain⟨u8,y9,R1,S1,rfl,g6,l9⟩:=Run.cut _ rfl e6;obtain⟨rfl,rfl,rfl⟩:=Run.det es.length rfl Z g6;obtain⟨-, -,w4⟩:=aJK _ rfl (λe he a R1 S1 h=>by
  obtain⟨k,hk,rfl⟩:=cXr.mp he;exact(aQt h).2) l9
 obtain rfl:=aXg w4;obtain⟨ys,zs,rfl,j1,a1⟩:=bWr j6;have h7:=(A9.same b1).sameT d3 v7;have j5:=d3.lst (b1 _ _ t8);have f3:=Desk.wH (λv r (z:xH H9 r v)=>(z.same b1.t).same d3) s8;have i3:=d3.lst (b1 _ _ s0);have b4:=d3.lst (b1 _ _ G);have e9:cXn (aZ4 du g9) us (zJ.map (inF R)):=Desk.wH (λv l z=>by obtain⟨p,e,n,z⟩:=z;exact⟨p,e,n,d3.lst (b1 _ _ z)⟩) h3;have w2:ys.length=B.length:=by rw[cZE j1,<- g6.len,h7.d.2.1]
 clear A9 t8 s8 h0 s0 G h3 r4 b1 j6;dsimp only[yW];refine⟨_,rfl,_,"list",_,_,rfl,.lst hm,zF _,_,rfl,onF rfl ?_⟩;refine⟨_,rfl,_,rfl,ds,_,rfl,.inl (SqL.of h7.d.1),_,rfl,m,_,rfl,SqL.of hm,λp2 u3=>?_⟩;have b1:=yE u3 (.lst (qA (ys++zs) (some ((B.map V.ref).length:Nat)) none));have e1:qA (ys++zs) (some ((B.map V.ref).length:Nat)) none=zs:=by rw[aWd,cQB,<- w2,List.drop_left]
 refine⟨_,rfl,.ref p2,.ref du,.lst ((zJ.map (inF R)).map λl=>jJ (.nums l)),rfl,aQy (yB.trans (by rw[e1])) ?_,aQy (b1 _ _ b4) ?_,bQe (λl=>bVa (.nums l)) _,cQ7 (aQU (n:=7) (c:=40) (λl hl=>?_) (by rw[cQB];exact cQE _)) (by decide),λa5 q8=>⟨_,rfl,onF rfl ?_⟩⟩
 ·have e2:=zX (F:=λv a=>uA [] (upd g9 p2 (.lst (qA (ys++zs) (some ((B.map V.ref).length:Nat)) none))) a v) (λv a z=>aJp z) (Desk.wH (λv a z=>Law.qO z λp u n e=>⟨n,b1 _ _ e⟩) a1);rw[cZf]at e2 ⊢;exact e2
 ·exact zX (F:=λv l=>aZ4 du (upd g9 p2 (.lst (qA (ys++zs) (some ((B.map V.ref).length:Nat)) none))) v l) (λv l z=>by obtain⟨p,rfl,_,e⟩:=z;exact aJp (a:= .nums l) (o:= []) ⟨p,rfl,(λz=>nomatch z),e⟩) (Desk.wH (λv l z=>by obtain⟨p,e,n,z⟩:=z;exact⟨p,e,n,b1 _ _ z⟩) e9)
 ·obtain⟨x,hx,rfl⟩:=cXr.mp hl;have:=w8 (.nums (inF R x)) (cQU _ (cXr.mpr ⟨x,hx,rfl⟩));omega
 have kk:=b1.trans q8;have o6:=h7.same kk;have i9:=kk _ _ j5;have d9:=Desk.wH (λv r (z:xH g9 r v)=>z.same kk.t) f3;have c8:=kk _ _ i3;have a8:=kk _ _ b4;have b8:cXn (aZ4 du a5) us (zJ.map (inF R)):=Desk.wH (λv l z=>by obtain⟨p,e,n,z⟩:=z;exact⟨p,e,n,kk _ _ z⟩) e9;clear h7 j5 f3 i3 b4 e9 b1 q8 kk j1 a1 hm;refine⟨_,rfl,du,rfl,⟨_,SqL.of a8⟩,λD4 h9=>?_⟩;have x0:us.length=7:=by rw[b8.length,cQB];rfl
 refine aXd (λ_=>true) (bV2 a5) (SqL.of a8) h9 (zn (by omega)) (λv hv H' R' _ h=>h) (λv hv _ H' R' hH M=>?_) ?_
 ·obtain⟨i,hi,ei⟩:=List.mem_iff_getElem.mp hv;obtain⟨l,_,p,e,n,z⟩:=bKU b8 (x:=v) (by rw[cQw hi,ei]);subst e;have e2:bV2 a5 (.ref p)= .int ((l.map λi=>V.int (i:Nat)).length:Nat):=aWm z;rw[e2]at M;exact⟨_,rfl,p,_,rfl,.inl (SqL.of ((hH p (yI z h9)).trans z)),M⟩
 have t6:(us.filter λ_=>true).map (bV2 a5)=(zJ.map λx=>((inF R x).length:Int)).map V.int:=by
  rw[cZS.mpr λ_ _=>rfl];have:∀ {us:List V} {ls:List (List Nat)},cXn (aZ4 du a5) us ls->us.map (bV2 a5)=ls.map λl=>V.int (l.length:Nat):=by
   intro us ls h;induction h with
   |nil=>rfl
   |@cons a b l₁ l₂ I G ih=>obtain⟨p,rfl,_,z⟩:=I;rw[cXb,cXb,ih];congr 1;rw[aWm z];simp
  rw[this b8,cZf,cZf];rfl
 rw[t6];have b1:=yE h9 (.lst ((zJ.map λx=>((inF R x).length:Int)).map V.int));have q5:(zJ.map λx=>((inF R x).length:Int)).sum=(here.length:Int):=by
  have:=aJ0 aKj (pl R) here λk hk=>by obtain⟨r,J,_⟩:=c7 k hk;rw[bKX J];exact bQI _ (i5 r (cQP J))
  rw[<- this];congr 1;refine cJo λx _=>?_;rw[f9 x]
 refine⟨D4,_,rfl,SqL.of yB,_,rfl,D2,_,rfl,.inl (SqL.of (b1 _ _ c8)),rfl,_,rfl,onF (by rw[q5,cQB];simp) ?_⟩;refine⟨_,rfl,z0,λpn p0=>?_⟩;have b2:=yE p0 (.lst []);have N:=b1.trans b2;refine⟨D2,pn,_,rfl,rfl,SqL.of (N _ _ c8),SqL.of yB,_,rfl,?_⟩;have d6:=o6.same N;have g5:=N _ _ i9;have a1:=Desk.wH (λv r (z:xH a5 r v)=>z.same N.t) d9;have b9:=N _ _ c8;generalize upd (upd a5 D4 (.lst ((zJ.map λx=>((inF R x).length:Int)).map V.int))) pn (.lst [])=H12 at d6 g5 a1 b9 ⊢;clear o6 i9 d9 c8 a8 b8 b1 b2 N p0 h9;by_cases m5:here= []
 ·subst m5;exact onT rfl (q _)
 refine onF (by simp[m5]) ?_;have e0:(0:Int)<((here.map λk=>V.int (k:Nat)).length:Nat):=by rw[cQB];have:=cXM.mpr m5;omega
 refine⟨_,rfl,_,rfl,a,ns,0,rfl,d6.s,_,rfl,D2,_,rfl,.inl (SqL.of b9),_,_,rfl,rfl,e0,?_⟩;refine Law.aYV rfl rfl (SqL.of b9) (md0 e0) (md1 e0) λv hv=>?_;obtain⟨i,hi,rfl⟩:=cXr.mp hv;obtain⟨r,m0,r1⟩:=c7 i hi;have q1:=Bk.wU m0;dsimp only[yW];obtain⟨rk,o⟩:=n8.tree;refine⟨_,rfl,_,rfl,ra,rs,R.length,Bk.lk R,rk,Bk.dt R,i,rfl,d6.b.rows,o,by omega,q1,λl4 nl L m4 x2 i4 t1 i7=>?_⟩;have eo:Bk.thr R i=L:=Bk.aZj q1 ⟨rk,o,t1,i7⟩;have q2:=d6.same m4;have j3:=m4 _ _ g5;have j2:=Desk.wH (λv r (z:xH H12 r v)=>z.same m4.t) a1;have z8:L.length<=25:=by have:=bXQ n8.tree (k:=i);rw[eo]at this;omega
 have u1:L.Nodup:=t1.imp λ{x y} h z=>by rw[z,Stree.vX]at h;cases h
 have a9:∀k∈L,∃C,R[k]? =some C/\C.void=false:=λk hk=>by have l1:=((i7 k).mp hk).1;exact⟨_,cQw l1,bJM n8 m0 r1 (cQw l1) (by rw[eo];exact hk)⟩
 clear d6 g5 a1 b9;dsimp only[yW];refine⟨_,rfl,z3,λla q3=>?_⟩;have b1:=yE q3 (.tup [.str "file",.int (i:Nat),.str "deep"]);have b7:upd l4 la (.tup [.str "file",.int (i:Nat),.str "deep"]) la=some (.tup (xP (.file (i:Nat) "deep"))):=yB;have b5:=q2.same b1;have d7:=b1 _ _ j3;have e5:=Desk.wH (λv r (z:xH l4 r v)=>z.same b1.t) j2;have a2:=b1 _ _ i4;generalize upd l4 la (.tup [.str "file",.int (i:Nat),.str "deep"])=H14 at b7 b5 d7 e5 a2 ⊢;clear q2 j3 j2 i4 b1 q3;dsimp only[yW];refine⟨_,rfl,_,rfl,z2,λlt w9=>⟨z2,λl2 u9=>?_⟩⟩;have b1:=yE w9 (.tup [.str "letters",.str "deep"]);have b2:=yE u9 (.lst [.ref la,.ref lt]);refine⟨ds,l2,B.map V.ref,_,rfl,rfl,b2 _ _ (b1 _ _ b5.d.1),yB,by rw[cQB,cQZ];show B.length+2<=_;omega,λp3 f5=>?_⟩;have b3:=yE f5 (.lst (B.map V.ref++ [.ref la,.ref lt]));have N:=(b1.trans b2).trans b3;have o8:=W3 (das2:= [la,lt]) (es2:= [.file (i:Nat) "deep",.letters "deep"]) b5.d.2.1 (λi d e I G=>N _ _ (b5.d.2.2 i d e I G)) rfl (λm d e I G=>by
  match m,I,G with
  |0,I,G=>cases I;cases G;exact N _ _ b7
  |1,I,G=>cases I;cases G;exact b3 _ _ (b2 _ _ yB)
  |m+2,I,G=>cases I) (yB (H:=upd (upd H14 lt (.tup [.str "letters",.str "deep"])) l2 (.lst [.ref la,.ref lt])) (a:=p3) (o:= .lst (B.map V.ref++ [.ref la,.ref lt])))
 have u6:∀e∈es++ [.file (i:Nat) "deep",.letters "deep"],Wf e:=λe he=>by
  rcases cQ4.mp he with z|z
  ·exact g0 e z
  ·simp only[cQG,cVq,or_false]at z;rcases z with rfl|rfl<;> exact cXQ
 refine⟨p3,B++ [la,lt],es++ [.file (i:Nat) "deep",.letters "deep"],rfl,o8,by simp;omega,u6,(b5.same N).t,λm2 v8 z7 u8 A0 z9 f4 u0 n5 x9 e8 i8=>?_⟩;have f2:xZ R S (.file (i:Nat) "deep") (.num (Bk.thr R i).length) (Bk.laid R (Bk.thr R i) "deep") S:= .file m0 r1;have l8:Run [] [] (es++ [.file (i:Nat) "deep",.letters "deep"]) (as++ [.num (Bk.thr R i).length,.nums (inF (Bk.laid R (Bk.thr R i) "deep") "deep")]) (Bk.laid R (Bk.thr R i) "deep") S:=by have:=Run.snoc (Run.snoc Z f2) (xZ.letters (w:="deep"));rw[cXJ,cXJ]at this;exact this
 obtain⟨rfl,rfl,rfl⟩:=Run.det _ rfl l8 n5;obtain⟨l7,m6,rfl,j0,c4⟩:=bWr i8;have g7:=(b5.same N).sameT f4 u0;have i6:=f4.lst (N _ _ d7);have f6:=Desk.wH (λv r (z:xH H14 r v)=>(z.same N.t).same f4) e5;have U:=f4.lst (N _ _ a2);have f0:=f4.tup (N _ _ b7);have o4:l7.length=B.length:=by rw[cZE j0,<- Z.len,g7.d.2.1]
 clear b5 d7 e5 a2 b7 b1 b2 b3 N o8 i8;have j8:∀k,k∈L↔k∈inF (Bk.laid R (Bk.thr R i) "deep") "deep":=λk=>by
  unfold inF;rw[cXA,cQ5,Bk.wG,Bk.vV,eo];constructor
  ·intro hk;obtain⟨C,J,a4⟩:=a9 k hk;rw[if_pos hk,J];exact⟨Bk.wU J,by show(!C.void && decide (("deep":Str)="deep"))=true;rw[a4];simp⟩
  ·rintro⟨hk,h⟩;by_cases hm:k∈L
   ·exact hm
   ·exfalso;rw[if_neg hm,cQw hk]at h;have G:R[k].place="deep":=of_decide_eq_true (Bool.and_eq_true_iff.mp h).2;exact bX7 (by rw[<- G];exact i5 _ (cZk hk))
 dsimp only[yW];refine⟨_,rfl,_,"list",_,_,rfl,.lst e8,zF _,_,rfl,onF rfl ?_⟩;refine⟨_,rfl,_,rfl,ds,_,rfl,.inl (SqL.of g7.d.1),_,rfl,m2,_,rfl,SqL.of e8,λp4 c9=>?_⟩;have b1:=yE c9 (.lst (qA (l7++m6) (some ((B.map V.ref).length:Nat)) none));have e1:qA (l7++m6) (some ((B.map V.ref).length:Nat)) none=m6:=by rw[aWd,cQB,<- o4,List.drop_left]
 refine⟨_,rfl,nl,_,rfl,.inl (SqL.of (b1 _ _ U)),_,rfl,nl,L.map (λj:Nat=>(j:Int)),rfl,by rw[cZf];exact b1 _ _ U,by rw[cQB];omega,λsl p9 o9 n4 s5=>?_⟩;have b2:=yE o9 (.lst (p9.map V.int));have t3:p9=(inF (Bk.laid R (Bk.thr R i) "deep") "deep").map λj:Nat=>(j:Int):=bXs n4 s5 u1 ((bJa _).sublist cZp) j8;refine⟨z2,λl5 f8=>?_⟩;have b3:=yE f8 (.lst [.int ((L.map λi=>V.int (i:Nat)).length:Nat),.ref sl]);have N:=(b1.trans b2).trans b3;have v9:(inF (Bk.laid R (Bk.thr R i) "deep") "deep").length<=25:=by unfold inF;refine cQ7 (cXu _ _) ?_;rw[cXp,Bk.wG];exact o3
 refine⟨.ref p4,.ref l5,.lst ([.num (Bk.thr R i).length,.nums (inF (Bk.laid R (Bk.thr R i) "deep") "deep")].map jJ),rfl,aQy (b3 _ _ (b2 _ _ (yB.trans (by rw[e1])))) ?_,aQy yB ?_,bQe bVa _,cQ7 (aQU (n:=2) (c:=40) (λx hx=>?_) (cQE _)) (by decide),λi0 r0=>⟨_,rfl,onF rfl ?_⟩⟩
 ·exact zX (F:=λv a=>uA [] _ a v) (λv a z=>aJp z) (Desk.wH (λv a z=>Law.qO z λp u n e=>⟨n,N _ _ e⟩) c4)
 ·show wD _ [_,_] [jJ _,jJ _];unfold wD;refine⟨aJp (o:= []) (a:= .num _) (by show V.int _=V.int _;rw[cQB,eo]),?_⟩;unfold wD;refine⟨aJp (o:= []) (a:= .nums _) ⟨sl,rfl,(λz=>nomatch z),b3 _ _ (yB.trans (by rw[t3,cZf];rfl))⟩,?_⟩;unfold wD;trivial
 ·simp only[cQG,cVq,or_false]at hx;rcases hx with rfl|rfl
  ·show Dt.size (.int _)<=40;simp[Dt.size]
  ·rw[J2];omega
 have kk:=N.trans r0;have w3:=g7.same kk;have j4:=kk _ _ i6;have b6:=Desk.wH (λv r (z:xH v8 r v)=>z.same kk.t) f6;have c5:=kk _ _ U;have n2:=kk _ _ f0;clear g7 i6 f6 U f0 b1 b2 b3 N r0 kk j0 c4 e8 f8 o9 c9;refine⟨_,rfl,d1,_,rfl,.inl (SqL.of j4),λbh r5=>?_⟩;have b1:=yE r5 (.lst h4);dsimp only[yW];refine⟨_,rfl,nl,rfl,⟨_,SqL.of (b1 _ _ c5)⟩,?_⟩;refine zS (xs:=L.map λi=>V.int (i:Nat)) (λt σ H=>∃ (a6:List V)(h6:Option V),σ= [some (.ref a),some (.ref ds),some (.ref ra),some (.ref du),some (.ref d1),some (.ref D),some (.ref D2),o7,some (.ref m2),some (.int (i:Nat)),some (.ref nl),some (.ref la),some (.ref bh),h6]/\xJ i0 H/\H bh=some (.lst a6)/\cQd H bh h4 R (L.take t) a6) ?_ ?_ ?_ ?_
 ·refine⟨h4,none,rfl,b1,yB,v0,λm C J=>?_⟩;obtain⟨v,I,_⟩:=bZZ b6 J;exact⟨v,I,(λz=>by simp at z),λ_=>I⟩
 ·rintro t σ H ht ⟨a6,h6,rfl,kH,I,G⟩;exact SqL.of (kH _ _ c5)
 ·rintro t v σ H hv ⟨a6,h6,rfl,kH,I,G,h3⟩;rw[cQR]at hv;cases hx:L[t]? with
  |none=>rw[hx]at hv;cases hv
  |some k=>
   rw[hx]at hv;cases hv;have v6:k∈L:=cQP hx;have et:L.take (t+1)=L.take t++ [k]:=by rw[cXx,hx];rfl
   obtain⟨C,J,a4⟩:=a9 k v6;have l1:=Bk.wU J;obtain⟨pk,g1,g2⟩:=bXK (Desk.wH (λv r (z:xH i0 r v)=>z.same kH.t) b6) J a4;rw[aWW a4]at g2;have u7:=kH _ _ j4;dsimp only[yW];refine⟨_,rfl,_,rfl,d1,_,_,_,rfl,rfl,SqL.of u7,yT g1,_,rfl,pk,_,rfl,SqT.of g2,(show ¬ (HT.sIx 6 0 none=0/\HT.sIx 6 6 (some 5)=6) by decide),λs1 v5=>?_⟩;have c1:=yE v5 (.tup (qA [.str C.way,.int C.date,.str C.partner,.int C.term,zV C.link,.str C.place] none (some 5)));refine⟨z1,λs2 u4=>?_⟩;have c2:=yE u4 (.tup [.str "deep"]);refine⟨s1,s2,_,_,rfl,rfl,SqT.of (c2 _ _ yB),SqT.of yB,(λz=>nomatch z),(show 5+1<=cQW by rw[cQZ];decide),(λz=>nomatch z),λ_ s3 w5=>?_⟩;have c3:=yE w5 (.tup (qA [.str C.way,.int C.date,.str C.partner,.int C.term,zV C.link,.str C.place] none (some 5)++ [.str "deep"]));have cc:=(c1.trans c2).trans c3;have c6:=yB (H:=upd (upd H s1 (.tup (qA [.str C.way,.int C.date,.str C.partner,.int C.term,zV C.link,.str C.place] none (some 5)))) s2 (.tup [.str "deep"])) (a:=s3) (o:= .tup (qA [.str C.way,.int C.date,.str C.partner,.int C.term,zV C.link,.str C.place] none (some 5)++ [.str "deep"]));have d8:=cc _ _ I;generalize upd (upd (upd H s1 (.tup (qA [.str C.way,.int C.date,.str C.partner,.int C.term,zV C.link,.str C.place] none (some 5)))) s2 (.tup [.str "deep"])) s3 (.tup (qA [.str C.way,.int C.date,.str C.partner,.int C.term,zV C.link,.str C.place] none (some 5)++ [.str "deep"]))=H' at cc c6 d8 ⊢;have n3:s3≠bh:=λz=>by rw[z,d8]at c6;cases c6
   refine⟨_,rfl,_,rfl,bh,a6,(k:Int),k,rfl,rfl,d8,?_,?_⟩
   ·unfold ixN;rw[if_pos (by omega),if_pos (by omega),cQ6]
   ·have r7:i0 bh=none:=r5;refine⟨a6.set k (.ref s3),_,rfl,zZ (kH.trans cc) r7,yB,by rw[List.length_set];exact G,λm r2 l3=>?_⟩;rw[et];by_cases j9:m=k
    ·subst j9;rw[J]at l3;cases l3;exact⟨.ref s3,by rw[cZU (by omega)],λ_=>⟨s3,rfl,n3,by rw[yJ n3];exact c6⟩,λz=>absurd (cQU _ cQM) z⟩
    ·obtain⟨v,e1,e2,e3⟩:=h3 m r2 l3;refine⟨v,by rw[cJR (cXg j9)];exact e1,λz=>?_,λz=>e3 λy=>z (cZl _ y)⟩;rcases cQ4.mp z with z|z
     ·obtain⟨p,y1,y2,y3⟩:=e2 z;exact⟨p,y1,y2,by rw[yJ y2];exact cc _ _ y3⟩
     ·exact absurd (cQL.mp z) j9
 rintro σ t5 ⟨a6,h6,rfl,l0,I,G,h3⟩;rw[cQB,cXs]at h3;have h8:=w3.same l0;have n9:=l0 _ _ n2;have c4:=Desk.wH (λv r (z:xH i0 r v)=>z.same l0.t) b6;dsimp only[aV8];refine⟨_,rfl,_,rfl,z1,λl6 w7=>?_⟩;have b2:=yE w7 (.lst [.ref la]);refine⟨ds,l6,B.map V.ref,_,rfl,rfl,b2 _ _ h8.d.1,yB,by rw[cQB,cQZ];show B.length+1<=_;omega,λp5 h5=>?_⟩;have b3:=yE h5 (.lst (B.map V.ref++ [.ref la]));have N:=b2.trans b3;have v3:=W3 (das2:= [la]) (es2:= [.file (i:Nat) "deep"]) h8.d.2.1 (λi d e I G=>N _ _ (h8.d.2.2 i d e I G)) rfl (λm d e I G=>by
  match m,I,G with
  |0,I,G=>cases I;cases G;exact N _ _ n9
  |m+1,I,G=>cases I) (yB (H:=upd t5 l6 (.lst [.ref la])) (a:=p5) (o:= .lst (B.map V.ref++ [.ref la])))
 refine⟨p5,B++ [la],es++ [.file (i:Nat) "deep"],rfl,v3,by simp;omega,λe he=>?_,(h8.same N).t,λv4 w0 x5 x4 z6 y7 n7 z4 n6 x3 q9 r9=>?_⟩
 ·rcases cQ4.mp he with z|z
  ·exact g0 e z
  ·rw[cQL.mp z];exact cXQ
 obtain⟨-,rfl, -⟩:=Run.det _ rfl n6 (Run.snoc Z f2);have k2:=n7.lst (N _ _ I);have o0:=Desk.wH (λv r (z:xH t5 r v)=>(z.same N.t).same n7) c4;refine⟨_,rfl,.ref v4,.ref bh,.lst ((Bk.laid R (Bk.thr R i) "deep").map uV),rfl,aQy q9 (zX (F:=λv r=>xH w0 r v) (λv r z=>aQO z) r9),aQy k2 (aWj (by rw[Bk.wG];exact G) λm v r2 e1 e2=>?_),bQe bZz _,cQ7 (aQU (n:=25) (c:=7) (λr _=>aZi r) (by rw[Bk.wG];exact o3)) (by decide),λv1 _=>q v1⟩;rw[Bk.vV,eo]at e2;have q4:m<R.length:=by rw[<- G];exact(cQK.mp e1).1
 have o1:=cQw q4;obtain⟨v',y1,y2,y3⟩:=h3 m _ o1;rw[e1]at y1;cases y1;by_cases f1:m∈L
 ·rw[if_pos f1,o1]at e2;cases e2;obtain⟨p,rfl,_,z⟩:=y2 f1;obtain⟨C,J,a4⟩:=a9 m f1;rw[o1]at J;cases J;have e3:uV {R[m]with place:="deep"}= .tup ([.str R[m].way,.int R[m].date,.str R[m].partner,.int R[m].term,zV R[m].link,.str "deep"].map vDt):=by
   unfold uV;rw[if_neg (by show ¬R[m].void=true;rw[a4];decide),aWW (r:={R[m]with place:="deep"}) a4]
  rw[e3];refine aYS (n7.tup (N _ _ z)) ?_;cases R[m].link<;> simp[aW5,zV]
 ·rw[if_neg f1]at e2;obtain⟨v2,z1,z2⟩:=bZZ o0 e2;rw[y3 f1]at z1;cases z1;exact aQO z2
end
end Alike
namespace Desk
open PySem L2 PyProof.Rows
section
variable {K:cQz}
abbrev aXy:Stmt:=xQ "Refused" "__init__"
def aKY:yO ["self","words"] ["self","words"] (yH aXy):=scM
def aKB(F:Fun K "__init__" "Refused.__init__" aXy f fd):xL P w K mg base CX0 (n+1) f fd ["self","words"] (vR K):=by
 have d:=aKY;refine F.ok (k:=n) d (λi A outer s H j Q E l h=>?_);obtain⟨e,C,tp,y,rfl,b,c,q⟩:=h;refine⟨_,(yF (bKY (pv 0) (pv 1) rfl)),?_⟩;exact⟨_,rfl,_,rfl,e,C,tp,rfl,b,c,λg a=>q g a⟩
abbrev aQm:Stmt:=xQ "NoLetter" "__init__"
def aVT:yO ["self"] ["self"] (yH aQm):=scM
def aVt(a:aW3 P w K mg base n "Refused" "__init__" ["self","words"] (vR K))(d:jI K C)(F:Fun K "__init__" "NoLetter.__init__" aQm f fd):xL P w K mg base CX0 (n+1) f fd ["self"] (vI K C "no letter"):=by
 have g:=aVT;refine F.ok (k:=n) g (λl A outer s H m Q E j h=>?_);obtain⟨e,tp,rfl,c,q⟩:=h;refine⟨_,(yF (yZ (qH a j rfl (yA (pv 0) (yA yQ yD))))),?_⟩;exact⟨_,rfl,e,C,tp,_,rfl,c,d,λi b=>q i b⟩
abbrev aZT:Stmt:=xQ "NoTerm" "__init__"
def bXc:yO ["self"] ["self"] (yH aZT):=scM
def bQm(a:aW3 P w K mg base n "Refused" "__init__" ["self","words"] (vR K))(d:jI K C)(F:Fun K "__init__" "NoTerm.__init__" aZT f fd):xL P w K mg base CX0 (n+1) f fd ["self"] (vI K C "no term"):=by
 have g:=bXc;refine F.ok (k:=n) g (λl A outer s H m Q E j h=>?_);obtain⟨e,tp,rfl,c,q⟩:=h;refine⟨_,(yF (yZ (qH a j rfl (yA (pv 0) (yA yQ yD))))),?_⟩;exact⟨_,rfl,e,C,tp,_,rfl,c,d,λi b=>q i b⟩
abbrev aZS:Stmt:=xQ "HasOne" "__init__"
def bXb:yO ["self"] ["self"] (yH aZS):=scM
def bQl(a:aW3 P w K mg base n "Refused" "__init__" ["self","words"] (vR K))(d:jI K C)(F:Fun K "__init__" "HasOne.__init__" aZS f fd):xL P w K mg base CX0 (n+1) f fd ["self"] (vI K C "has one"):=by
 have g:=bXb;refine F.ok (k:=n) g (λl A outer s H m Q E j h=>?_);obtain⟨e,tp,rfl,c,q⟩:=h;refine⟨_,(yF (yZ (qH a j rfl (yA (pv 0) (yA yQ yD))))),?_⟩;exact⟨_,rfl,e,C,tp,_,rfl,c,d,λi b=>q i b⟩
abbrev aXx:Stmt:=xQ "HasNone" "__init__"
def aKX:yO ["self"] ["self"] (yH aXx):=scM
def aKA(a:aW3 P w K mg base n "Refused" "__init__" ["self","words"] (vR K))(d:jI K C)(F:Fun K "__init__" "HasNone.__init__" aXx f fd):xL P w K mg base CX0 (n+1) f fd ["self"] (vI K C "has none"):=by
 have g:=aKX;refine F.ok (k:=n) g (λl A outer s H m Q E j h=>?_);obtain⟨e,tp,rfl,c,q⟩:=h;refine⟨_,(yF (yZ (qH a j rfl (yA (pv 0) (yA yQ yD))))),?_⟩;exact⟨_,rfl,e,C,tp,_,rfl,c,d,λi b=>q i b⟩
abbrev Z1:Stmt:=xQ "OwnThread" "__init__"
def aJN:yO ["self"] ["self"] (yH Z1):=scM
def aJB(a:aW3 P w K mg base n "Refused" "__init__" ["self","words"] (vR K))(d:jI K C)(F:Fun K "__init__" "OwnThread.__init__" Z1 f fd):xL P w K mg base CX0 (n+1) f fd ["self"] (vI K C "own thread"):=by
 have g:=aJN;refine F.ok (k:=n) g (λl A outer s H m Q E j h=>?_);obtain⟨e,tp,rfl,c,q⟩:=h;refine⟨_,(yF (yZ (qH a j rfl (yA (pv 0) (yA yQ yD))))),?_⟩;exact⟨_,rfl,e,C,tp,_,rfl,c,d,λi b=>q i b⟩
abbrev aXz:Stmt:=xQ "SameWay" "__init__"
def aKZ:yO ["self"] ["self"] (yH aXz):=scM
def aKC(a:aW3 P w K mg base n "Refused" "__init__" ["self","words"] (vR K))(d:jI K C)(F:Fun K "__init__" "SameWay.__init__" aXz f fd):xL P w K mg base CX0 (n+1) f fd ["self"] (vI K C "same way"):=by
 have g:=aKZ;refine F.ok (k:=n) g (λl A outer s H m Q E j h=>?_);obtain⟨e,tp,rfl,c,q⟩:=h;refine⟨_,(yF (yZ (qH a j rfl (yA (pv 0) (yA yQ yD))))),?_⟩;exact⟨_,rfl,e,C,tp,_,rfl,c,d,λi b=>q i b⟩
abbrev uU:Stmt:=xQ "OtherPartner" "__init__"
def aXH:yO ["self"] ["self"] (yH uU):=scM
def aXi(a:aW3 P w K mg base n "Refused" "__init__" ["self","words"] (vR K))(d:jI K C)(F:Fun K "__init__" "OtherPartner.__init__" uU f fd):xL P w K mg base CX0 (n+1) f fd ["self"] (vI K C "other partner"):=by
 have g:=aXH;refine F.ok (k:=n) g (λl A outer s H m Q E j h=>?_);obtain⟨e,tp,rfl,c,q⟩:=h;refine⟨_,(yF (yZ (qH a j rfl (yA (pv 0) (yA yQ yD))))),?_⟩;exact⟨_,rfl,e,C,tp,_,rfl,c,d,λi b=>q i b⟩
abbrev aQn:Stmt:=xQ "TooEarly" "__init__"
def aVU:yO ["self"] ["self"] (yH aQn):=scM
def aVu(a:aW3 P w K mg base n "Refused" "__init__" ["self","words"] (vR K))(d:jI K C)(F:Fun K "__init__" "TooEarly.__init__" aQn f fd):xL P w K mg base CX0 (n+1) f fd ["self"] (vI K C "too early"):=by
 have g:=aVU;refine F.ok (k:=n) g (λl A outer s H m Q E j h=>?_);obtain⟨e,tp,rfl,c,q⟩:=h;refine⟨_,(yF (yZ (qH a j rfl (yA (pv 0) (yA yQ yD))))),?_⟩;exact⟨_,rfl,e,C,tp,_,rfl,c,d,λi b=>q i b⟩
abbrev aZR:Stmt:=xQ "Copied" "__init__"
def bXa:yO ["self"] ["self"] (yH aZR):=scM
def bQk(a:aW3 P w K mg base n "Refused" "__init__" ["self","words"] (vR K))(d:jI K C)(F:Fun K "__init__" "Copied.__init__" aZR f fd):xL P w K mg base CX0 (n+1) f fd ["self"] (vI K C "copied"):=by
 have g:=bXa;refine F.ok (k:=n) g (λl A outer s H m Q E j h=>?_);obtain⟨e,tp,rfl,c,q⟩:=h;refine⟨_,(yF (yZ (qH a j rfl (yA (pv 0) (yA yQ yD))))),?_⟩;exact⟨_,rfl,e,C,tp,_,rfl,c,d,λi b=>q i b⟩
abbrev aQl:Stmt:=xQ "Answered" "__init__"
def aVS:yO ["self"] ["self"] (yH aQl):=scM
def aVs(a:aW3 P w K mg base n "Refused" "__init__" ["self","words"] (vR K))(d:jI K C)(F:Fun K "__init__" "Answered.__init__" aQl f fd):xL P w K mg base CX0 (n+1) f fd ["self"] (vI K C "answered"):=by
 have g:=aVS;refine F.ok (k:=n) g (λl A outer s H m Q E j h=>?_);obtain⟨e,tp,rfl,c,q⟩:=h;refine⟨_,(yF (yZ (qH a j rfl (yA (pv 0) (yA yQ yD))))),?_⟩;exact⟨_,rfl,e,C,tp,_,rfl,c,d,λi b=>q i b⟩
abbrev Z0:Stmt:=xQ "CountsNot" "__init__"
def aJM:yO ["self"] ["self"] (yH Z0):=scM
def aJA(a:aW3 P w K mg base n "Refused" "__init__" ["self","words"] (vR K))(d:jI K C)(F:Fun K "__init__" "CountsNot.__init__" Z0 f fd):xL P w K mg base CX0 (n+1) f fd ["self"] (vI K C "counts not"):=by
 have g:=aJM;refine F.ok (k:=n) g (λl A outer s H m Q E j h=>?_);obtain⟨e,tp,rfl,c,q⟩:=h;refine⟨_,(yF (yZ (qH a j rfl (yA (pv 0) (yA yQ yD))))),?_⟩;exact⟨_,rfl,e,C,tp,_,rfl,c,d,λi b=>q i b⟩
end
end Desk
namespace End4
open PySem L2 PyProof.Rows
section
variable {K:cQz}{x m qual t:Str}{st:Stmt}{f C R CB CL:Nat}{oc:cQx}{od an:Option Nat}{osl:Array (Option cQx)}{kV doc pm cdv ct:cQx}
structure uY(K:cQz)(x:Str)(st:Stmt)(f:Nat):Prop where
 ns:cXw K cQ8 x=some (some (.ref f))
 ex:∃fd,Fun K x x st f fd
def Def(K:cQz)(x:Str)(st:Stmt):Prop:=∃f,uY K x st f
def zB(a:cXw K cQ8 x=some (some (.ref f)))(l:K.lookup f=some ⟨oc,od,.func (cXW x x (wX st) (zW st) (yH st) .none kV doc pm an cdv ct),osl⟩)
  (c:cZn K cdv x=true) (k:cXv K (.ref f)=true):uY K x st f:=⟨a,_,aX4 l c k⟩
def xT(a:cXw K cQ8 x=some (some (.ref f)))(l:K.lookup f=some ⟨oc,od,.func (cXW x x (wX st) (zW st) (yH st) .none kV doc pm an cdv ct),osl⟩)
  (c:cZn K cdv x=true) (k:cXv K (.ref f)=true):Def K x st:=⟨f,zB a l c k⟩
structure Mtd(K:cQz)(C:Nat)(m qual:Str)(st:Stmt):Prop where
 ex:∃f fd,bKf K C m f/\Fun K m qual st f fd
def zK(a:cXl K (.ref C) m=some (some (.ref f)))(i:cJk K (.ref f)=true)(l:K.lookup f=some ⟨oc,od,.func (cXW m qual (wX st) (zW st) (yH st) .none kV doc pm an cdv ct),osl⟩)
  (c:cZn K cdv qual=true) (k:cXv K (.ref f)=true):Mtd K C m qual st:=⟨f,_,⟨a,i,k⟩,aX4 l c k⟩
structure MkD(K:cQz)(x:Str)(C:Nat)(qual:Str)(st:Stmt):Prop where
 ns:cXw K cQ8 x=some (some (.ref C))
 ex:∃f fd,Mk K C f/\Fun K "__init__" qual st f fd
def bJ9(a:cXw K cQ8 x=some (some (.ref C)))(mk:PySem.W.makesIn K C=true)(d:cXv K (.ref C)=true)(b:cXl K (.ref C) "__init__"=some (some (.ref f)))(i:cJk K (.ref f)=true) (l:K.lookup f=some ⟨oc,od,.func (cXW "__init__" qual (wX st) (zW st) (yH st) .none kV doc pm an cdv ct),osl⟩) (c:cZn K cdv qual=true) (k:cXv K (.ref f)=true):MkD K x C qual st:=
 ⟨a,f,_,⟨mk,b,i,d⟩,aX4 l c k⟩
structure Exc(K:cQz)(R:Nat)(x qual:Str)(st:Stmt):Prop where
 ex:∃C f fd,cXw K cQ8 x=some (some (.ref C))/\jI K C/\cJW K C (.ref R)=some true/\cXl K (.ref C) "__init__"=some (some (.ref f))/\cJk K (.ref f)=true/\cXv K (.ref C)=true/\Fun K "__init__" qual st f fd
def qE(a:cXw K cQ8 x=some (some (.ref C)))(e:bZc K C=true)(g:cJW K C (.ref R)=some true)(d:cXv K (.ref C)=true)(b:cXl K (.ref C) "__init__"=some (some (.ref f)))(i:cJk K (.ref f)=true) (l:K.lookup f=some ⟨oc,od,.func (cXW "__init__" qual (wX st) (zW st) (yH st) .none kV doc pm an cdv ct),osl⟩) (c:cZn K cdv qual=true) (k:cXv K (.ref f)=true):Exc K R x qual st:=
 ⟨C,f,_,a,aYK e,g,b,i,d,aX4 l c k⟩
structure bYD(K:cQz)(x:Str)(R:Nat)(qual:Str)(st:Stmt):Prop where
 ns:cXw K cQ8 x=some (some (.ref R))
 cl:jI K R
 ex:∃f fd,PySem.W.readsIn K R (.type "type")=true/\PySem.W.findCls K (.ref R) (.type "type") "__init__"=some (.val (.ref f))/\cVf K (.ref R) "__getattribute__"=some (some (.builtin "type.__getattribute__"))/\Fun K "__init__" qual st f fd
def bWy(a:cXw K cQ8 x=some (some (.ref R)))(e:bZc K R=true)(rd:PySem.W.readsIn K R (.type "type")=true)(b:PySem.W.findCls K (.ref R) (.type "type") "__init__"=some (.val (.ref f))) (sp:cVf K (.ref R) "__getattribute__"=some (some (.builtin "type.__getattribute__"))) (l:K.lookup f=some ⟨oc,od,.func (cXW "__init__" qual (wX st) (zW st) (yH st) .none kV doc pm an cdv ct),osl⟩) (c:cZn K cdv qual=true) (k:cXv K (.ref f)=true):bYD K x R qual st:=
 ⟨a,aYK e,f,_,rd,b,sp,aX4 l c k⟩
def bYH(b1:cJl K CB Str.empty=true)(k:cJA K CB=true)(e:cVe K CB=true)(l:cXl K (.ref CB) "__setattr__"=some (some (.builtin "object.__setattr__")))
  (d:cJl K CL Str.empty=true) (r:cJA K CL=true) (j:cVe K CL=true) (n:cXl K (.ref CL) "__setattr__"=some (some (.builtin "object.__setattr__")))
  (h:cXl K (.ref CB) "letters"=some none) (c:cXl K (.ref CB) "shut"=some none)
  (q:cXl K (.ref CL) "number"=some none) (i:cXl K (.ref CL) "way"=some none) (f:cXl K (.ref CL) "day"=some none) (p:cXl K (.ref CL) "partner"=some none)
  (o:cXl K (.ref CL) "term"=some none) (m:cXl K (.ref CL) "link"=some none) (g:cXl K (.ref CL) "file"=some none) (a:cXl K (.ref CL) "copies"=some none) (b:cXl K (.ref CL) "void"=some none):
  Desk.Cl K CB CL:=⟨⟨b1,k,e,l⟩,⟨d,r,j,n⟩,h,c,q,i,f,p,o,m,g,a,b⟩
end
section
variable {P:cQT}{w:cQ2}{K:cQz}{h:Heap}{mg:Str->Option cQx}{base:Heap}{x m qual t:Str}{st:Stmt}{f C R:Nat}{k:Nat}{ps:List Str}{sp:Sp}{CX:CXT}
def aXP(x qual:Str)(st:Stmt)(ps:List Str):Prop:=∀ (kV doc pm:cQx)(an:Option Nat)(cdv ct:cQx)(a:List cQx),a.length=ps.length->bindArgs (cXW x qual (wX st) (zW st) (yH st) .none kV doc pm an cdv ct) ⟨a,[]⟩=pure (ps.zip a)
def aQN{a:cZz}(F:Fun K x qual st f a):cXv K (.ref f)=true:=F.2
def gOf(P:cQT)(w:cQ2)(base:Heap)(k:Nat)(X:K.In h)(G:h.Ns cQ8 mg)(D:Def K x st)(b:aXP x x st ps)(ok:∀f c,Fun K x x st f c->xL P w K mg base CX0 k f c ps sp):FnG P w K mg base k x ps sp:=by
 obtain⟨f,a,c,F⟩:=D;exact⟨f,c,ok f c F,F.binds b,aQN F,cZw X G a⟩
def xOf(P:cQT)(w:cQ2)(base:Heap)(k:Nat)(X:K.In h)(G:h.Ns cQ8 mg)(D:Def K x st)(b:aXP x x st ps)(ok:∀f c,Fun K x x st f c->xL P w K mg base (CXR P w) k f c ps sp):FnX P w K mg base k x ps sp:=by
 obtain⟨f,a,c,F⟩:=D;exact⟨f,c,ok f c F,F.binds b,aQN F,cZw X G a⟩
structure DoG(P:cQT)(w:cQ2)(K:cQz)(mg:Str->Option cQx)(base:Heap)(k:Nat)(f:Nat)(ps:List Str)(sp:Sp):Prop where
 ex:∃fd,xL P w K mg base (CXR P w) k f fd ps sp/\uX K fd ps []/\cXv K (.ref f)=true
def dOf(mg:Str->Option cQx)(P:cQT)(w:cQ2)(base:Heap)(k:Nat)(D:uY K x st f)(b:aXP x x st ps)(ok:∀f c,Fun K x x st f c->xL P w K mg base (CXR P w) k f c ps sp):DoG P w K mg base k f ps sp:=by
 obtain⟨a,c,F⟩:=D;exact⟨c,ok f c F,F.binds b,aQN F⟩
def mOf(mg:Str->Option cQx)(P:cQT)(w:cQ2)(base:Heap)(k:Nat)(c:Cls K C)(D:Mtd K C m qual st)(b:aXP m qual st ps)(ok:∀f a,Fun K m qual st f a->xL P w K mg base CX0 k f a ps sp):MG P w K mg base CX0 k C m ps sp:=by
 obtain⟨f,a,M,F⟩:=D.ex;exact⟨⟨f,a,ok f a F,F.binds b,M⟩,c⟩
def aVq(mg:Str->Option cQx)(P:cQT)(w:cQ2)(base:Heap)(k:Nat)(c:Cls K C)(D:Mtd K C m qual st)(b:aXP m qual st ps)(ok:∀f a,Fun K m qual st f a->xL P w K mg base (CXR P w) k f a ps sp):MG P w K mg base (CXR P w) k C m ps sp:=by
 obtain⟨f,a,M,F⟩:=D.ex;exact⟨⟨f,a,ok f a F,F.binds b,M⟩,c⟩
def kOf(P:cQT)(w:cQ2)(base:Heap)(k:Nat)(X:K.In h)(G:h.Ns cQ8 mg)(D:MkD K x C qual st)(b:aXP "__init__" qual st ps)(ok:∀f a,Fun K "__init__" qual st f a->xL P w K mg base CX0 k f a ps sp):MkG P w K mg base k x C ps sp:=by
 obtain⟨f,a,M,F⟩:=D.ex;exact⟨⟨f,a,ok f a F,F.binds b,M,cZw X G D.ns⟩⟩
def eOf(P:cQT)(w:cQ2)(base:Heap)(k:Nat)(t:Str)(X:K.In h)(G:h.Ns cQ8 mg)(D:Exc K R x qual st)(b:aXP "__init__" qual st ["self"])(ok:∀C f c,jI K C->Fun K "__init__" qual st f c->xL P w K mg base CX0 k f c ["self"] (vI K C t)):∃C,ExG P w K mg base k x R C t:=by
 obtain⟨C,f,c,a,e,g,d,i,j,F⟩:=D.ex;exact⟨C,⟨f,c,ok C f c e F,F.binds b,d,i,j,cZw X G a⟩,e,g⟩
def rOf(P:cQT)(w:cQ2)(base:Heap)(k:Nat)(X:K.In h)(G:h.Ns cQ8 mg)(D:bYD K x R qual st)(b:aXP "__init__" qual st ps)(ok:∀f a,Fun K "__init__" qual st f a->xL P w K mg base CX0 k f a ps sp):aW3 P w K mg base k x "__init__" ps sp:=by
 obtain⟨f,a,rd,c,s,F⟩:=D.ex;exact⟨⟨R,f,a,ok f a F,F.binds b,rd,c,s,aQN F,cZw X G D.ns⟩⟩
end
def Pr(w:cQ2):List DictEntry->List (Str×Nat)->Prop
 |[],[]=>True
 |e::es,(x,f)::r=>(∃t,e.key= .str x t)/\e.hash=hashStr w x/\e.val= .ref f/\Pr w es r
 |_,_=>False
abbrev bJ6(r:List (Str×Nat)):List (Key×cQx):=r.map λp=>(Sum.inr p.1,.ref p.2)
def aWz{P:cQT}{w:cQ2}:∀ {a:List DictEntry} {r:List (Str×Nat)},Pr w a r->Pairs (zP P w) a (bJ6 r)
 |[],[],_=> .nil
 |e::a,(x,f)::r,⟨⟨t,h1⟩,h2,h3,h4⟩=> .cons (by rw[h1];exact X6 P w x t) h3 (aWz h4)
 |[],_::_,h=>nomatch h
 |_::_,[],h=>nomatch h
def bQK{P:cQT}{w:cQ2}:∀ {a:List DictEntry} {r:List (Str×Nat)},Pr w a r->∀e∈a,∃k,(zP P w).is k e.key=true/\e.hash=(zP P w).hash k
 |[],_,_,e,he=>nomatch he
 |e::a,(x,f)::r,⟨⟨t,h1⟩,h2,h3,h4⟩,e',he=>by
  rcases cQG.mp he with rfl|z
  ·exact⟨Sum.inr x,by rw[h1];exact X6 P w x t,h2⟩
  ·exact bQK h4 e' z
 |_::_,[],h,_,_=>nomatch h
def bKb{P:cQT}{w:cQ2}{K:cQz}{D:Nat}{d:Array DictEntry}{f:Nat}{r:List (Str×Nat)}(l:K.lookup D=some ⟨.type "dict",none,.dict d f, #[]⟩)(p:Pr w d.toList r)(h:(r.map (·.1)).Nodup):Desk.bYF P w K D (bJ6 r):=by
 refine⟨⟨_,d,f,l,⟨rfl,rfl,rfl⟩,rfl,λe g=>bQK p e (Array.mem_toList_iff.mpr g),aWz p,?_⟩⟩;have e:(bJ6 r).map (·.1)=(r.map (·.1)).map Sum.inr:=by simp[bJ6,Function.comp_def]
 rw[e];exact List.Pairwise.map _ (λa b c z=>c (Sum.inr.inj z)) h
def jY:∀ {r:List (Str×Nat)} {x:Str} {f:Nat},(r.map (·.1)).Nodup->∀i:Nat,r[i]? =some (x,f)->cJ3 (bJ6 r) (Sum.inr x:Key)=some (.ref f)
 |[],_,_,_,_,h=>by simp at h
 |(y,g)::r,x,f,nd,0,h=>by cases h;simp[cJ3,bJ6]
 |(y,g)::r,x,f,nd,i+1,h=>by
  have c:r[i]? =some (x,f):=by simpa using h
  have a:=cZr.mp nd;have d:¬ ((Sum.inr y:Key)=Sum.inr x):=λz=>a.1 (by
   rw[Sum.inr.inj z];exact cXr.mpr ⟨(x,f),cQP c,rfl⟩)
  have b:=jY a.2 i c;unfold cJ3 at b ⊢;simp only[bJ6,cXb,cZ1,decide_eq_false d]at b ⊢;exact b
end End4
namespace L2
open PySem
section
variable {P:cQT}{w:cQ2}{K:cQz}{mg:Str->Option cQx}{base:Heap}{j k:Nat}{x t:Str}{ps:List Str}{sp:Sp}{C Rf:Nat}{CX:CXT}
def FnG.up(G:FnG P w K mg base j x ps sp)(h:j<=k:=by decide):FnG P w K mg base k x ps sp:=G.mono h
def FnX.up(G:FnX P w K mg base j x ps sp)(h:j<=k:=by decide):FnX P w K mg base k x ps sp:=G.mono h
def MG.up(G:MG P w K mg base CX j C x ps sp)(h:j<=k:=by decide):MG P w K mg base CX k C x ps sp:=G.mono h
def MkG.up(G:MkG P w K mg base j x C ps sp)(h:j<=k:=by decide):MkG P w K mg base k x C ps sp:=G.mono h
def ExG.up(G:ExG P w K mg base j x Rf C t)(h:j<=k:=by decide):ExG P w K mg base k x Rf C t:=G.mono h
end
end L2
namespace End4
open PySem L2 PyProof.Rows
def bdA{x qual:Str}{st:Stmt}{ps:List Str}(h:aXP x qual st ps:=by
  intro a b c d e f u h;rcases u with _|⟨_,_|⟨_,_|⟨_,_|⟨_,_|⟨_,_|⟨_,_|⟨_,_⟩⟩⟩⟩⟩⟩⟩<;> first|(cases h;done)|kernel_rfl):aXP x qual st ps:=h
end End4
namespace End4
open PySem L2 PyProof.Rows
set_option maxHeartbeats 0 in
def all_mk{l:PySem.W.OpenLaw}{w:cQ2}{K:cQz}{h:Heap}{mg:Str->Option cQx}{fa R L CL cA J fA fL DD i x B y I A E D z H u q r k p j:Nat}{i8 e0:Option Nat}{l3:Array (Option cQx)}{f9 e4 f6 c0 b8:cQx}{a7:Array DictEntry}{h7:Nat}{tW tO:Tok} (X:K.In h) (G:h.Ns cQ8 mg) (h4:mg "law"=some (.ref fa)) (d60:bYD K "Refused" R "Refused.__init__" Desk.aXy) (d61:Exc K R "NoLetter" "NoLetter.__init__" Desk.aQm) (d62:Exc K R "NoTerm" "NoTerm.__init__" Desk.aZT) (d63:Exc K R "HasOne" "HasOne.__init__" Desk.aZS) (d64:Exc K R "HasNone" "HasNone.__init__" Desk.aXx) (d65:Exc K R "OwnThread" "OwnThread.__init__" Desk.Z1) (d66:Exc K R "SameWay" "SameWay.__init__" Desk.aXz) (d67:Exc K R "OtherPartner" "OtherPartner.__init__" Desk.uU) (d68:Exc K R "TooEarly" "TooEarly.__init__" Desk.aQn) (d69:Exc K R "Copied" "Copied.__init__" Desk.aZR) (d70:Exc K R "Answered" "Answered.__init__" Desk.aQl) (d71:Exc K R "CountsNot" "CountsNot.__init__" Desk.Z0) (d9:MkD K "Letter" CL "Letter.__init__" Desk.bQ0) (d24:MkD K "Book" L "Book.__init__" Desk.bQT) (cl:Desk.Cl K L CL) (d10:Mtd K CL "state" "Letter.state" Desk.bQ5) (d11:Mtd K CL "is_answered_by" "Letter.is_answered_by" Desk.bQS) (d12:Mtd K CL "has_gone_to" "Letter.has_gone_to" Desk.bWB) (d13:Mtd K CL "make_void" "Letter.make_void" Desk.bWL) (d15:Mtd K L "letter_at" "Book.letter_at" Desk.aXu) (d16:Mtd K L "answers_to" "Book.answers_to" Desk.aWD) (d17:Mtd K L "copies_of" "Book.copies_of" Desk.aXt) (d18:Mtd K L "state_of" "Book.state_of" Desk.aZP) (d19:Mtd K L "letters_in" "Book.letters_in" Desk.qY) (d20:Mtd K L "answered_by" "Book.answered_by" Desk.aXs) (d21:Mtd K L "waiting_pairs" "Book.waiting_pairs" Desk.bQ2) (d22:Mtd K L "waiting" "Book.waiting" Desk.aQT) (d23:Mtd K L "overdue" "Book.overdue" Desk.aQS) (d25:Mtd K L "add_letter" "Book.add_letter" Desk.bYS) (d28:Mtd K L "enter" "Book.enter" Desk.bQZ) (d29:Mtd K L "reply" "Book.reply" Desk.bQ4) (d30:Mtd K L "loosen" "Book.loosen" Desk.aVP) (d31:Mtd K L "put_term" "Book.put_term" Desk.aZN) (d32:Mtd K L "send_copy" "Book.send_copy" Desk.bWJ) (d33:Mtd K L "cancel" "Book.cancel" Desk.aVL) (d34:Mtd K L "shut_day" "Book.shut_day" Desk.bWK) (d35:Mtd K L "put_day" "Book.put_day" Desk.aVQ) (d36:Mtd K L "thread_of" "Book.thread_of" Desk.J9) (d37:Mtd K L "lay_thread" "Book.lay_thread" Desk.bYV) (d38:Mtd K L "check_hanging" "Book.check_hanging" Desk.bQU) (d39:Mtd K L "hang" "Book.hang" Desk.bWD) (d58:Mtd K L "standing_states" "Book.standing_states" Desk.aZQ) (d1:Def K "open_by_rest" Days.bWH) (d2:Def K "place_of" Days.bQ3) (d3:Def K "counts" Days.aVM) (d4:Def K "closed_days" Days.aZI) (d5:Def K "day_at" Days.bQW) (d6:Def K "due_day" Days.bYU) (d7:Def K "top_of" Thr.bQ8) (d8:Def K "thread" Thr.aVR) (d14:Def K "other_way" Desk.bQ1) (d26:Def K "check_term" Desk.bQ6) (d27:Def K "check_days" Desk.bQX) (d56:Def K "answer" Desk.aVJ) (d57:Def K "answers" Desk.aQQ) (d59:Def K "standing" Desk.aXv) (d72:Def K "_law_good" Law.bWC) (d73:Def K "_law_kids_of" Law.bJe) (d74:Def K "_law_waits_on" Law.aWF) (d75:Def K "_law_due_by" Law.bQY) (d76:Def K "_law_list_on" Law.aZM) (d77:Def K "_law_family" Law.aZK) (d78:Def K "_law_lost" Law.bWG) (d79:Def K "_law_dated" Law.bQV) (d80:Def K "_law_hung" Law.bWE) (d81:Def K "_law_entered" Law.aZJ) (d82:Def K "_law_with_one" Law.bWM) (d83:Def K "_law_told_of" Law.bQ7) (d84:Def K "_law_done_by" Law.bWA) (d85:Def K "_law_hanging" Law.aQR) (d86:Def K "_law_about" Law.aWC) (d87:Def K "_law_deed_at" Law.aVN) (d88:Def K "_law_story" Law.aWE) (d89:Def K "_law_whole" Alike.bQ9) (d90:Def K "_law_room" Alike.bWI) (d91:Def K "_law_alike" Alike.bQR) (d92:Def K "_law_at" Alike.sAt) (d93:Def K "_law_unturned" Alike.aXw) (d94:Def K "_law_book_of" Alike.aVK) (d95:Def K "_law_standing_of" Alike.aZO) (d96:Def K "_law_folders" Alike.aZL) (d40:uY K "do_enter" Desk.aQo i) (d41:uY K "do_reply" Desk.aQq x) (d42:uY K "do_hang" Desk.aXD B) (d43:uY K "do_loose" Desk.aQp y) (d44:uY K "do_date" Desk.aXB I) (d45:uY K "do_term" Desk.aXF A) (d46:uY K "do_copy" Desk.aXA E) (d47:uY K "do_file" Desk.aXC D) (d48:uY K "do_void" Desk.aXG z) (d49:uY K "do_shut" Desk.aXE H) (d50:uY K "ask_state" Desk.Z2 u) (d51:uY K "ask_thread" Desk.qJ q) (d52:uY K "ask_copies" Desk.qI r) (d53:uY K "ask_letters" Desk.jQ k) (d54:uY K "ask_waiting" Desk.jS p) (d55:uY K "ask_overdue" Desk.jR j) (dL:uY K "law" Alike.bWF fL) (aA:cXw K cQ8 "answers_to_each"=some (some (.ref fA))) (lA:K.lookup fA=some ⟨f9,i8,.func (cXW "answers_to_each" "answers_to_each" (wX Thr.aVI) (zW Thr.aVI) (yH Thr.aVI) .none e4 f6 c0 e0 (.ref cA) b8),l3⟩) (cA1:cZn K (.ref cA) "answers_to_each"=true) (kA:cXv K (.ref fA)=true) (nD:cXw K cQ8 "DEEDS"=some (some (.ref DD))) (lD:K.lookup DD=some ⟨.type "dict",none,.dict a7 h7, #[]⟩) (pD:Pr w a7.toList [("in",i),("out",i),("reply",x),("hang",B),("loose",y),("date",I),("term",A),("copy",E),("file",D),("void",z),("shut",H),("state",u),("thread",q),("copies",r),("letters",k),("waiting",p),("overdue",j)]) (z_len:cXw K cQ8 "len"=some none) (z_min:cXw K cQ8 "min"=some none) (z_sum:cXw K cQ8 "sum"=some none) (z_sorted:cXw K cQ8 "sorted"=some none) (z_isinstance:cXw K cQ8 "isinstance"=some none) (z_int:cXw K cQ8 "int"=some none) (z_str:cXw K cQ8 "str"=some none) (z_bool:cXw K cQ8 "bool"=some none) (z_list:cXw K cQ8 "list"=some none) (z_tuple:cXw K cQ8 "tuple"=some none) (z_set:cXw K cQ8 "set"=some none) (z_range:cXw K cQ8 "range"=some none) (z_reversed:cXw K cQ8 "reversed"=some none) (z_max:cXw K cQ8 "max"=some none) (y_week:cXw K cQ8 "WEEK"=some (some (.int 7 tW))) (y_open:cXw K cQ8 "OPEN_DAYS"=some (some (.int 5 tO))) (tb:cVr K cA J=true) (tn:K.lookup J=none) :∃ (g:cZz)(c:Nat),cVr K c J=true/\K.lookup J=none/\(∀ (s:cQA)(v:cQx),BindsTo s g ⟨[v],[]⟩ [("_law_script",v)])/\∀base:Heap,K.In base->base.Ns cQ8 mg->cZF base c J->base.BuiltinsAt mg J->xL l.prog w K mg base CX0 11 fa g ["_law_script"] (Alike.bJE J K):=by
 obtain⟨aL,b0,Q⟩:=dL;have e:=h4.symm.trans (cZw X G aL);cases e;have TD:Days.uJ mg:=⟨cQO X G z_len,cQO X G z_min,cQO X G z_sum,cQO X G z_sorted,cQO X G z_isinstance,cQO X G z_int,cQO X G z_str,cQO X G z_bool,cQO X G z_list,cQO X G z_tuple,cQO X G z_set,cQO X G z_range,cQO X G z_reversed,⟨_,cZw X G y_week⟩,⟨_,cZw X G y_open⟩⟩;have TT:Thr.uJ mg:=⟨cQO X G z_len,cQO X G z_sorted,cQO X G z_isinstance,cQO X G z_int,cQO X G z_str,cQO X G z_bool,cQO X G z_list,cQO X G z_tuple,cQO X G z_range⟩;have TB:Desk.uJ mg:=⟨cQO X G z_len,cQO X G z_sorted,cQO X G z_list⟩;have T:Law.uJ mg:=⟨cQO X G z_len,cQO X G z_range⟩;have TA:Alike.uJ mg:=⟨cQO X G z_len,cQO X G z_sorted,cQO X G z_isinstance,cQO X G z_int,cQO X G z_str,cQO X G z_bool,cQO X G z_list,cQO X G z_tuple,cQO X G z_range⟩;have bL:∀ (s:cQA)(v:cQx),BindsTo s b0 ⟨[v],[]⟩ [("_law_script",v)]:=by obtain⟨oc,od,kV,l7,pm,an,l6,ct,l8,rfl,lk,l5⟩:=Q.ex;exact λs v=> .of_eq rfl
 refine⟨b0,cA,tb,tn,bL,λbase _ _ M hB=>?_⟩;have g0:FnG l.prog w K mg base 2 "answers_to_each" ["links","dates"] (Thr.bW5 J):=⟨fA,_,Thr.bKO TT M hB lA cA1,(aX4 (st:=Thr.aVI) lA cA1 kA).binds bdA,kA,cZw X G aA⟩;have g1:=gOf l.prog w base 1 X G d1 bdA λf g F=>Days.bWj TD F;have g2:=gOf l.prog w base 1 X G d2 bdA λf g F=>Days.bZR TD F;have g3:=gOf l.prog w base 2 X G d3 bdA λf g F=>Days.bQr TD g1.up F;have g4:=gOf l.prog w base 2 X G d4 bdA λf g F=>Days.bQq TD g1.up F;have g5:=gOf l.prog w base 1 X G d5 bdA λf g F=>Days.bZK TD F;have g6:=gOf l.prog w base 3 X G d6 bdA λf g F=>Days.bKP TD g4.up g2.up g5.up F;have g7:=gOf l.prog w base 1 X G d7 bdA λf g F=>Thr.bZW TT F;have g8:=gOf l.prog w base 3 X G d8 bdA λf g F=>Thr.bQy TT g0.up g7.up F;have g9:=kOf l.prog w base 1 X G d9 bdA λf g F=>Desk.bZO (n:=0) cl F;have a4:=mOf mg l.prog w base 1 cl.l d10 bdA λf g F=>Desk.bZT (n:=0) cl F;have i4:=mOf mg l.prog w base 1 cl.l d11 bdA λf g F=>Desk.bZF (n:=0) cl F;have f8:=mOf mg l.prog w base 1 cl.l d12 bdA λf g F=>Desk.bWc (n:=0) cl F;have f7:=mOf mg l.prog w base 1 cl.l d13 bdA λf g F=>Desk.bWo (n:=0) cl F;have b6:=gOf l.prog w base 1 X G d14 bdA λf g F=>Desk.bZP (n:=0) F;have b3:=mOf mg l.prog w base 2 cl.b d16 bdA λf g F=>Desk.bZG (n:=1) cl i4.up F;have f5:=mOf mg l.prog w base 1 cl.b d19 bdA λf g F=>Desk.aJD (n:=0) cl F;have c5:=mOf mg l.prog w base 1 cl.b d20 bdA λf g F=>Desk.aVv (n:=0) cl F;have a5:=mOf mg l.prog w base 4 cl.b d21 bdA λf g F=>Desk.bZQ (n:=3) TB cl c5.up g6.up F;have k7:=mOf mg l.prog w base 5 cl.b d22 bdA λf g F=>Desk.aKS (n:=4) cl a5.up F;have f0:=mOf mg l.prog w base 5 cl.b d23 bdA λf g F=>Desk.aKO (n:=4) cl a5.up F;have a6:=kOf l.prog w base 1 X G d24 bdA λf g F=>Desk.bZH (n:=0) cl F;have a3:=mOf mg l.prog w base 3 cl.b d25 bdA λf g F=>Desk.bKN (n:=1) TB cl g9.up F;have c6:=dOf mg l.prog w base 2 d53 bdA λf g F=>Desk.aXV (n:=1) (Rf:=(R,J)) f5.up F;have k2:=dOf mg l.prog w base 6 d54 bdA λf g F=>Desk.aXX (n:=5) (Rf:=(R,J)) k7.up F;have i3:=dOf mg l.prog w base 6 d55 bdA λf g F=>Desk.aXW (n:=5) (Rf:=(R,J)) f0.up F;have j6:=mOf mg l.prog w base 2 cl.b d58 bdA λf g F=>Desk.bQx (n:=1) cl a4.up F;have N:=rOf l.prog w base 1 X G d60 bdA λf g F=>Desk.aKB (n:=0) F;obtain⟨_,j8⟩:=eOf l.prog w base 2 "no letter" X G d61 bdA λC f g M F=>Desk.aVt (n:=1) N M F;obtain⟨_,c7⟩:=eOf l.prog w base 2 "no term" X G d62 bdA λC f g M F=>Desk.bQm (n:=1) N M F;obtain⟨_,j9⟩:=eOf l.prog w base 2 "has one" X G d63 bdA λC f g M F=>Desk.bQl (n:=1) N M F;obtain⟨_,i5⟩:=eOf l.prog w base 2 "has none" X G d64 bdA λC f g M F=>Desk.aKA (n:=1) N M F;obtain⟨_,h9⟩:=eOf l.prog w base 2 "own thread" X G d65 bdA λC f g M F=>Desk.aJB (n:=1) N M F;obtain⟨_,h6⟩:=eOf l.prog w base 2 "same way" X G d66 bdA λC f g M F=>Desk.aKC (n:=1) N M F;obtain⟨_,h2⟩:=eOf l.prog w base 2 "other partner" X G d67 bdA λC f g M F=>Desk.aXi (n:=1) N M F;obtain⟨_,e9⟩:=eOf l.prog w base 2 "too early" X G d68 bdA λC f g M F=>Desk.aVu (n:=1) N M F;obtain⟨_,i2⟩:=eOf l.prog w base 2 "copied" X G d69 bdA λC f g M F=>Desk.bQk (n:=1) N M F;obtain⟨_,k6⟩:=eOf l.prog w base 2 "answered" X G d70 bdA λC f g M F=>Desk.aVs (n:=1) N M F;obtain⟨_,h8⟩:=eOf l.prog w base 2 "counts not" X G d71 bdA λC f g M F=>Desk.aJA (n:=1) N M F;have S:=gOf l.prog w base 1 X G d72 bdA λf g F=>Law.bWd T F;have a1:=gOf l.prog w base 1 X G d73 bdA λf g F=>Law.bWg T F;have b9:=gOf l.prog w base 2 X G d74 bdA λf g F=>Law.bZX T (cQO X G z_min) a1.up F;have f1:=gOf l.prog w base 1 X G d75 bdA λf g F=>Law.bZM T F;have h1:=gOf l.prog w base 3 X G d76 bdA λf g F=>Law.bQu T (cQO X G z_sorted) b9.up f1.up F;have V:=gOf l.prog w base 2 X G d77 bdA λf g F=>Law.bQt T (cQO X G z_sorted) F;have i0:=gOf l.prog w base 2 X G d78 bdA λf g F=>Law.bWh a1.up F;have b5:=gOf l.prog w base 2 X G d79 bdA λf g F=>Law.bZJ a1.up F;have j0:=gOf l.prog w base 3 X G d80 bdA λf g F=>Law.bWf S.up V.up F;have h3:=gOf l.prog w base 3 X G d81 bdA λf g F=>Law.aKL T (cQO X G z_int) S.up F;have j7:=gOf l.prog w base 3 X G d82 bdA λf g F=>Law.bWp T S.up b5.up i0.up V.up F;have c9:=gOf l.prog w base 4 X G d83 bdA λf g F=>Law.bWn T (cQO X G z_list) (cQO X G z_tuple) S.up h1.up V.up F;have a9:=gOf l.prog w base 5 X G d84 bdA λf g F=>Law.bWb h3.up j0.up c9.up j7.up F;have k0:=gOf l.prog w base 2 X G d85 bdA λf g F=>Law.aKN T (cQO X G z_int) S.up F;have k9:=gOf l.prog w base 2 X G d86 bdA λf g F=>Law.bZD T (cQO X G z_int) S.up F;have k5:=gOf l.prog w base 3 X G d87 bdA λf g F=>Law.bQs T (cQO X G z_int) (cQO X G z_max) S.up k0.up k9.up F;have k4:=gOf l.prog w base 6 X G d88 bdA λf g F=>Law.bZU T a9.up k5.up F;have c3:=gOf l.prog w base 1 X G d89 bdA λf g F=>Alike.bZY TA F;have h5:=gOf l.prog w base 1 X G d90 bdA λf g F=>Alike.bWk TA F;have f2:=gOf l.prog w base 2 X G d91 bdA λf g F=>Alike.bZE TA c3.up F;have i7:=gOf l.prog w base 1 X G d92 bdA λf g F=>Alike.bV9 TA F;have i9:=gOf l.prog w base 1 X G d93 bdA λf g F=>Alike.aVC TA F;have e1:=gOf l.prog w base 6 X G d94 bdA λf g F=>Alike.bQo (n:=5) a9.up F;have j1:=gOf l.prog w base 1 X G d95 bdA λf g F=>Alike.aKQ TA F;have j5:=gOf l.prog w base 1 X G d96 bdA λf g F=>Alike.aKM F;have O:=aVq mg l.prog w base 4 cl.b d15 bdA λf g F=>Desk.bV9 (n:=2) (Rf:=(R,J)) TB cl j8.up F;have l0:=aVq mg l.prog w base 5 cl.b d17 bdA λf g F=>Desk.aVw (n:=4) (Rf:=(R,J)) TB cl O.up F;have c4:=aVq mg l.prog w base 5 cl.b d18 bdA λf g F=>Desk.aKR (n:=4) (Rf:=(R,J)) cl O.up a4.up F;have a2:=xOf l.prog w base 4 X G d26 bdA λf g F=>Desk.bZV (n:=2) (Rf:=(R,J)) c7.up F;have Z:=xOf l.prog w base 4 X G d27 bdA λf g F=>Desk.bZL (n:=2) (Rf:=(R,J)) e9.up F;have e6:=aVq mg l.prog w base 5 cl.b d28 bdA λf g F=>Desk.bZN (n:=4) (Rf:=(R,J)) cl a2.up a3.up F;have b7:=aVq mg l.prog w base 5 cl.b d29 bdA λf g F=>Desk.bZS (n:=4) (Rf:=(R,J)) cl O.up a2.up Z.up b6.up a3.up F
 have f3:=aVq mg l.prog w base 5 cl.b d30 bdA λf g F=>Desk.bQv (n:=3) (Rf:=(R,J)) cl O.up i5.up F;have e2:=aVq mg l.prog w base 5 cl.b d31 bdA λf g F=>Desk.aKP (n:=4) (Rf:=(R,J)) cl O.up a2.up F;have c8:=aVq mg l.prog w base 5 cl.b d32 bdA λf g F=>Desk.bWl (n:=3) (Rf:=(R,J)) TB cl O.up f8.up i2.up F;have e8:=aVq mg l.prog w base 5 cl.b d33 bdA λf g F=>Desk.bQp (n:=3) (Rf:=(R,J)) TB cl O.up b3.up f7.up k6.up F;have l2:=aVq mg l.prog w base 4 cl.b d34 bdA λf g F=>Desk.bWm (n:=2) (Rf:=(R,J)) cl g3.up h8.up F;have k3:=aVq mg l.prog w base 5 cl.b d35 bdA λf g F=>Desk.bQw (n:=4) (Rf:=(R,J)) cl O.up b3.up Z.up F;have a0:=aVq mg l.prog w base 5 cl.b d36 bdA λf g F=>Desk.aVB (n:=4) (Rf:=(R,J)) cl O.up g8.up F;have b1:=aVq mg l.prog w base 6 cl.b d37 bdA λf g F=>Desk.bKR (n:=5) (Rf:=(R,J)) TB cl a0.up F;have h0:=aVq mg l.prog w base 6 cl.b d38 bdA λf g F=>Desk.bZI (n:=4) (Rf:=(R,J)) cl a0.up Z.up j9.up h9.up h6.up h2.up F;have j3:=aVq mg l.prog w base 7 cl.b d39 bdA λf g F=>Desk.bWe (n:=6) (Rf:=(R,J)) cl O.up h0.up b1.up F;have j4:=dOf mg l.prog w base 6 d40 bdA λf g F=>Desk.aVx (n:=5) (Rf:=(R,J)) e6.up F;have j2:=dOf mg l.prog w base 6 d41 bdA λf g F=>Desk.aVz (n:=5) (Rf:=(R,J)) b7.up F;have e7:=dOf mg l.prog w base 8 d42 bdA λf g F=>Desk.aKH (n:=7) (Rf:=(R,J)) j3.up F;have c2:=dOf mg l.prog w base 6 d43 bdA λf g F=>Desk.aVy (n:=5) (Rf:=(R,J)) f3.up F;have e3:=dOf mg l.prog w base 6 d44 bdA λf g F=>Desk.aKF (n:=5) (Rf:=(R,J)) k3.up F;have k8:=dOf mg l.prog w base 6 d45 bdA λf g F=>Desk.aKJ (n:=5) (Rf:=(R,J)) e2.up F;have b4:=dOf mg l.prog w base 6 d46 bdA λf g F=>Desk.aKE (n:=5) (Rf:=(R,J)) c8.up F;have l1:=dOf mg l.prog w base 7 d47 bdA λf g F=>Desk.aKG (n:=6) (Rf:=(R,J)) b1.up F;have k1:=dOf mg l.prog w base 6 d48 bdA λf g F=>Desk.aKK (n:=5) (Rf:=(R,J)) e8.up F;have d0:=dOf mg l.prog w base 5 d49 bdA λf g F=>Desk.aKI (n:=4) (Rf:=(R,J)) l2.up F;have i1:=dOf mg l.prog w base 6 d50 bdA λf g F=>Desk.aJC (n:=5) (Rf:=(R,J)) c4.up F;have e5:=dOf mg l.prog w base 6 d51 bdA λf g F=>Desk.aZz (n:=5) (Rf:=(R,J)) a0.up F;have f4:=dOf mg l.prog w base 6 d52 bdA λf g F=>Desk.aZy (n:=5) (Rf:=(R,J)) l0.up F;have P:(([("in",i),("out",i),("reply",x),("hang",B),("loose",y),("date",I),("term",A),("copy",E),("file",D),("void",z),("shut",H),("state",u),("thread",q),("copies",r),("letters",k),("waiting",p),("overdue",j)]:List (Str×Nat)).map (·.1)).Nodup:=show(["in","out","reply","hang","loose","date","term","copy","file","void","shut","state","thread","copies","letters","waiting","overdue"]:List Str).Nodup from dk;have all:Desk.bKi l.prog w K mg base 8 (R,J) L CL (bJ6 [("in",i),("out",i),("reply",x),("hang",B),("loose",y),("date",I),("term",A),("copy",E),("file",D),("void",z),("shut",H),("state",u),("thread",q),("copies",r),("letters",k),("waiting",p),("overdue",j)]):=by
  intro e l4;cases e with
  |enter l9 d Y t=>
   obtain⟨g,a,b,c⟩:=j4.ex;rcases l4 with rfl|rfl
   ·exact⟨i,g,_,jY P 0 rfl,a.mono (by decide),⟨_,d,Y,t,rfl⟩,b,c⟩
   ·exact⟨i,g,_,jY P 1 rfl,a.mono (by decide),⟨_,d,Y,t,rfl⟩,b,c⟩
  |reply m d t=>obtain⟨g,a,b,c⟩:=j2.ex;exact⟨x,g,_,jY P 2 rfl,a.mono (by decide),⟨m,d,t,rfl⟩,b,c⟩
  |hang m o=>obtain⟨g,a,b,c⟩:=e7.ex;exact⟨B,g,_,jY P 3 rfl,a.mono (by decide),⟨m,o,rfl⟩,b,c⟩
  |loose m=>obtain⟨g,a,b,c⟩:=c2.ex;exact⟨y,g,_,jY P 4 rfl,a.mono (by decide),⟨m,rfl⟩,b,c⟩
  |date m d=>obtain⟨g,a,b,c⟩:=e3.ex;exact⟨I,g,_,jY P 5 rfl,a.mono (by decide),⟨m,d,rfl⟩,b,c⟩
  |term m t=>obtain⟨g,a,b,c⟩:=k8.ex;exact⟨A,g,_,jY P 6 rfl,a.mono (by decide),⟨m,t,rfl⟩,b,c⟩
  |copy m Y=>obtain⟨g,a,b,c⟩:=b4.ex;exact⟨E,g,_,jY P 7 rfl,a.mono (by decide),⟨m,Y,rfl⟩,b,c⟩
  |file m U=>obtain⟨g,a,b,c⟩:=l1.ex;exact⟨D,g,_,jY P 8 rfl,a.mono (by decide),⟨m,U,rfl⟩,b,c⟩
  |void m=>obtain⟨g,a,b,c⟩:=k1.ex;exact⟨z,g,_,jY P 9 rfl,a.mono (by decide),⟨m,rfl⟩,b,c⟩
  |shut d=>obtain⟨g,a,b,c⟩:=d0.ex;exact⟨H,g,_,jY P 10 rfl,a.mono (by decide),⟨d,rfl⟩,b,c⟩
  |state m=>obtain⟨g,a,b,c⟩:=i1.ex;exact⟨u,g,_,jY P 11 rfl,a.mono (by decide),⟨m,rfl⟩,b,c⟩
  |thread m=>obtain⟨g,a,b,c⟩:=e5.ex;exact⟨q,g,_,jY P 12 rfl,a.mono (by decide),⟨m,rfl⟩,b,c⟩
  |copies m=>obtain⟨g,a,b,c⟩:=f4.ex;exact⟨r,g,_,jY P 13 rfl,a.mono (by decide),⟨m,rfl⟩,b,c⟩
  |letters U=>obtain⟨g,a,b,c⟩:=c6.ex;exact⟨k,g,_,jY P 14 rfl,a.mono (by decide),⟨U,rfl⟩,b,c⟩
  |on a8 d=>
   cases a8
   ·obtain⟨g,a,b,c⟩:=k2.ex;exact⟨p,g,_,jY P 15 rfl,a.mono (by decide),⟨d,rfl⟩,b,c⟩
   ·obtain⟨g,a,b,c⟩:=i3.ex;exact⟨j,g,_,jY P 16 rfl,a.mono (by decide),⟨d,rfl⟩,b,c⟩
 have b2:=gOf l.prog w base 9 X G d56 bdA λf g F=>Desk.bQn (n:=8) (Rf:=(R,J)) (cZw X G nD) (bKb lD pD P) (cZw X G d60.ns) d60.cl all F;have i6:=gOf l.prog w base 10 X G d57 bdA λf g F=>Desk.aKD (n:=8) (Rf:=(R,J)) a6.up b2.up F;have c1:=gOf l.prog w base 10 X G d59 bdA λf g F=>Desk.aVA (n:=8) (Rf:=(R,J)) a6.up b2.up j6.up F;exact Alike.bKQ (n:=10) (Rf:=(R,J)) TA (cQO X G z_sum) k4.up h5.up e1.up j1.up i9.up i7.up j5.up V.up f2.up i6.up c1.up Q
end End4
namespace End4
open PySem L2 PyProof.Rows
def walk{l:PySem.W.OpenLaw}{q:cQT}{loose:List Str}{o:(Str->Option cQx)->Heap->Prop}{e:cQ2->Heap->Prop}{d:DefRec}{K:Params->cQz}{T:Nat}(r:l.most=some 63)(g:d.params.defaults= []) (y:∀ (w:cQ2)(h:Heap),e w h->(K w.params).In h) (b:∀ (w:cQ2)(h:Heap),e w h->h.get? T=some (cJe #[])) (F:∀ (w:cQ2)(mg:Str->Option cQx)(i:Nat)(h:Heap),(K w.params).In h->h.Ns cQ8 mg->mg d.name=some (.ref i)-> ∃ (j:cZz)(c:Nat),cVr (K w.params) c T=true/\(K w.params).lookup T=none/\(∀ (s:cQA)(u:cQx),BindsTo s j ⟨[u],[]⟩ [("_law_script",u)])/\∀base:Heap,(K w.params).In base->base.Ns cQ8 mg->cZF base c T->base.BuiltinsAt mg T->xL l.prog w (K w.params) mg base CX0 11 i j ["_law_script"] (Alike.bJE T (K w.params))): PySem.W.WalkO q loose o e l.row.toRowW d [] (λf v=>PySem.call f v):=
 L2.bJU (n:=63) (k:=11) (x:="_law_script") (CX:=CX0) (sp:=Alike.bJE) r (by decide) g ⟨rfl,by decide,by decide⟩ y b F (λ_ _ a m hl p t=>⟨a,m,rfl,t,hl,.inl p,λ_=>rfl⟩) λ_ _ _ _ z=>z
end End4
open PySem PySem.W PyProof.Rows
set_option maxRecDepth 100000 in
set_option maxHeartbeats 0 in
theorem PySem.Challenge.cw_letterdesk_k09_whole_files_holds : PySem.Challenge.rw_letterdesk_k09_whole_files.Holds := by
 w_on;o_law;k_head;(case hw=>w_witness2);k_fill;refine End4.walk (l:=PySem.Challenge.rw_letterdesk_k09_whole_files) rfl rfl (λw h Y=>PySem.W.km_in_of Y) (λw h Y=>PySem.W.km_tabs_of Y _ (cQM ..)) ?F;case F=>
  intro w c d h b G a;refine' End4.all_mk b G a ?d60 ?d61 ?d62 ?d63 ?d64 ?d65 ?d66 ?d67 ?d68 ?d69 ?d70 ?d71 ?d9 ?d24 ?cl ?d10 ?d11 ?d12 ?d13 ?d15 ?d16 ?d17 ?d18 ?d19 ?d20 ?d21 ?d22 ?d23 ?d25 ?d28 ?d29 ?d30 ?d31 ?d32 ?d33 ?d34 ?d35 ?d36 ?d37 ?d38 ?d39 ?d58 ?d1 ?d2 ?d3 ?d4 ?d5 ?d6 ?d7 ?d8 ?d14 ?d26 ?d27 ?d56 ?d57 ?d59 ?d72 ?d73 ?d74 ?d75 ?d76 ?d77 ?d78 ?d79 ?d80 ?d81 ?d82 ?d83 ?d84 ?d85 ?d86 ?d87 ?d88 ?d89 ?d90 ?d91 ?d92 ?d93 ?d94 ?d95 ?d96 ?d40 ?d41 ?d42 ?d43 ?d44 ?d45 ?d46 ?d47 ?d48 ?d49 ?d50 ?d51 ?d52 ?d53 ?d54 ?d55 ?dL ?aA ?lA ?cA1 ?kA ?nD ?lD ?pD ?z_len ?z_min ?z_sum ?z_sorted ?z_isinstance ?z_int ?z_str ?z_bool ?z_list ?z_tuple ?z_set ?z_range ?z_reversed ?z_max ?y_week ?y_open ?tb ?tn;(case d60=>apply End4.bWy<;> first|k_is|kernel_rfl);(case d61=>apply End4.qE<;> first|k_is|kernel_rfl);(case d62=>apply End4.qE<;> first|k_is|kernel_rfl);(case d63=>apply End4.qE<;> first|k_is|kernel_rfl);(case d64=>apply End4.qE<;> first|k_is|kernel_rfl);(case d65=>apply End4.qE<;> first|k_is|kernel_rfl);(case d66=>apply End4.qE<;> first|k_is|kernel_rfl);(case d67=>apply End4.qE<;> first|k_is|kernel_rfl);(case d68=>apply End4.qE<;> first|k_is|kernel_rfl);(case d69=>apply End4.qE<;> first|k_is|kernel_rfl);(case d70=>apply End4.qE<;> first|k_is|kernel_rfl);(case d71=>apply End4.qE<;> first|k_is|kernel_rfl);(case d9=>apply End4.bJ9<;> k_is);(case d24=>apply End4.bJ9<;> k_is);(case cl=>apply End4.bYH<;> k_is);(case d10=>apply End4.zK<;> k_is);(case d11=>apply End4.zK<;> k_is);(case d12=>apply End4.zK<;> k_is);(case d13=>apply End4.zK<;> k_is);(case d15=>apply End4.zK<;> k_is);(case d16=>apply End4.zK<;> k_is);(case d17=>apply End4.zK<;> k_is);(case d18=>apply End4.zK<;> k_is);(case d19=>apply End4.zK<;> k_is);(case d20=>apply End4.zK<;> k_is);(case d21=>apply End4.zK<;> k_is);(case d22=>apply End4.zK<;> k_is);(case d23=>apply End4.zK<;> k_is);(case d25=>apply End4.zK<;> k_is);(case d28=>apply End4.zK<;> k_is);(case d29=>apply End4.zK<;> k_is);(case d30=>apply End4.zK<;> k_is);(case d31=>apply End4.zK<;> k_is);(case d32=>apply End4.zK<;> k_is);(case d33=>apply End4.zK<;> k_is);(case d34=>apply End4.zK<;> k_is);(case d35=>apply End4.zK<;> k_is);(case d36=>apply End4.zK<;> k_is);(case d37=>apply End4.zK<;> k_is);(case d38=>apply End4.zK<;> k_is);(case d39=>apply End4.zK<;> k_is);(case d58=>apply End4.zK<;> k_is);(case d1=>apply End4.xT<;> k_is);(case d2=>apply End4.xT<;> k_is);(case d3=>apply End4.xT<;> k_is);(case d4=>apply End4.xT<;> k_is);(case d5=>apply End4.xT<;> k_is);(case d6=>apply End4.xT<;> k_is);(case d7=>apply End4.xT<;> k_is);(case d8=>apply End4.xT<;> k_is);(case d14=>apply End4.xT<;> k_is);(case d26=>apply End4.xT<;> k_is);(case d27=>apply End4.xT<;> k_is);(case d56=>apply End4.xT<;> k_is);(case d57=>apply End4.xT<;> k_is);(case d59=>apply End4.xT<;> k_is);(case d72=>apply End4.xT<;> k_is);(case d73=>apply End4.xT<;> k_is);(case d74=>apply End4.xT<;> k_is);(case d75=>apply End4.xT<;> k_is);(case d76=>apply End4.xT<;> k_is);(case d77=>apply End4.xT<;> k_is);(case d78=>apply End4.xT<;> k_is);(case d79=>apply End4.xT<;> k_is);(case d80=>apply End4.xT<;> k_is);(case d81=>apply End4.xT<;> k_is);(case d82=>apply End4.xT<;> k_is);(case d83=>apply End4.xT<;> k_is);(case d84=>apply End4.xT<;> k_is);(case d85=>apply End4.xT<;> k_is);(case d86=>apply End4.xT<;> k_is);(case d87=>apply End4.xT<;> k_is);(case d88=>apply End4.xT<;> k_is);(case d89=>apply End4.xT<;> k_is);(case d90=>apply End4.xT<;> k_is);(case d91=>apply End4.xT<;> k_is);(case d92=>apply End4.xT<;> k_is);(case d93=>apply End4.xT<;> k_is);(case d94=>apply End4.xT<;> k_is);(case d95=>apply End4.xT<;> k_is);(case d96=>apply End4.xT<;> k_is);(case d40=>apply End4.zB<;> k_is);(case d41=>apply End4.zB<;> k_is);(case d42=>apply End4.zB<;> k_is);(case d43=>apply End4.zB<;> k_is);(case d44=>apply End4.zB<;> k_is);(case d45=>apply End4.zB<;> k_is);(case d46=>apply End4.zB<;> k_is);(case d47=>apply End4.zB<;> k_is);(case d48=>apply End4.zB<;> k_is);(case d49=>apply End4.zB<;> k_is);(case d50=>apply End4.zB<;> k_is);(case d51=>apply End4.zB<;> k_is);(case d52=>apply End4.zB<;> k_is);(case d53=>apply End4.zB<;> k_is);(case d54=>apply End4.zB<;> k_is);(case d55=>apply End4.zB<;> k_is);(case dL=>apply End4.zB<;> k_is);(case aA=>k_is);(case lA=>k_is);(case cA1=>k_is);(case kA=>k_is);(case nD=>k_is);(case lD=>k_is);(case pD=>exact⟨⟨_,rfl⟩,rfl,rfl,⟨_,rfl⟩,rfl,rfl,⟨_,rfl⟩,rfl,rfl,⟨_,rfl⟩,rfl,rfl,⟨_,rfl⟩,rfl,rfl,⟨_,rfl⟩,rfl,rfl,⟨_,rfl⟩,rfl,rfl,⟨_,rfl⟩,rfl,rfl,⟨_,rfl⟩,rfl,rfl,⟨_,rfl⟩,rfl,rfl,⟨_,rfl⟩,rfl,rfl,⟨_,rfl⟩,rfl,rfl,⟨_,rfl⟩,rfl,rfl,⟨_,rfl⟩,rfl,rfl,⟨_,rfl⟩,rfl,rfl,⟨_,rfl⟩,rfl,rfl,⟨_,rfl⟩,rfl,rfl,cXQ⟩);(case z_len=>k_is);(case z_min=>k_is);(case z_sum=>k_is);(case z_sorted=>k_is);(case z_isinstance=>k_is);(case z_int=>k_is);(case z_str=>k_is);(case z_bool=>k_is);(case z_list=>k_is);(case z_tuple=>k_is);(case z_set=>k_is);(case z_range=>k_is);(case z_reversed=>k_is);(case z_max=>k_is);(case y_week=>k_is);(case y_open=>k_is);(case tb=>kernel_rfl);(case tn=>kernel_rfl)
