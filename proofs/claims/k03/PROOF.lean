import PyProof.Rows.All
import Wide.All
import OpenK.AllK
import Wide.FinOn
import Lean
import PyProof.EqAt
import PyProof.EqKinds
import PyProof.TupleCall
import PyProof.SetScanFacts
import PyProof.SetKind
import PyProof.CompMap
import PyProof.DictStraight
import PyProof.CollectWalk
import PyProof.Walks
import PyProof.FactsBase
import PyProof.FactsAll.set
import PyProof.MakeMany
import PyProof.Rows.SortWalk
import PyProof.SetNew
import PyProof.Rows.SetFrom
import PyProof.LongRange
import PyProof.NeKinds
import KE.KSortTup
import KE.KLam
import PyProof.ListRange
import KE.KNestM
import PySem.Challenge.RW_letterdesk_k03_thread
section
-- CHANGE: your row's module here, as the last of these rows
set_option Elab.async false
set_option linter.all false
set_option maxRecDepth 100000
/-! THE HAND LAYER, for ints, bools, texts, own classes, LISTS and tuples (index, slices, in, append, pop ..), calls, loops. Paste it whole ahead of your own text; what your proof does not reach may be deleted. -/
namespace L2
open PySem PySem.Spec PyProof.Rows

/-- a key: an int or a str -/
abbrev Key := Sum Int Str
def keyIs : Key → Value → Bool
  | .inl k, v => Value.isInt k v
  | .inr x, v => Value.isStrOf x v
def keyH (w : World) : Key → Int
  | .inl k => hashInt k
  | .inr x => hashStr w x
theorem keyIs_shape : ∀ {k : Key} {v : Value}, keyIs k v = true → (∃ i t, k = Sum.inl i ∧ v = Value.int i t) ∨ (∃ x t, k = Sum.inr x ∧ v = Value.str x t)
  | .inl i, v, h => by
    obtain ⟨t, e⟩ := Value.isInt_shape (k := i) (v := v) h
    exact .inl ⟨i, t, rfl, e⟩
  | .inr x, v, h => by
    obtain ⟨t, e⟩ := Value.isStrOf_shape (x := x) (v := v) h
    exact .inr ⟨x, t, rfl, e⟩
theorem keyIs_int (i : Int) (t : Tok) : keyIs (.inl i) (.int i t) = true := by simp [keyIs, Value.isInt]
theorem keyIs_str (x : Str) (t : Tok) : keyIs (.inr x) (.str x t) = true := by simp [keyIs, Value.isStrOf]
theorem key_ll (a b : Int) : decide ((Sum.inl a : Key) = Sum.inl b) = (a == b) := by
  by_cases e : a = b
  · subst e; simp
  · have h : ¬ (Sum.inl a : Key) = Sum.inl b := fun q => e (Sum.inl.inj q)
    rw [decide_eq_false h]
    exact (beq_eq_false_iff_ne.mpr e).symm
theorem key_rr (a b : Str) : decide ((Sum.inr a : Key) = Sum.inr b) = decide (a = b) := by
  by_cases e : a = b
  · subst e; simp
  · have h : ¬ (Sum.inr a : Key) = Sum.inr b := fun q => e (Sum.inr.inj q)
    rw [decide_eq_false h, decide_eq_false e]
theorem key_lr (a : Int) (b : Str) : decide ((Sum.inl a : Key) = Sum.inr b) = false := decide_eq_false (fun q => nomatch q)
theorem key_rl (a : Str) (b : Int) : decide ((Sum.inr a : Key) = Sum.inl b) = false := decide_eq_false (fun q => nomatch q)

def mixKind (prog : Program) (w : World) : PySem.KeyKind prog w Key where
  is := keyIs
  hash := keyH w
  inj := fun v a b ha hb => by
    rcases keyIs_shape ha with ⟨i, t, rfl, rfl⟩ | ⟨x, t, rfl, rfl⟩
    · rcases keyIs_shape hb with ⟨j, u, rfl, e⟩ | ⟨y, u, rfl, e⟩
      · injection e with e1 _; rw [e1]
      · exact nomatch e
    · rcases keyIs_shape hb with ⟨j, u, rfl, e⟩ | ⟨y, u, rfl, e⟩
      · exact nomatch e
      · injection e with e1 _; rw [e1]
  byValue := fun k v h => by
    rcases keyIs_shape h with ⟨i, t, rfl, rfl⟩ | ⟨x, t, rfl, rfl⟩ <;> rfl
  pyHash := fun hv h => by
    rcases keyIs_shape hv with ⟨i, t, rfl, rfl⟩ | ⟨x, t, rfl, rfl⟩
    · exact wpAny_pyHash_int h
    · exact wpAny_pyHash_str h
  eqBool := fun hu hv h => by
    rcases keyIs_shape hu with ⟨i, t, rfl, rfl⟩ | ⟨x, t, rfl, rfl⟩
    · rcases keyIs_shape hv with ⟨j, u, rfl, rfl⟩ | ⟨y, u, rfl, rfl⟩
      · rw [key_ll] at h; exact wpAny_eqBool_int h
      · rw [key_lr] at h; exact SeqAt.EqAt.int_str i t y u _ _ _ _ h
    · rcases keyIs_shape hv with ⟨j, u, rfl, rfl⟩ | ⟨y, u, rfl, rfl⟩
      · rw [key_rl] at h; exact SeqAt.EqAt.str_int x t j u _ _ _ _ h
      · rw [key_rr] at h; exact wpAny_eqBool_str h
  «strs» := fun k x t v h => by
    rcases keyIs_shape h with ⟨i, u, rfl, e⟩ | ⟨y, u, rfl, e⟩
    · exact nomatch e
    · injection e with e1 _
      subst e1
      cases v <;> rfl

theorem mixKind_is (prog : Program) (w : World) (k : Key) (v : Value) : (mixKind prog w).is k v = keyIs k v := rfl
theorem mixKind_int (prog : Program) (w : World) (i : Int) (t : Tok) : (mixKind prog w).is (.inl i) (.int i t) = true := keyIs_int i t
theorem mixKind_str (prog : Program) (w : World) (x : Str) (t : Tok) : (mixKind prog w).is (.inr x) (.str x t) = true := keyIs_str x t
end L2

namespace L2
open PySem PySem.Spec PyProof.Rows

/-- a value, without the heap -/
inductive V where
  | non | bl (b : Bool) | int (i : Int) | str (x : Str) | byt (b : Array UInt8) | flt (b : UInt64) | ref (a : Addr) | ty (n : String)
  deriving DecidableEq

def RelV : V → Value → Prop
  | .non, u => u = Value.none
  | .bl b, u => u = Value.bool b
  | .int i, u => ∃ t, u = Value.int i t
  | .str x, u => ∃ t, u = Value.str x t
  | .byt b, u => ∃ t, u = Value.bytes b t
  | .flt b, u => ∃ t, u = Value.float b t
  | .ref a, u => u = Value.ref a
  | .ty n, u => u = Value.type n

abbrev Vals : List V → List Value → Prop := Paired RelV
theorem Vals.length {xs : List V} {us : List Value} (r : Vals xs us) : xs.length = us.length := Paired.length r
theorem Vals.get : ∀ {xs : List V} {us : List Value} {i : Nat} {x : V}, Vals xs us → xs[i]? = some x → ∃ u, us[i]? = some u ∧ RelV x u
  | _, _, _, _, .nil, e => by simp at e
  | _, _, 0, _, .cons r _, e => by simp at e; subst e; exact ⟨_, rfl, r⟩
  | _, _, i + 1, x, .cons _ t, e => by
    obtain ⟨u, h1, h2⟩ := Vals.get (i := i) (x := x) t (by simpa using e)
    exact ⟨u, by simpa using h1, h2⟩
theorem Vals.set {x : V} {u : Value} (r : RelV x u) : ∀ {xs : List V} {us : List Value} (i : Nat), Vals xs us → Vals (xs.set i x) (us.set i u)
  | _, _, _, .nil => .nil
  | _, _, 0, .cons _ t => .cons r t
  | _, _, i + 1, .cons q t => .cons q (Vals.set r i t)
theorem Vals.append : ∀ {xs ys : List V} {us ws : List Value}, Vals xs us → Vals ys ws → Vals (xs ++ ys) (us ++ ws)
  | _, _, _, _, .nil, s => s
  | _, _, _, _, .cons r t, s => .cons r (Vals.append t s)
theorem Vals.take : ∀ {xs : List V} {us : List Value} (n : Nat), Vals xs us → Vals (xs.take n) (us.take n)
  | _, _, 0, _ => .nil
  | _, _, _ + 1, .nil => .nil
  | _, _, n + 1, .cons r t => .cons r (Vals.take n t)
theorem Vals.drop : ∀ {xs : List V} {us : List Value} (n : Nat), Vals xs us → Vals (xs.drop n) (us.drop n)
  | _, _, 0, r => r
  | _, _, _ + 1, .nil => .nil
  | _, _, n + 1, .cons _ t => Vals.drop n t
theorem Vals.none_of : ∀ {xs : List V} {us : List Value} {i : Nat}, Vals xs us → xs[i]? = none → us[i]? = none := fun {xs us i} r e => by
  have h1 := r.length
  have h2 : xs.length ≤ i := List.getElem?_eq_none_iff.mp e
  exact List.getElem?_eq_none_iff.mpr (by omega)

def RelO : Option V → Option Value → Prop
  | some v, some u => RelV v u
  | none, none => True
  | _, _ => False
def KV {κ : Type} : List (κ × V) → List (κ × Value) → Prop := Paired fun (p : κ × V) (q : κ × Value) => p.1 = q.1 ∧ RelV p.2 q.2

/-- a key of a dict (00_mix): an int or a text -/
def kV : Key → V
  | .inl i => .int i
  | .inr x => .str x

/-- what stands at a tracked address -/
inductive HO where
  /-- a list -/
  | lst (xs : List V)
  /-- a tuple (never changes) -/
  | tup (xs : List V)
  /-- a dict whose keys are ints and texts; one whose keys are tuples of ints and texts (the empty one is both) -/
  | dK (kvs : List (Key × V)) | dT (kvs : List (List Key × V))
  /-- a set of ints: its members, its size -/
  | set (S : Int → Bool) (n : Nat)
  /-- an instance of the class at C, its dict at dx, its attributes -/
  | ins (C dx : Addr) (fs : List (Str × V))
  /-- the dict of the instance at x -/
  | own (x : Addr)
  /-- the dict of an exception -/
  | xd (fs : List (Str × V))
  /-- a bound method, f of x -/
  | met (f x : Addr)
  /-- a range object lo, lo + 1, .. below hi -/
  | rng (lo hi : Int)
  /-- a thing that is known to the object (the script; a dict while a loop walks it): read, never written while it is so -/
  | frz (o : Obj) (u : HO)
  /-- a code object's table -/
  | tbl (ps : Array Value)
  /-- any other thing, by what is true of its one object (a def of one's own: SetO a S n := HO.ext fun h => ..) -/
  | ext (φ : Heap → Prop)

abbrev Hp := Addr → Option HO
def upd (H : Hp) (a : Addr) (o : HO) : Hp := fun b => if b = a then some o else H b
theorem upd_same {H : Hp} {a : Addr} {o : HO} : upd H a o a = some o := by unfold upd; rw [if_pos rfl]
theorem upd_ne {H : Hp} {a b : Addr} {o : HO} (h : b ≠ a) : upd H a o b = H b := by unfold upd; rw [if_neg h]
theorem upd_upd {H : Hp} {a : Addr} {o u : HO} : upd (upd H a o) a u = upd H a u := by
  funext b; unfold upd; split <;> rfl
/-- two objects of different content stand apart -/
theorem ne_of {H : Hp} {a b : Addr} {o u : HO} (h : H a = some o) (h' : H b = some u) (d : o ≠ u) : a ≠ b := by
  intro e; subst e; rw [h] at h'; exact d (Option.some.inj h')
theorem ne_of_none {H : Hp} {a b : Addr} {o : HO} (h : H a = some o) (h' : H b = none) : a ≠ b := by
  intro e; subst e; rw [h] at h'; cases h'

section
variable (P : Program) (w : World)
def ObjOk (H : Hp) (h : Heap) (a : Addr) : HO → Prop
  | .lst xs => xs.length ≤ sizeLine ∧ ∃ (its : List Value) (n : Nat), Vals xs its ∧ h.get? a = some { cls := .type "list", data := .seq its.toArray n }
  | .tup xs => xs.length ≤ sizeLine ∧ ∃ its : List Value, Vals xs its ∧ IsTup h a its.toArray
  | .dK kvs => kvs.length ≤ sizeLine ∧ (a == sysModules) = false ∧ ∃ vs, KV kvs vs ∧ h.DictOf (mixKind P w) a vs
  | .dT kvs => kvs.length ≤ sizeLine ∧ (a == sysModules) = false ∧ ∃ xs : List (List Key × Addr × Value),
      Paired (fun (p : List Key × V) (q : List Key × Addr × Value) => p.1 = q.1 ∧ H q.2.1 = some (.tup (p.1.map kV)) ∧ RelV p.2 q.2.2) kvs xs ∧
      ∃ o es ep, h.get? a = some o ∧ o.ExactDict ∧ o.data = .dict es ep ∧ es.toList = xs.map (entryOfKey (tupleKind (mixKind P w))) ∧ (xs.map (·.1)).Nodup
  | .set S n => h.SetOf (intKind P w) a S n
  | .ins C dx fs => H dx = some (.own a) ∧ fs.length ≤ 1000 ∧ dx ≠ a ∧ h.get? a = some (PySem.W.instObj C dx) ∧
      ∃ mA, h.Ns1 dx mA ∧ (∀ f, RelO (fs.lookup f) (mA f)) ∧ PySem.Within mA (fs.map (·.1))
  | .own _ => ∃ o, h.get? a = some o
  | .xd fs => ∃ mA, h.Ns1 a mA ∧ ∀ f, RelO (fs.lookup f) (mA f)
  | .rng lo hi => ∃ t u v, h.get? a = some { cls := .type "range", data := .fields #[.int lo t, .int hi u, .int 1 v] }
  | .frz o u => h.get? a = some o ∧ ObjOk H h a u
  | .tbl ps => h.get? a = some { cls := .none, data := .fields ps }
  | .met f x => h.get? a = some (PySem.W.methodObj (.ref f) (.ref x))
  | .ext φ => φ h ∧ (∃ o, h.get? a = some o) ∧ ∀ h1 h2 : Heap, φ h1 → (∀ o, h1.get? a = some o → h2.get? a = some o) → φ h2
/-- the abstract heap is held -/
def HOk (H : Hp) (h : Heap) : Prop := ∀ a o, H a = some o → ObjOk P w H h a o
end

section
variable {P : Program} {w : World} {H H' : Hp} {h h' : Heap} {a : Addr} {o : HO}
theorem ObjOk.lt (x : ObjOk P w H h a o) : a < h.objs.size := by
  cases o with
  | lst xs => obtain ⟨_, _, _, _, e⟩ := x; exact Heap.lt_size e
  | tup xs => obtain ⟨_, _, _, p⟩ := x; exact p.lt
  | dK kvs => obtain ⟨_, _, _, _, o, _, _, e, _⟩ := x; exact Heap.lt_size e
  | dT kvs => obtain ⟨_, _, _, _, o, _, _, e, _⟩ := x; exact Heap.lt_size e
  | set S n => obtain ⟨o, _, _, _, e, _⟩ := x; exact Heap.lt_size e
  | ins C dx fs => obtain ⟨_, _, _, e, _⟩ := x; exact Heap.lt_size e
  | own y => obtain ⟨_, e⟩ := x; exact Heap.lt_size e
  | xd fs => obtain ⟨_, ⟨_, _, _, e, _⟩, _⟩ := x; exact Heap.lt_size e
  | rng lo hi => obtain ⟨_, _, _, e⟩ := x; exact Heap.lt_size e
  | frz ob u => obtain ⟨e, _⟩ := x; exact Heap.lt_size e
  | tbl ps => exact Heap.lt_size (show h.get? a = some _ from x)
  | met f y => exact Heap.lt_size (show h.get? a = some _ from x)
  | ext φ => obtain ⟨_, ⟨_, e⟩, _⟩ := x; exact Heap.lt_size e
theorem Paired.mapP {α β : Type} {F G : α → β → Prop} : ∀ {l₁ : List α} {l₂ : List β}, Paired F l₁ l₂ → (∀ a b, F a b → G a b) → Paired G l₁ l₂
  | _, _, .nil, _ => .nil
  | _, _, .cons r t, f => .cons (f _ _ r) (Paired.mapP t f)
theorem Paired.imp' {α β : Type} {F G : α → β → Prop} (f : ∀ a b, F a b → G a b) {l₁ : List α} {l₂ : List β} (r : Paired F l₁ l₂) : Paired G l₁ l₂ := Paired.mapP r f
/-- what an object's description leans on: its own object, its own dict, the tuples -/
theorem ObjOk.stay (x : ObjOk P w H h a o) (k : ∀ b u, (b = a ∨ H b = some (.own a)) → h.get? b = some u → h'.get? b = some u)
    (ho : ∀ b, H b = some (.own a) → H' b = some (.own a)) (ht : ∀ b xs, H b = some (.tup xs) → H' b = some (.tup xs)) : ObjOk P w H' h' a o := by
  induction o with
  | lst xs => obtain ⟨z, its, n, r, e⟩ := x; exact ⟨z, its, n, r, k _ _ (.inl rfl) e⟩
  | tup xs => obtain ⟨z, its, r, ob, e, c⟩ := x; exact ⟨z, its, r, ob, k _ _ (.inl rfl) e, c⟩
  | dK kvs => obtain ⟨z, y, vs, r, ob, es, ep, e, c⟩ := x; exact ⟨z, y, vs, r, ob, es, ep, k _ _ (.inl rfl) e, c⟩
  | dT kvs =>
    obtain ⟨z, y, xs, r, ob, es, ep, e, c⟩ := x
    exact ⟨z, y, xs, Paired.mapP r fun p q z => ⟨z.1, ht _ _ z.2.1, z.2.2⟩, ob, es, ep, k _ _ (.inl rfl) e, c⟩
  | set S n => obtain ⟨ob, es, ep, t, e, c⟩ := x; exact ⟨ob, es, ep, t, k _ _ (.inl rfl) e, c⟩
  | ins C dx fs =>
    obtain ⟨d, z, ne, e, mA, ⟨od, es, ep, e2, c⟩, r⟩ := x
    exact ⟨ho _ d, z, ne, k _ _ (.inl rfl) e, mA, ⟨od, es, ep, k _ _ (.inr d) e2, c⟩, r⟩
  | own y => obtain ⟨ob, e⟩ := x; exact ⟨ob, k _ _ (.inl rfl) e⟩
  | xd fs => obtain ⟨mA, ⟨od, es, ep, e, c⟩, r⟩ := x; exact ⟨mA, ⟨od, es, ep, k _ _ (.inl rfl) e, c⟩, r⟩
  | rng lo hi => obtain ⟨t, u, v, e⟩ := x; exact ⟨t, u, v, k _ _ (.inl rfl) e⟩
  | frz ob u ih => obtain ⟨e, q⟩ := x; exact ⟨k _ _ (.inl rfl) e, ih q⟩
  | tbl ps =>
    have e : h.get? a = some { cls := .none, data := .fields ps } := x
    show h'.get? a = some { cls := .none, data := .fields ps }
    exact k a _ (.inl rfl) e
  | met f y =>
    have e : h.get? a = some (PySem.W.methodObj (.ref f) (.ref y)) := x
    show h'.get? a = some (PySem.W.methodObj (.ref f) (.ref y))
    exact k a _ (.inl rfl) e
  | ext φ => obtain ⟨p, ⟨o, e⟩, st⟩ := x; exact ⟨st _ _ p fun o q => k _ _ (.inl rfl) q, ⟨o, k _ _ (.inl rfl) e⟩, st⟩
theorem HOk.lt (x : HOk P w H h) (e : H a = some o) : a < h.objs.size := (x a o e).lt
theorem HOk.fresh (x : HOk P w H h) (e : h.objs.size ≤ a) : H a = none := by
  cases q : H a with
  | none => rfl
  | some u => exact absurd (Nat.lt_of_lt_of_le (x.lt q) e) (Nat.lt_irrefl _)
/-- every object of the heap is kept -/
theorem HOk.kept (x : HOk P w H h) (k : ∀ b u, h.get? b = some u → h'.get? b = some u) : HOk P w H h' := fun a o e =>
  (x a o e).stay (fun b u _ q => k b u q) (fun _ q => q) fun _ _ q => q
/-- a new object is laid and tracked -/
theorem HOk.laid (x : HOk P w H h) (k : ∀ b u, h.get? b = some u → h'.get? b = some u) (hp : h.objs.size ≤ a) (new : ObjOk P w (upd H a o) h' a o) : HOk P w (upd H a o) h' := fun b u e => by
  have hn := x.fresh hp
  by_cases hb : b = a
  · subst hb; rw [upd_same] at e; cases e; exact new
  · rw [upd_ne hb] at e
    exact (x b u e).stay (fun c v _ q => k c v q) (fun c q => by rw [upd_ne (ne_of_none q hn)]; exact q) fun c xs q => by rw [upd_ne (ne_of_none q hn)]; exact q
end

/-- what may be read as u: it is u, or a known u -/
def Rd (H : Hp) (a : Addr) (u : HO) : Prop := H a = some u ∨ ∃ o, H a = some (.frz o u)
theorem Rd.of {H : Hp} {a : Addr} {u : HO} (h : H a = some u) : Rd H a u := .inl h
theorem Rd.ok {P : Program} {w : World} {H : Hp} {h : Heap} {a : Addr} {u : HO} (r : Rd H a u) (x : HOk P w H h) : ObjOk P w H h a u := by
  rcases r with r | ⟨o, r⟩
  · exact x a u r
  · obtain ⟨_, q⟩ := x a _ r
    exact q
/-- what may be written -/
def Mut : Option HO → Prop
  | some (.lst _) => True
  | some (.dK _) => True
  | some (.dT _) => True
  | some (.set _ _) => True
  | some (.ins _ _ _) => True
  | some (.ext _) => True
  | _ => False
section
variable {P : Program} {w : World} {H : Hp} {h h' : Heap} {x e : Addr} {o' : HO}
/-- the object at e is changed: x itself, or the dict of the instance x -/
theorem HOk.write (ok : HOk P w H h) (mu : Mut (H x)) (he : e = x ∨ H e = some (.own x)) (k : ∀ b u, b ≠ e → h.get? b = some u → h'.get? b = some u) (heo : ∃ u, h'.get? e = some u)
    (new : ObjOk P w (upd H x o') h' x o') : HOk P w (upd H x o') h' := fun b u q => by
  have nown : ∀ c y, H c = some (.own y) → c ≠ x := fun c y r z => by subst z; rw [r] at mu; exact mu
  have ntup : ∀ c xs, H c = some (.tup xs) → c ≠ x := fun c xs r z => by subst z; rw [r] at mu; exact mu
  by_cases hb : b = x
  · subst hb; rw [upd_same] at q; cases q; exact new
  · rw [upd_ne hb] at q
    by_cases hbe : b = e
    · have q' : H b = some (.own x) := by
        rcases he with z | z
        · exact absurd (hbe.trans z) hb
        · rw [hbe]; exact z
      rw [q] at q'; cases q'
      obtain ⟨v, hv⟩ := heo
      exact ⟨v, by rw [hbe]; exact hv⟩
    · refine (ok b u q).stay (fun c v hc r => k c v ?_ r) (fun c r => by rw [upd_ne (nown c b r)]; exact r) fun c xs r => by rw [upd_ne (ntup c xs r)]; exact r
      rcases hc with rfl | hc
      · exact hbe
      · rintro rfl
        rcases he with z | z
        · exact nown c b hc z
        · rw [hc] at z; cases z; exact hb rfl
end

/-! ### kept unless tracked; of the frames at fs (the callers') the slots may change (an exception that passes writes there); of the records at ex (iterators) nothing is said -/
structure Un (fs ex : List Addr) (H H' : Hp) (h h' : Heap) : Prop where
  keep : ∀ b o, h.get? b = some o → H b = none → b ∉ fs → b ∉ ex → h'.get? b = some o
  slot : ∀ b o, h.get? b = some o → H b = none → b ∈ fs → b ∉ ex → ∃ sl, h'.get? b = some { o with slots := sl }
  free : ∀ b o, h.get? b = some o → H b = none → b ∉ ex → H' b = none
  there : ∀ b o, h.get? b = some o → b ∉ ex → ∃ o', h'.get? b = some o'
  tups : ∀ b xs, H b = some (.tup xs) → H' b = some (.tup xs)
  frzs : ∀ b o u, H b = some (.frz o u) → H' b = some (.frz o u)
  tbls : ∀ b ps, H b = some (.tbl ps) → ∃ more, H' b = some (.tbl (ps ++ more))
section
variable {fs fs' ex ex' : List Addr} {H H1 H2 : Hp} {h h1 h2 h' : Heap} {a x e : Addr} {o : HO}
theorem Un.any (u : Un fs ex H H1 h h1) {b : Addr} {ob : Obj} (q : h.get? b = some ob) (n : H b = none) (hx : b ∉ ex) : ∃ sl, h1.get? b = some { ob with slots := sl } := by
  by_cases hb : b ∈ fs
  · exact u.slot b ob q n hb hx
  · exact ⟨ob.slots, u.keep b ob q n hb hx⟩
theorem Un.trans (a : Un fs ex H H1 h h1) (b : Un fs ex H1 H2 h1 h2) : Un fs ex H H2 h h2 where
  keep := fun c ob q n hc hx => b.keep c ob (a.keep c ob q n hc hx) (a.free c ob q n hx) hc hx
  slot := fun c ob q n hc hx => by
    obtain ⟨sl, e1⟩ := a.slot c ob q n hc hx
    obtain ⟨sl', e2⟩ := b.slot c _ e1 (a.free c ob q n hx) hc hx
    exact ⟨sl', e2⟩
  free := fun c ob q n hx => by
    obtain ⟨o', e1⟩ := a.there c ob q hx
    exact b.free c o' e1 (a.free c ob q n hx) hx
  there := fun c ob q hx => by
    obtain ⟨o', e1⟩ := a.there c ob q hx
    exact b.there c o' e1 hx
  tups := fun c xs q => b.tups c xs (a.tups c xs q)
  frzs := fun c ob xs q => b.frzs c ob xs (a.frzs c ob xs q)
  tbls := fun c ps q => by
    obtain ⟨m1, e1⟩ := a.tbls c ps q
    obtain ⟨m2, e2⟩ := b.tbls c _ e1
    exact ⟨m1 ++ m2, by rw [e2, Array.append_assoc]⟩
theorem Un.kept (k : ∀ b u, h.get? b = some u → h'.get? b = some u) : Un fs ex H H h h' :=
  ⟨fun b ob q _ _ _ => k b ob q, fun b ob q _ _ _ => ⟨ob.slots, k b ob q⟩, fun _ _ _ n _ => n, fun b ob q _ => ⟨ob, k b ob q⟩, fun _ _ q => q, fun _ _ _ q => q, fun _ ps q => ⟨#[], by rw [q]; simp⟩⟩
theorem Un.refl : Un fs ex H H h h := Un.kept fun _ _ q => q
theorem Un.laid (k : ∀ b u, h.get? b = some u → h'.get? b = some u) (hp : h.objs.size ≤ a) (hn : H a = none) : Un fs ex H (upd H a o) h h' where
  keep := fun b u q _ _ _ => k b u q
  slot := fun b u q _ _ _ => ⟨u.slots, k b u q⟩
  free := fun b u q n _ => by rw [upd_ne (Nat.ne_of_lt (Nat.lt_of_lt_of_le (Heap.lt_size q) hp))]; exact n
  there := fun b u q _ => ⟨u, k b u q⟩
  tups := fun b xs q => by rw [upd_ne (ne_of_none q hn)]; exact q
  frzs := fun b u xs q => by rw [upd_ne (ne_of_none q hn)]; exact q
  tbls := fun b ps q => ⟨#[], by rw [upd_ne (ne_of_none q hn), q]; simp⟩
theorem Un.write (mu : Mut (H x)) (he : e = x ∨ H e = some (.own x)) (k : ∀ b u, b ≠ e → h.get? b = some u → h'.get? b = some u) (heo : ∃ u, h'.get? e = some u) : Un fs ex H (upd H x o) h h' := by
  have hx : ∀ b, H b = none → b ≠ x := fun b n z => by subst z; rw [n] at mu; exact mu
  have hb : ∀ b, H b = none → b ≠ e := fun b n z => by
    subst z
    rcases he with r | r
    · exact hx b n r
    · rw [n] at r; cases r
  have hm : ∀ b u, H b = some u → ¬ Mut (some u) → b ≠ x := fun b u q nm z => by subst z; rw [q] at mu; exact nm mu
  refine ⟨fun b u q n _ _ => k b u (hb b n) q, fun b u q n _ _ => ⟨u.slots, k b u (hb b n) q⟩, fun b u q n _ => by rw [upd_ne (hx b n)]; exact n, fun b u q _ => ?_,
    fun b xs q => by rw [upd_ne (hm b _ q fun z => z)]; exact q, fun b u xs q => by rw [upd_ne (hm b _ q fun z => z)]; exact q, fun b ps q => ⟨#[], by rw [upd_ne (hm b _ q fun z => z), q]; simp⟩⟩
  by_cases hbe : b = e
  · subst hbe; exact heo
  · exact ⟨u, k b u hbe q⟩
theorem Un.mono (u : Un fs ex H H1 h h1) (hs : ∀ b ∈ fs, b ∈ fs') (hx : ∀ b ∈ ex, b ∈ ex') : Un fs' ex' H H1 h h1 :=
  ⟨fun b ob q n hb he => u.keep b ob q n (fun z => hb (hs b z)) fun z => he (hx b z), fun _ _ q n _ he => u.any q n fun z => he (hx _ z), fun b ob q n he => u.free b ob q n fun z => he (hx b z), fun b ob q he => u.there b ob q fun z => he (hx b z), u.tups, u.frzs, u.tbls⟩
end

/-! ### the heap without what is tracked -/
def trk (h : Heap) (H : Hp) : List Addr := (List.range h.objs.size).filter fun a => (H a).isSome
def hidT (h : Heap) (H : Hp) : Heap := PySem.W.hideAll h (trk h H)
theorem hidT_size (h : Heap) (H : Hp) : (hidT h H).objs.size = h.objs.size := PySem.W.hideAll_size _ _
theorem hidT_get {h : Heap} {H : Hp} {b : Addr} {o : Obj} (e : h.get? b = some o) (n : H b = none) : (hidT h H).get? b = some o :=
  PySem.W.hideAll_get _ e fun hm => by
    have q : (H b).isSome = true := (List.mem_filter.mp hm).2
    rw [n] at q; simp at q
theorem of_hidT {h : Heap} {H : Hp} {b : Addr} {o : Obj} (e : (hidT h H).get? b = some o) : h.get? b = some o ∧ H b = none := by
  have e' : h.get? b = some o := PySem.W.of_hideAll (trk h H) e
  refine ⟨e', ?_⟩
  cases q : H b with
  | none => rfl
  | some x =>
    have hm : b ∈ trk h H := List.mem_filter.mpr ⟨List.mem_range.mpr (Heap.lt_size e'), by simp [q]⟩
    have z : (hidT h H).get? b = none := PySem.W.hideAll_none (trk h H) hm
    rw [z] at e; cases e

/-! ### OpenK's ledger, filled with every new object but one -/
def allNews (g h : Heap) (L : Addr) : List (Addr × Obj) := (List.range h.objs.size).filterMap fun a => if a = L ∨ (g.get? a).isSome = true then none else (h.get? a).map fun o => (a, o)
theorem mem_allNews {g h : Heap} {L a : Addr} {o : Obj} (h1 : a ≠ L) (h2 : g.get? a = none) (h3 : h.get? a = some o) : (a, o) ∈ allNews g h L :=
  List.mem_filterMap.mpr ⟨a, List.mem_range.mpr (Heap.lt_size h3), by simp [h1, h2, h3]⟩
theorem of_mem_allNews {g h : Heap} {L : Addr} {p : Addr × Obj} (hp : p ∈ allNews g h L) : p.1 ≠ L ∧ g.get? p.1 = none ∧ h.get? p.1 = some p.2 := by
  obtain ⟨b, _, e⟩ := List.mem_filterMap.mp hp
  split at e
  · cases e
  · rename_i hn
    cases q : h.get? b with
    | none => rw [q] at e; simp at e
    | some u =>
      rw [q] at e
      simp only [Option.map_some, Option.some.injEq] at e
      subst e
      refine ⟨fun z => hn (.inl z), ?_, q⟩
      show g.get? b = none
      cases r : g.get? b with
      | none => rfl
      | some v => exact (hn (.inr (by simp [r]))).elim
def rest (g h : Heap) (L d : Addr) : List (Addr × Obj) := (allNews g h L).filter fun p => decide (p.1 ≠ d)
theorem rest_ne {g h : Heap} {L d : Addr} : ∀ p ∈ rest g h L d, p.1 ≠ d := fun p hp => of_decide_eq_true (List.mem_filter.mp hp).2
theorem mem_rest {g h : Heap} {L d a : Addr} {o : Obj} (h1 : a ≠ L) (h2 : g.get? a = none) (h3 : h.get? a = some o) (h4 : a ≠ d) : (a, o) ∈ rest g h L d :=
  List.mem_filter.mpr ⟨mem_allNews h1 h2 h3, decide_eq_true h4⟩
theorem news_all {g h : Heap} {L : Addr} : News g L h (allNews g h L) := fun p hp => let ⟨a, b, c⟩ := of_mem_allNews hp; ⟨c, a, b⟩
theorem news_at {g h : Heap} {L d : Addr} {o : Obj} (h1 : d ≠ L) (h2 : g.get? d = none) (h3 : h.get? d = some o) : News g L h ((d, o) :: rest g h L d) := fun p hp => by
  rcases List.mem_cons.mp hp with rfl | hp
  · exact ⟨h3, h1, h2⟩
  · exact news_all p (List.mem_filter.mp hp).1
/-- behind a rule that changed d alone: all else but the frame is kept -/
theorem kept_of_news {g h h' : Heap} {L d : Addr} {m : Str → Option Value} (k : ∀ b o, g.get? b = some o → h.get? b = some o) (F : Fr g L h' m) (N : News g L h' (rest g h L d)) :
    ∀ b o, b ≠ L → b ≠ d → h.get? b = some o → h'.get? b = some o := fun b o h1 h2 e => by
  cases q : g.get? b with
  | some u =>
    have := k b u q
    rw [e] at this; cases this
    exact F.keep b _ q
  | none => exact (N (b, o) (mem_rest h1 q e h2)).1
end L2

namespace L2
open PySem PySem.Spec PyProof.Rows

/-- the module's facts, over the base: the heap at the law's entry without what is tracked there -/
structure Mod (K : PySem.W.Frag) (mg : Str → Option Value) (base : Heap) : Prop where
  kin : K.In base
  glob : base.Ns mainGlobals mg
  blt : ∃ mb, base.Ns builtinsNs mb ∧ ∀ x : Str, x ≠ "__name__" → mb x = bootBuiltins x
  nolimit : base.NoLimit

/-- the context: a def's body (or a comprehension's block) running. base: fixed through the whole law; s₀, H₀: the entry; outer: the frames whose slots others may change (a def's callers); stack: all frames that run;
   ex: iterators that were made ahead of the entry and are walked here (a comprehension's); fn: the names whose cells were made at the entry (a def: all; a comprehension's block: its own); calm: not within an except suite; pn: pins that every state bears; xe: what is wanted of an exception that leaves the code -/
structure Cx where
  prog : Program
  w : World
  K : PySem.W.Frag
  mg : Str → Option Value
  base : Heap
  A : Around
  N : List Str
  s₀ : Shared
  H₀ : Hp
  env : Env
  outer : List Env
  stack : List Env
  ex : List Addr
  fn : Str → Bool
  calm : Bool
  pn : List (Addr × Obj)
  xe : Value → Shared → Prop
/-- the callers' frames -/
def frs (l : List Env) : List Addr := l.filterMap (·.frame)
abbrev Cx.fs (X : Cx) : List Addr := frs X.outer

def Vis (sc : Scope) (x : Str) : Prop := sc.names.lookup x = some .local ∨ sc.names.lookup x = some .cell ∨ sc.names.lookup x = some .free
def Loc (sc : Scope) (x : Str) : Prop := sc.names.lookup x = some .local ∨ sc.names.lookup x = some .cell
def Look (env : Env) (h : Heap) (m : Str → Option Value) (x : Str) (u : Value) : Prop :=
  (env.kindOf x = some .local ∧ m x = some u) ∨ ((env.kindOf x = some .cell ∨ env.kindOf x = some .free) ∧ ∃ c, env.cells.lookup x = some c ∧ h.IsCell c (some u))

structure Cx.Ok (X : Cx) : Prop where
  mod : Mod X.K X.mg X.base
  kind : X.env.scope.kind = .function
  glob : X.env.globals = mainGlobals
  blt : X.env.builtins = builtinsNs
  above : X.s₀.heap.objs.size ≤ X.env.locals
  inj : ∀ x y c, X.env.cells.lookup x = some c → X.env.cells.lookup y = some c → x = y
  has : ∀ x, (X.env.kindOf x = some .cell ∨ X.env.kindOf x = some .free) → ∃ c, X.env.cells.lookup x = some c
  cab : ∀ x c, X.fn x = true → X.env.cells.lookup x = some c → X.s₀.heap.objs.size ≤ c
  hd : X.calm = true → X.A.handled = none
  frames : X.A.frames = some X.stack
  stk : X.stack = X.outer ∨ (X.stack = X.env :: X.outer ∧ X.env.frame = some X.env.locals)
  exf : ∀ b ∈ X.ex, b ≠ X.env.locals ∧ ∀ x c, X.env.cells.lookup x = some c → c ≠ b
  bs : ∀ b o, X.base.get? b = some o → X.s₀.heap.get? b = some o ∧ X.H₀ b = none
  bsz : X.base.objs.size ≤ X.s₀.heap.objs.size
  noex : ∀ b o, X.base.get? b = some o → b ∉ X.ex
  exfs : ∀ b ∈ X.ex, b ∉ X.fs
  funs : X.s₀.heap.FunFrames X.base X.outer
  frf : ∀ b ∈ X.fs, X.H₀ b = none

structure Inv (X : Cx) (pins : List (Addr × Obj)) (σ : List (Option V)) (H : Hp) (s : Shared) : Prop where
  ok : X.Ok
  os : s.os = X.s₀.os
  bare : AllBare s.gens
  base : Un X.fs X.ex X.H₀ H X.s₀.heap s.heap
  loc : ∃ m, s.heap.Ns X.env.locals m ∧ ∀ (i : Nat) (x : Str) (v : V), X.N[i]? = some x → σ[i]? = some (some v) → Vis X.env.scope x → ∃ u, RelV v u ∧ Look X.env s.heap m x u
  cell : ∀ x c, X.env.cells.lookup x = some c → ∃ v, s.heap.IsCell c v
  free : H X.env.locals = none
  freeC : ∀ x c, X.env.cells.lookup x = some c → H c = none
  pin : ∀ p ∈ X.pn ++ pins, s.heap.get? p.1 = some p.2 ∧ H p.1 = none ∧ p.1 ≠ X.env.locals ∧ p.1 ∉ X.fs ∧ ∀ v, p.2.data ≠ .cell v
  hok : HOk X.prog X.w H s.heap
  len : σ.length = X.N.length

section
variable {X : Cx} {pins : List (Addr × Obj)} {σ : List (Option V)} {H H' : Hp} {s : Shared} {h' : Heap}

theorem Cx.Ok.nofr (ok : X.Ok) {b : Addr} {o : Obj} (e : X.base.get? b = some o) : b ∉ X.fs := fun hb => by
  have := (ok.funs.mem hb).1
  rw [e] at this; cases this
theorem Inv.bs (I : Inv X pins σ H s) : ∀ b o, X.base.get? b = some o → s.heap.get? b = some o ∧ H b = none := fun b o e =>
  ⟨I.base.keep b o (I.ok.bs b o e).1 (I.ok.bs b o e).2 (I.ok.nofr e) (I.ok.noex b o e), I.base.free b o (I.ok.bs b o e).1 (I.ok.bs b o e).2 (I.ok.noex b o e)⟩
theorem Inv.bk (I : Inv X pins σ H s) : ∀ b o, X.base.get? b = some o → s.heap.get? b = some o := fun b o e => (I.bs b o e).1
theorem Inv.mod (I : Inv X pins σ H s) : Mod X.K X.mg X.base := I.ok.mod
theorem Inv.kIn (I : Inv X pins σ H s) : X.K.In s.heap := I.ok.mod.kin.keeps I.bk
theorem Inv.nolimit (I : Inv X pins σ H s) : s.heap.NoLimit := I.ok.mod.nolimit.keeps I.bk
/-- the frame over the base: for OpenK's rules (K.In X.base is I.mod.kin) -/
theorem Inv.fr (I : Inv X pins σ H s) : ∃ m, Fr X.base X.env.locals s.heap m :=
  let ⟨m, hn, _⟩ := I.loc
  ⟨m, hn, I.bk, Nat.le_trans I.ok.bsz I.ok.above⟩
theorem Inv.lt (I : Inv X pins σ H s) : X.env.locals < s.heap.objs.size := let ⟨_, hn, _⟩ := I.loc; hn.lt
theorem Inv.sz (I : Inv X pins σ H s) : X.s₀.heap.objs.size ≤ s.heap.objs.size := Nat.le_trans I.ok.above (Nat.le_of_lt I.lt)
theorem Inv.nofs (I : Inv X pins σ H s) {a : Addr} (h : s.heap.objs.size ≤ a) : a ∉ X.fs := fun hb => by
  obtain ⟨_, o, ho, _⟩ := I.ok.funs.mem hb
  exact absurd (Nat.lt_of_lt_of_le (Heap.lt_size ho) (Nat.le_trans I.sz h)) (Nat.lt_irrefl _)
theorem Inv.cne (I : Inv X pins σ H s) : ∀ x c, X.env.cells.lookup x = some c → c ≠ X.env.locals := fun x c e z => by
  obtain ⟨v, o, ho, hd⟩ := I.cell x c e
  obtain ⟨m, ⟨o', es, ep, ho', hd', _⟩, _⟩ := I.loc
  rw [z, ho'] at ho; cases ho; rw [hd'] at hd; cases hd
theorem Inv.funs (I : Inv X pins σ H s) : s.heap.FunFrames X.base X.outer := by
  have all : ∀ (l : List Env), (∀ b ∈ frs l, b ∈ X.fs) → X.s₀.heap.FunFrames X.base l → s.heap.FunFrames X.base l := by
    intro l
    induction l with
    | nil => intro _ _; trivial
    | cons env r ih =>
      intro hs hl
      obtain ⟨hk, ⟨L, o, hf, hn, ho, hd⟩, hr⟩ := hl
      have hL : L ∈ X.fs := hs L (by unfold frs; rw [List.filterMap_cons, hf]; exact List.mem_cons_self)
      obtain ⟨sl, e⟩ := I.base.slot L o ho (I.ok.frf L hL) hL fun z => I.ok.exfs L z hL
      exact ⟨hk, ⟨L, _, hf, hn, e, hd⟩, ih (fun b hb => hs b (by unfold frs; rw [List.filterMap_cons, hf]; exact List.mem_cons_of_mem _ hb)) hr⟩
  exact all X.outer (fun _ hb => hb) I.ok.funs

/-- the frames that run, for a call -/
theorem Inv.stack (I : Inv X pins σ H s) : s.heap.FunFrames X.base X.stack := by
  rcases I.ok.stk with e | ⟨e, hf⟩
  · rw [e]; exact I.funs
  · rw [e]
    obtain ⟨m, hn, _⟩ := I.loc
    refine .cons (by rw [I.ok.kind]; decide) hf hn ?_ I.funs
    exact Heap.get?_none_of_le (Nat.le_trans I.ok.bsz I.ok.above)
theorem Inv.stkSub (I : Inv X pins σ H s) : ∀ b ∈ frs X.stack, b ∈ X.env.locals :: X.fs := fun b hb => by
  rcases I.ok.stk with e | ⟨e, hf⟩
  · rw [e] at hb; exact List.mem_cons_of_mem _ hb
  · rw [e] at hb
    unfold frs at hb
    rw [List.filterMap_cons, hf] at hb
    exact hb
theorem Inv.stkFree (I : Inv X pins σ H s) : ∀ b ∈ frs X.stack, H b = none := fun b hb => by
  rcases List.mem_cons.mp (I.stkSub b hb) with e | hb
  · rw [e]; exact I.free
  · obtain ⟨_, o, ho, _⟩ := I.ok.funs.mem hb
    exact I.base.free b o ho (I.ok.frf b hb) fun z => I.ok.exfs b z hb

/-- THE STEP: the untracked objects but the frame and the records at ch are kept (the callers' frames up to slots), the frame's map is kept, the new abstract heap is held -/
theorem Inv.step {g' : Array GenState} {t' : Nat} {d' : Drawn} {ch : List Addr} (I : Inv X pins σ H s)
    (hch : ∀ b ∈ ch, (b ∈ X.ex ∨ X.s₀.heap.objs.size ≤ b) ∧ b ≠ X.env.locals ∧ (∀ x c, X.env.cells.lookup x = some c → c ≠ b) ∧ ∀ p ∈ X.pn ++ pins, p.1 ≠ b)
    (keep : ∀ b o, b ≠ X.env.locals → b ∉ X.fs → b ∉ ch → s.heap.get? b = some o → H b = none → h'.get? b = some o)
    (slot : ∀ b o, b ≠ X.env.locals → b ∈ X.fs → b ∉ ch → s.heap.get? b = some o → H b = none → ∃ sl, h'.get? b = some { o with slots := sl }) (free : ∀ b o, b ∉ ch → s.heap.get? b = some o → H b = none → H' b = none)
    (there : ∀ b o, b ∉ ch → s.heap.get? b = some o → ∃ o', h'.get? b = some o')
    (tups : ∀ b xs, H b = some (.tup xs) → H' b = some (.tup xs)) (frzs : ∀ b o u, H b = some (.frz o u) → H' b = some (.frz o u)) (tbls : ∀ b ps, H b = some (.tbl ps) → ∃ more, H' b = some (.tbl (ps ++ more)))
    (ns : ∀ m, s.heap.Ns X.env.locals m → h'.Ns X.env.locals m) (hok : HOk X.prog X.w H' h') (hg : AllBare g') :
    Inv X pins σ H' { s with heap := h', gens := g', drawn := d', toks := t' } := by
  have neL : ∀ b o, X.s₀.heap.get? b = some o → b ≠ X.env.locals := fun b o e => Nat.ne_of_lt (Nat.lt_of_lt_of_le (Heap.lt_size e) I.ok.above)
  have neC : ∀ b o, X.s₀.heap.get? b = some o → b ∉ X.ex → b ∉ ch := fun b o e hx hb => by
    rcases (hch b hb).1 with z | z
    · exact hx z
    · exact absurd (Nat.lt_of_lt_of_le (Heap.lt_size e) z) (Nat.lt_irrefl _)
  have cellK : ∀ x c, X.env.cells.lookup x = some c → ∀ v, s.heap.IsCell c v → h'.IsCell c v := fun x c e v ⟨o, ho, hd⟩ => by
    have nch : c ∉ ch := fun z => (hch c z).2.2.1 x c e rfl
    by_cases hc : c ∈ X.fs
    · obtain ⟨sl, q⟩ := slot c o (I.cne x c e) hc nch ho (I.freeC x c e)
      exact ⟨_, q, hd⟩
    · exact ⟨o, keep c o (I.cne x c e) hc nch ho (I.freeC x c e), hd⟩
  refine ⟨I.ok, I.os, hg, ⟨fun b o e n hb hx => ?_, fun b o e n hb hx => ?_, fun b o e n hx => ?_, fun b o e hx => ?_, fun b xs e => tups b xs (I.base.tups b xs e), fun b o xs e => frzs b o xs (I.base.frzs b o xs e), fun b ps e => ?_⟩, ?_, fun x c e => ?_, ?_, fun x c e => ?_, fun p hp => ?_, hok, I.len⟩
  · exact keep b o (neL b o e) hb (neC b o e hx) (I.base.keep b o e n hb hx) (I.base.free b o e n hx)
  · obtain ⟨sl, e1⟩ := I.base.slot b o e n hb hx
    obtain ⟨sl', e2⟩ := slot b _ (neL b o e) hb (neC b o e hx) e1 (I.base.free b o e n hx)
    exact ⟨sl', e2⟩
  · obtain ⟨o', e1⟩ := I.base.there b o e hx
    exact free b o' (neC b o e hx) e1 (I.base.free b o e n hx)
  · obtain ⟨o', e1⟩ := I.base.there b o e hx
    exact there b o' (neC b o e hx) e1
  · obtain ⟨m1, e1⟩ := I.base.tbls b ps e
    obtain ⟨m2, e2⟩ := tbls b _ e1
    exact ⟨m1 ++ m2, by rw [e2, Array.append_assoc]⟩
  · obtain ⟨m, hn, hl⟩ := I.loc
    refine ⟨m, ns m hn, fun i x v e1 e2 e3 => ?_⟩
    obtain ⟨u, r, l⟩ := hl i x v e1 e2 e3
    refine ⟨u, r, ?_⟩
    rcases l with l | ⟨k, c, e, z⟩
    · exact .inl l
    · exact .inr ⟨k, c, e, cellK x c e _ z⟩
  · obtain ⟨v, z⟩ := I.cell x c e
    exact ⟨v, cellK x c e v z⟩
  · obtain ⟨m, ⟨o, _, _, ho, _⟩, _⟩ := I.loc
    exact free _ o (fun z => (hch _ z).2.1 rfl) ho I.free
  · obtain ⟨v, o, ho, hd⟩ := I.cell x c e
    exact free c o (fun z => (hch c z).2.2.1 x c e rfl) ho (I.freeC x c e)
  · obtain ⟨e, n, ne, nf, d⟩ := I.pin p hp
    have nch : p.1 ∉ ch := fun z => (hch p.1 z).2.2.2 p hp rfl
    exact ⟨keep p.1 p.2 ne nf nch e n, free p.1 p.2 nch e n, ne, nf, d⟩
/-- .. where the frame's own object is kept too -/
theorem Inv.un {t' : Nat} (I : Inv X pins σ H s) (u : Un X.fs [] H H' s.heap h') (hok : HOk X.prog X.w H' h') : Inv X pins σ H' { s with heap := h', toks := t' } := by
  obtain ⟨m, ⟨o, es, ep, ho, r⟩, _⟩ := id I.loc
  obtain ⟨sl, hL⟩ := u.any ho I.free (by simp)
  exact I.step (g' := s.gens) (d' := s.drawn) (ch := []) (fun _ z => nomatch z) (fun b o _ hb _ e n => u.keep b o e n hb (by simp)) (fun b o _ hb _ e n => u.slot b o e n hb (by simp)) (fun b o _ e n => u.free b o e n (by simp)) (fun b o _ e => u.there b o e (by simp)) u.tups u.frzs u.tbls (fun m' hm => by
    obtain ⟨o', es', ep', ho', r'⟩ := hm
    rw [ho] at ho'; cases ho'
    exact ⟨_, es', ep', hL, r'⟩) hok I.bare
/-- behind a call (or a comprehension's block): the slots of this frame may have changed too, the records at ch may have turned -/
theorem Inv.call {g' : Array GenState} {t' : Nat} {d' : Drawn} {ch : List Addr} (I : Inv X pins σ H s) (u : Un (frs X.stack) ch H H' s.heap h') (hok : HOk X.prog X.w H' h') (hg : AllBare g')
    (hch : ∀ b ∈ ch, (b ∈ X.ex ∨ X.s₀.heap.objs.size ≤ b) ∧ b ≠ X.env.locals ∧ (∀ x c, X.env.cells.lookup x = some c → c ≠ b) ∧ ∀ p ∈ X.pn ++ pins, p.1 ≠ b) :
    Inv X pins σ H' { s with heap := h', gens := g', drawn := d', toks := t' } := by
  obtain ⟨m, ⟨o, es, ep, ho, r⟩, _⟩ := id I.loc
  obtain ⟨sl, hL⟩ := u.any ho I.free fun z => (hch _ z).2.1 rfl
  exact I.step (ch := ch) hch (fun b o hL hb hc e n => u.keep b o e n (fun z => (List.mem_cons.mp (I.stkSub b z)).elim hL hb) hc) (fun b o _ _ hc e n => u.any e n hc) (fun b o hc e n => u.free b o e n hc) (fun b o hc e => u.there b o e hc) u.tups u.frzs u.tbls (fun m' hm => by
    obtain ⟨o', es', ep', ho', r'⟩ := hm
    rw [ho] at ho'; cases ho'
    exact ⟨_, es', ep', hL, r'⟩) hok hg
/-- an untracked record of ours (an iterator) has turned -/
theorem Inv.turned {t' : Nat} {it : Addr} (I : Inv X pins σ H s) (k : ∀ b o, b ≠ it → s.heap.get? b = some o → h'.get? b = some o) (hn : H it = none) (hL : it ≠ X.env.locals)
    (h1 : it ∈ X.ex ∨ X.s₀.heap.objs.size ≤ it) (h2 : ∀ x c, X.env.cells.lookup x = some c → c ≠ it) (h3 : ∀ p ∈ X.pn ++ pins, p.1 ≠ it) : Inv X pins σ H { s with heap := h', toks := t' } := by
  have nit : ∀ b u, H b = some u → b ≠ it := fun b u e z => by rw [z, hn] at e; cases e
  refine I.step (g' := s.gens) (d' := s.drawn) (ch := [it]) (fun b hb => ?_) (fun b o _ _ hc e _ => k b o (fun z => hc (by simp [z])) e) (fun b o _ _ hc e _ => ⟨o.slots, k b o (fun z => hc (by simp [z])) e⟩) (fun _ _ _ _ n => n)
    (fun b o hc e => ⟨o, k b o (fun z => hc (by simp [z])) e⟩) (fun _ _ e => e) (fun _ _ _ e => e) (fun b ps e => ⟨#[], by rw [e]; simp⟩) (fun m hm => ?_) (fun b u e => ?_) I.bare
  · have e : b = it := by simpa using hb
    subst e
    exact ⟨h1, hL, h2, h3⟩
  · obtain ⟨o, es, ep, ho, r⟩ := hm
    exact ⟨o, es, ep, k _ o (Ne.symm hL) ho, r⟩
  · refine (I.hok b u e).stay (fun c v hc q => k c v ?_ q) (fun _ q => q) fun _ _ q => q
    rcases hc with z | z
    · rw [z]; exact nit b u e
    · exact nit c _ z
theorem Inv.tok (I : Inv X pins σ H s) (t : Nat) : Inv X pins σ H { s with toks := t } := I.un (h' := s.heap) (t' := t) Un.refl I.hok
/-- all objects kept -/
theorem Inv.kept {t' : Nat} (I : Inv X pins σ H s) (k : ∀ b u, s.heap.get? b = some u → h'.get? b = some u) : Inv X pins σ H { s with heap := h', toks := t' } := I.un (Un.kept k) (I.hok.kept k)
/-- a new object laid and tracked -/
theorem Inv.laid {a : Addr} {o : HO} {t' : Nat} (I : Inv X pins σ H s) (k : ∀ b u, s.heap.get? b = some u → h'.get? b = some u) (hp : s.heap.objs.size ≤ a) (new : ObjOk X.prog X.w (upd H a o) h' a o) :
    Inv X pins σ (upd H a o) { s with heap := h', toks := t' } := I.un (Un.laid k hp (I.hok.fresh hp)) (I.hok.laid k hp new)
/-- an object written -/
theorem Inv.write {x e : Addr} {o : HO} {t' : Nat} (I : Inv X pins σ H s) (mu : Mut (H x)) (he : e = x ∨ H e = some (.own x)) (k : ∀ b u, b ≠ e → s.heap.get? b = some u → h'.get? b = some u) (heo : ∃ u, h'.get? e = some u)
    (new : ObjOk X.prog X.w (upd H x o) h' x o) : Inv X pins σ (upd H x o) { s with heap := h', toks := t' } := I.un (Un.write mu he k heo) (I.hok.write mu he k heo new)
/-- forgetting slots, pins -/
theorem Inv.weak {σ' : List (Option V)} (I : Inv X pins σ H s) (hl : σ'.length = σ.length) (w : ∀ (i : Nat) v, σ'[i]? = some (some v) → σ[i]? = some (some v)) : Inv X pins σ' H s :=
  ⟨I.ok, I.os, I.bare, I.base, let ⟨m, hn, hl'⟩ := I.loc; ⟨m, hn, fun i x v e1 e2 e3 => hl' i x v e1 (w i v e2) e3⟩, I.cell, I.free, I.freeC, I.pin, I.hok, hl.trans I.len⟩
theorem Inv.pins_of {pins' : List (Addr × Obj)} (I : Inv X pins σ H s) (h : ∀ p ∈ pins', s.heap.get? p.1 = some p.2 ∧ H p.1 = none ∧ p.1 ≠ X.env.locals ∧ p.1 ∉ X.fs ∧ ∀ v, p.2.data ≠ .cell v) : Inv X pins' σ H s :=
  ⟨I.ok, I.os, I.bare, I.base, I.loc, I.cell, I.free, I.freeC, fun p hp => (List.mem_append.mp hp).elim (fun z => I.pin p (List.mem_append_left _ z)) (h p), I.hok, I.len⟩

theorem nodup_ix {N : List Str} (hN : N.Nodup) {i j : Nat} {x : Str} (a : N[i]? = some x) (b : N[j]? = some x) : i = j := by
  obtain ⟨h1, e1⟩ := List.getElem?_eq_some_iff.mp a
  obtain ⟨h2, e2⟩ := List.getElem?_eq_some_iff.mp b
  exact (List.getElem_inj hN).mp (e1.trans e2.symm)

/-- a name is stored; what changed -/
theorem store_ok2 {M : Model} {A : Around} {E : Value → Shared → Prop} {i : Nat} {x : Str} {v : V} {u : Value} {Q : Unit → Shared → Prop} (I : Inv X pins σ H s) (hN : X.N.Nodup) (hi : X.N[i]? = some x) (hx : Loc X.env.scope x) (r : RelV v u)
    (h : ∀ s', Inv X pins (σ.set i (some v)) H s' → (∃ a, Heap.SameBut a s.heap s'.heap ∧ (a = X.env.locals ∨ X.env.cells.lookup x = some a)) → Q () s') (hf : X.fn x = true ∨ X.env.scope.names.lookup x = some .local := by first | exact .inl rfl | exact .inr rfl | assumption) : wpAny M A (storeName X.env x u) Q E s := by
  obtain ⟨m, hn, hl⟩ := id I.loc
  have hcls : (X.env.scope.kind == .class || (X.env.scope.kind == .module && X.env.locals != X.env.globals)) = false := by rw [I.ok.kind]; rfl
  have hiσ : i < σ.length := by rw [I.len]; exact (List.getElem?_eq_some_iff.mp hi).1
  have cne := I.cne
  have tracked : ∀ {a : Addr} {h' : Heap}, (∃ o, s.heap.get? a = some o ∧ H a = none) → Heap.SameBut a s.heap h' → HOk X.prog X.w H h' := fun {a h'} ha hs b ob e => by
    obtain ⟨_, _, hfree⟩ := ha
    refine (I.hok b ob e).stay (fun c w' hc q => (hs.2 c ?_).trans q) (fun _ q => q) fun _ _ q => q
    rintro rfl
    rcases hc with rfl | hc
    · rw [hfree] at e; cases e
    · rw [hfree] at hc; cases hc
  rcases hx with hk | hk
  · refine wpAny_storeName_local hk hn (fun h' hn' hs => ?_) hcls
    obtain ⟨oL, _, _, hoL, _⟩ := id hn
    refine h _ ⟨I.ok, I.os, I.bare, ⟨fun b o e n hb hx => ?_, fun b o e n hb hx => ?_, I.base.free, fun b o e hx => ?_, I.base.tups, I.base.frzs, I.base.tbls⟩, ⟨_, hn', fun j y v' e1 e2 e3 => ?_⟩, fun y c e => ?_, I.free, I.freeC, fun p hp => ?_, tracked ⟨oL, hoL, I.free⟩ hs, by simpa using I.len⟩ ⟨_, hs, .inl rfl⟩
    · exact (hs.2 b (Nat.ne_of_lt (Nat.lt_of_lt_of_le (Heap.lt_size e) I.ok.above))).trans (I.base.keep b o e n hb hx)
    · obtain ⟨sl, e1⟩ := I.base.slot b o e n hb hx
      exact ⟨sl, (hs.2 b (Nat.ne_of_lt (Nat.lt_of_lt_of_le (Heap.lt_size e) I.ok.above))).trans e1⟩
    · obtain ⟨o', e1⟩ := I.base.there b o e hx
      exact ⟨o', (hs.2 b (Nat.ne_of_lt (Nat.lt_of_lt_of_le (Heap.lt_size e) I.ok.above))).trans e1⟩
    · by_cases hj : j = i
      · subst hj
        rw [hi] at e1; cases e1
        rw [List.getElem?_set_self hiσ] at e2
        cases e2
        exact ⟨u, r, .inl ⟨hk, by simp⟩⟩
      · rw [List.getElem?_set_ne (Ne.symm hj)] at e2
        obtain ⟨u', r', q⟩ := hl j y v' e1 e2 e3
        refine ⟨u', r', ?_⟩
        rcases q with ⟨k, e⟩ | ⟨k, c, e, z⟩
        · refine .inl ⟨k, ?_⟩
          have : y ≠ x := fun e => hj (nodup_ix hN e1 (e ▸ hi))
          simp [this, e]
        · exact .inr ⟨k, c, e, z.sameBut hs (cne y c e)⟩
    · obtain ⟨w', z⟩ := I.cell y c e
      exact ⟨w', z.sameBut hs (cne y c e)⟩
    · obtain ⟨e, n, ne, nf, d⟩ := I.pin p hp
      exact ⟨(hs.2 p.1 ne).trans e, n, ne, nf, d⟩
  · have hfn : X.fn x = true := by
      rcases hf with z | z
      · exact z
      · rw [z] at hk; cases hk
    obtain ⟨c, hc⟩ := I.ok.has x (.inl hk)
    obtain ⟨w', z⟩ := I.cell x c hc
    refine wpAny_storeName_cell I.ok.kind hk hc z (fun h' hc' hs => ?_)
    obtain ⟨oc, hoc, hocd⟩ := id z
    refine h { s with heap := h' } ⟨I.ok, I.os, I.bare, ⟨fun b o e n hb hx => ?_, fun b o e n hb hx => ?_, I.base.free, fun b o e hx => ?_, I.base.tups, I.base.frzs, I.base.tbls⟩, ⟨m, hn.sameBut hs (Ne.symm (cne x c hc)), fun j y v' e1 e2 e3 => ?_⟩, fun y c' e => ?_, I.free, I.freeC, fun p hp => ?_, tracked ⟨oc, hoc, I.freeC x c hc⟩ hs, by simpa using I.len⟩ ⟨c, hs, .inr hc⟩
    · exact (hs.2 b (Nat.ne_of_lt (Nat.lt_of_lt_of_le (Heap.lt_size e) (I.ok.cab x c hfn hc)))).trans (I.base.keep b o e n hb hx)
    · obtain ⟨sl, e1⟩ := I.base.slot b o e n hb hx
      exact ⟨sl, (hs.2 b (Nat.ne_of_lt (Nat.lt_of_lt_of_le (Heap.lt_size e) (I.ok.cab x c hfn hc)))).trans e1⟩
    · obtain ⟨o', e1⟩ := I.base.there b o e hx
      exact ⟨o', (hs.2 b (Nat.ne_of_lt (Nat.lt_of_lt_of_le (Heap.lt_size e) (I.ok.cab x c hfn hc)))).trans e1⟩
    · by_cases hj : j = i
      · subst hj
        rw [hi] at e1; cases e1
        rw [List.getElem?_set_self hiσ] at e2
        cases e2
        exact ⟨u, r, .inr ⟨.inl hk, c, hc, hc'⟩⟩
      · rw [List.getElem?_set_ne (Ne.symm hj)] at e2
        obtain ⟨u', r', q⟩ := hl j y v' e1 e2 e3
        refine ⟨u', r', ?_⟩
        rcases q with q | ⟨k, c', e, z'⟩
        · exact .inl q
        · refine .inr ⟨k, c', e, z'.sameBut hs ?_⟩
          rintro rfl
          exact hj (nodup_ix hN e1 (I.ok.inj _ _ _ e hc ▸ hi))
    · by_cases hcc : c' = c
      · subst hcc; exact ⟨_, hc'⟩
      · obtain ⟨w2, z2⟩ := I.cell y c' e
        exact ⟨w2, z2.sameBut hs hcc⟩
    · obtain ⟨e, n, ne, nf, d⟩ := I.pin p hp
      refine ⟨(hs.2 p.1 ?_).trans e, n, ne, nf, d⟩
      intro q
      rw [q, hoc] at e
      have q' : oc = p.2 := Option.some.inj e
      exact d w' (by rw [← q']; exact hocd)
theorem store_ok {M : Model} {A : Around} {E : Value → Shared → Prop} {i : Nat} {x : Str} {v : V} {u : Value} {Q : Unit → Shared → Prop} (I : Inv X pins σ H s) (hN : X.N.Nodup) (hi : X.N[i]? = some x) (hx : Loc X.env.scope x) (r : RelV v u)
    (h : ∀ s', Inv X pins (σ.set i (some v)) H s' → Q () s') (hf : X.fn x = true ∨ X.env.scope.names.lookup x = some .local := by first | exact .inl rfl | exact .inr rfl | assumption) : wpAny M A (storeName X.env x u) Q E s :=
  store_ok2 I hN hi hx r (fun s' I' _ => h s' I') hf
/-- behind a call or a block, the state as it is -/
theorem Inv.call' {s' : Shared} {ch : List Addr} (I : Inv X pins σ H s) (ho : s'.os = s.os) (u : Un (frs X.stack) ch H H' s.heap s'.heap) (hok : HOk X.prog X.w H' s'.heap) (hg : AllBare s'.gens)
    (hch : ∀ b ∈ ch, (b ∈ X.ex ∨ X.s₀.heap.objs.size ≤ b) ∧ b ≠ X.env.locals ∧ (∀ x c, X.env.cells.lookup x = some c → c ≠ b) ∧ ∀ p ∈ X.pn ++ pins, p.1 ≠ b) : Inv X pins σ H' s' := by
  obtain ⟨h', g', d', t', o'⟩ := s'
  have e : o' = s.os := ho
  subst e
  exact I.call (g' := g') (t' := t') (d' := d') u hok hg hch
end

/-! ### the judgements -/
/-- an exception: its class, its own dict's address (where it has one), the abstract heap behind it -/
abbrev XK := Value → Option Addr → Hp → Prop
abbrev St := List (Option V)
abbrev VK := V → Hp → Prop
/-- an expression's reading; a test's; an argument list's -/
abbrev TE := St → Hp → VK → Prop
abbrev TT := St → Hp → (Bool → Hp → Prop) → Prop
abbrev TA := St → Hp → (List V → Hp → Prop) → Prop
/-- what is wanted behind a statement -/
structure Ends where
  nx : St → Hp → Prop
  rt : VK
  bk : St → Hp → Prop := fun _ _ => False
  ct : St → Hp → Prop := fun _ _ => False
abbrev TS := Ends → St → Hp → Prop

def EP (X : Cx) (pins : List (Addr × Obj)) (σ : St) (Q : VK) (u : Value) (s' : Shared) : Prop := ∃ v H', Inv X pins σ H' s' ∧ RelV v u ∧ Q v H'
def TP (X : Cx) (pins : List (Addr × Obj)) (σ : St) (Q : Bool → Hp → Prop) (b : Bool) (s' : Shared) : Prop := ∃ H', Inv X pins σ H' s' ∧ Q b H'
def AP (X : Cx) (pins : List (Addr × Obj)) (σ : St) (Q : List V → Hp → Prop) (us : List Value) (s' : Shared) : Prop := ∃ vs H', Inv X pins σ H' s' ∧ Vals vs us ∧ Q vs H'
def SP (X : Cx) (pins : List (Addr × Obj)) (D : Ends) (f : Flow) (s' : Shared) : Prop :=
  match f with
  | .next => ∃ σ' H', Inv X pins σ' H' s' ∧ D.nx σ' H'
  | .brk => ∃ σ' H', Inv X pins σ' H' s' ∧ D.bk σ' H'
  | .cont => ∃ σ' H', Inv X pins σ' H' s' ∧ D.ct σ' H'
  | .ret u => ∃ v σ' H', Inv X pins σ' H' s' ∧ RelV v u ∧ D.rt v H'

def PE (X : Cx) (e : Expr) (t : TE) : Prop :=
  ∀ (pins : List (Addr × Obj)) (s : Shared) (σ : St) (H : Hp) (Q : VK), Inv X pins σ H s → t σ H Q → wpAny (model X.prog X.w) X.A (eval e X.env) (EP X pins σ Q) X.xe s
def PT (X : Cx) (e : Expr) (t : TT) : Prop :=
  ∀ (pins : List (Addr × Obj)) (s : Shared) (σ : St) (H : Hp) (Q : Bool → Hp → Prop), Inv X pins σ H s → t σ H Q → wpAny (model X.prog X.w) X.A (isTrue e X.env (eval e X.env)) (TP X pins σ Q) X.xe s
/-- a test whatever its 'whole' is (and, or) -/
def PW (X : Cx) (e : Expr) (t : TT) : Prop :=
  ∀ (whole : Sem Value) (pins : List (Addr × Obj)) (s : Shared) (σ : St) (H : Hp) (Q : Bool → Hp → Prop), Inv X pins σ H s → t σ H Q → wpAny (model X.prog X.w) X.A (isTrue e X.env whole) (TP X pins σ Q) X.xe s
theorem PW.pt {X : Cx} {e : Expr} {t : TT} (h : PW X e t) : PT X e t := h _
/-- an argument list (no star), from the left -/
def PA (X : Cx) (es : List Expr) (t : TA) : Prop :=
  ∀ (pos : Pos) (pins : List (Addr × Obj)) (s : Shared) (σ : St) (H : Hp) (Q : List V → Hp → Prop), Inv X pins σ H s → t σ H Q → wpAny (model X.prog X.w) X.A (spliced (backTo pos (starEach es X.env))) (AP X pins σ Q) X.xe s
def PS (X : Cx) (st : Stmt) (t : TS) : Prop :=
  ∀ (pins : List (Addr × Obj)) (s : Shared) (σ : St) (H : Hp) (D : Ends), Inv X pins σ H s → t D σ H → wpAny (model X.prog X.w) X.A (exec st X.env) (SP X pins D) X.xe s
def PSs (X : Cx) (st : List Stmt) (t : TS) : Prop :=
  ∀ (pins : List (Addr × Obj)) (s : Shared) (σ : St) (H : Hp) (D : Ends), Inv X pins σ H s → t D σ H → wpAny (model X.prog X.w) X.A (execs st X.env) (SP X pins D) X.xe s
/-- weaken the end -/
theorem thn {α : Type} {t : Sem α} {Q Q' : α → Shared → Prop} {M : Model} {A : Around} {E : Value → Shared → Prop} {s : Shared} (h : wpAny M A t Q E s) (hQ : ∀ a s, Q a s → Q' a s) : wpAny M A t Q' E s := wpAny_mono h hQ fun _ _ x => x
end L2

namespace L2
open PySem PySem.Spec PyProof.Rows
section
variable {X : Cx}

/-- two expressions in a row -/
theorem bin {a b : Expr} {ta tb : TE} (ha : PE X a ta) (hb : PE X b tb) {pins : List (Addr × Obj)} {s : Shared} {σ : St} {H : Hp} {R : V → V → Hp → Prop} (I : Inv X pins σ H s) (h : ta σ H fun x H1 => tb σ H1 fun y H2 => R x y H2)
    {α : Type} {Q : α → Shared → Prop} {f : Value → Value → Sem α}
    (hf : ∀ v u s2 x y H2, Inv X pins σ H2 s2 → RelV x v → RelV y u → R x y H2 → wpAny (model X.prog X.w) X.A (f v u) Q X.xe s2) :
    wpAny (model X.prog X.w) X.A (eval a X.env) (fun v s₁ => wpAny (model X.prog X.w) X.A (eval b X.env) (fun u s₂ => wpAny (model X.prog X.w) X.A (f v u) Q X.xe s₂) X.xe s₁) X.xe s := by
  refine thn (ha pins s σ H _ I h) fun v s1 ⟨x, H1, I1, r1, q1⟩ => ?_
  refine thn (hb pins s1 σ H1 _ I1 q1) fun u s2 ⟨y, H2, I2, r2, q2⟩ => ?_
  exact hf v u s2 x y H2 I2 r1 r2 q2

/-! ### names and constants -/
def tVar (i : Nat) : TE := fun σ H Q => ∃ v, σ[i]? = some (some v) ∧ Q v H
def tC (v : V) : TE := fun _ H Q => Q v H
theorem pe_var {i : Nat} {x : Str} {pos : Pos} (hN : X.N[i]? = some x) (hv : Vis X.env.scope x) (hd : (x == ("__debug__" : Str)) = false := by decide) (hcd : (x == ("__classdict__" : Str)) = false := by decide) : PE X (.Name x pos) (tVar i) := by
  intro pins s σ H Q I h
  obtain ⟨v, e, h⟩ := h
  obtain ⟨m, hn, hl⟩ := I.loc
  obtain ⟨u, r, l⟩ := hl i x v hN e hv
  have fin : EP X pins σ Q u s := ⟨v, H, I, r, h⟩
  rcases l with ⟨hk, hm⟩ | ⟨hk, c, hc, hcell⟩
  · exact wpAny_Name (wpAny_loadName_local I.ok.kind hk hn hm fin) hd
  · rcases hk with hk | hk
    · exact wpAny_Name (wpAny_loadName_cell I.ok.kind hk hc hcell fin) hd
    · exact wpAny_Name (wpAny_loadName_free I.ok.kind hk hc hcell fin hcd) hd
theorem pe_int {i j pos} : PE X (.Constant (.int i) j pos) (tC (.int i)) := fun _ _ _ H _ I h => wpAny_Constant_int ⟨.int i, H, I.tok _, ⟨_, rfl⟩, h⟩
theorem pe_bl {b j pos} : PE X (.Constant (.bool b) j pos) (tC (.bl b)) := fun _ _ _ H _ I h => Constant_bool ⟨.bl b, H, I, rfl, h⟩
theorem pe_non {j pos} : PE X (.Constant .none j pos) (tC .non) := fun _ _ _ H _ I h => Constant_none ⟨.non, H, I, rfl, h⟩
theorem pe_str {x j pos} : PE X (.Constant (.str x) j pos) (tC (.str x)) := fun _ _ _ H _ I h => Calls.Constant_str ⟨.str x, H, I.tok _, ⟨_, rfl⟩, h⟩

/-- a global name of the def -/
def Gl (X : Cx) (x : Str) : Prop := X.env.kindOf x = some .globalImplicit
theorem ld_glob {E : Value → Shared → Prop} {pins : List (Addr × Obj)} {s : Shared} {σ : St} {H : Hp} {x : Str} {u : Value} {pos : Pos} {Q : Value → Shared → Prop} (I : Inv X pins σ H s) (hg : Gl X x) (hm : X.mg x = some u) (h : Q u s)
    (hd : (x == ("__debug__" : Str)) = false := by decide) : wpAny (model X.prog X.w) X.A (eval (.Name x pos) X.env) Q E s :=
  Calls.Name_function_global I.ok.kind hg (Calls.loadGlobal_global (by rw [I.ok.glob]; exact I.mod.glob.keeps I.bk) hm h) hd
theorem ld_blt {E : Value → Shared → Prop} {pins : List (Addr × Obj)} {s : Shared} {σ : St} {H : Hp} {x : Str} {u : Value} {pos : Pos} {Q : Value → Shared → Prop} (I : Inv X pins σ H s) (hg : Gl X x) (hm : X.mg x = none) (hv : bootBuiltins x = some u) (h : Q u s)
    (hn : x ≠ "__name__" := by decide) (hd : (x == ("__debug__" : Str)) = false := by decide) : wpAny (model X.prog X.w) X.A (eval (.Name x pos) X.env) Q E s := by
  obtain ⟨mb, h1, h2⟩ := I.mod.blt
  exact Calls.Name_function_global I.ok.kind hg (Calls.loadGlobal_builtin (by rw [I.ok.glob]; exact I.mod.glob.keeps I.bk) hm (by rw [I.ok.blt]; exact h1.keeps I.bk) ((h2 x hn).trans hv) h) hd
/-- a module's constant, a class, a function, as a value -/
theorem pe_glob {x : Str} {v : V} {u : Value} {pos : Pos} (hg : Gl X x) (hm : X.mg x = some u) (r : RelV v u) (hd : (x == ("__debug__" : Str)) = false := by decide) : PE X (.Name x pos) (tC v) :=
  fun _ _ _ H _ I h => ld_glob I hg hm ⟨v, H, I, r, h⟩ hd
theorem pe_bltn {x : Str} {v : V} {u : Value} {pos : Pos} (hg : Gl X x) (hm : X.mg x = none) (hv : bootBuiltins x = some u) (r : RelV v u) (hn : x ≠ "__name__" := by decide) (hd : (x == ("__debug__" : Str)) = false := by decide) : PE X (.Name x pos) (tC v) :=
  fun _ _ _ H _ I h => ld_blt I hg hm hv ⟨v, H, I, r, h⟩ hn hd

/-! ### arithmetic -/
/-- two ints -/
def t2I (ta tb : TE) (k : Int → Int → Hp → Prop) : St → Hp → Prop := fun σ H => ta σ H fun x H1 => tb σ H1 fun y H2 => ∃ i j, x = .int i ∧ y = .int j ∧ k i j H2
def tAdd (ta tb : TE) : TE := fun σ H Q => t2I ta tb (fun i j H2 => Q (.int (i + j)) H2) σ H
def tSub (ta tb : TE) : TE := fun σ H Q => t2I ta tb (fun i j H2 => Q (.int (i - j)) H2) σ H
/-- the left factor below 2^64 -/
def tMul (ta tb : TE) : TE := fun σ H Q => t2I ta tb (fun i j H2 => (-(2 ^ 64) < i ∧ i < 2 ^ 64) ∧ Q (.int (i * j)) H2) σ H
variable {a b : Expr} {ta tb : TE} {pos : Pos}
theorem pe_add (ha : PE X a ta) (hb : PE X b tb) : PE X (.BinOp a .Add b pos) (tAdd ta tb) := by
  intro pins s σ H Q I h
  refine wpAny_BinOp (bin ha hb I h fun v u s2 x y H2 I2 rx ry q => ?_)
  obtain ⟨i, j, rfl, rfl, q⟩ := q
  obtain ⟨t, rfl⟩ := rx
  obtain ⟨t', rfl⟩ := ry
  exact add_int ⟨.int _, H2, I2.tok _, ⟨_, rfl⟩, q⟩
theorem pe_sub (ha : PE X a ta) (hb : PE X b tb) : PE X (.BinOp a .Sub b pos) (tSub ta tb) := by
  intro pins s σ H Q I h
  refine wpAny_BinOp (bin ha hb I h fun v u s2 x y H2 I2 rx ry q => ?_)
  obtain ⟨i, j, rfl, rfl, q⟩ := q
  obtain ⟨t, rfl⟩ := rx
  obtain ⟨t', rfl⟩ := ry
  exact sub_int ⟨.int _, H2, I2.tok _, ⟨_, rfl⟩, q⟩
theorem pe_mul (ha : PE X a ta) (hb : PE X b tb) : PE X (.BinOp a .Mult b pos) (tMul ta tb) := by
  intro pins s σ H Q I h
  refine wpAny_BinOp (bin ha hb I h fun v u s2 x y H2 I2 rx ry q => ?_)
  obtain ⟨i, j, rfl, rfl, ⟨q1, q2⟩, q⟩ := q
  obtain ⟨t, rfl⟩ := rx
  obtain ⟨t', rfl⟩ := ry
  exact mul_int ⟨.int _, H2, I2.tok _, ⟨_, rfl⟩, q⟩ (.of_left (intBits_le_64 q1 q2))

/-! ### comparisons -/
def PC (X : Cx) (op : CmpOp) (a b : Expr) (t : TE) : Prop :=
  ∀ (pins : List (Addr × Obj)) (s : Shared) (σ : St) (H : Hp) (Q : VK), Inv X pins σ H s → t σ H Q →
    wpAny (model X.prog X.w) X.A (eval a X.env) (fun v s₁ => wpAny (model X.prog X.w) X.A (eval b X.env) (fun u s₂ => wpAny (model X.prog X.w) X.A (compareOp op v u) (EP X pins σ Q) X.xe s₂) X.xe s₁) X.xe s
theorem nobehind (b : Expr) {op : CmpOp} (h : op ≠ .In) (h2 : op ≠ .NotIn) : behindInMarks op b = false := by
  have e1 : (op == CmpOp.In) = false := by cases op <;> first | rfl | exact absurd rfl h
  have e2 : (op == CmpOp.NotIn) = false := by cases op <;> first | rfl | exact absurd rfl h2
  cases b <;> simp [behindInMarks, e1, e2]
def tCmp (p : Int → Int → Bool) (ta tb : TE) : TE := fun σ H Q => t2I ta tb (fun i j H2 => Q (.bl (p i j)) H2) σ H
abbrev tLt : TE → TE → TE := tCmp fun i j => decide (i < j)
abbrev tLe : TE → TE → TE := tCmp fun i j => decide (i ≤ j)
abbrev tGt : TE → TE → TE := tCmp fun i j => decide (j < i)
abbrev tGe : TE → TE → TE := tCmp fun i j => decide (j ≤ i)
abbrev tEqI : TE → TE → TE := tCmp fun i j => decide (i = j)
abbrev tNeI : TE → TE → TE := tCmp fun i j => !decide (i = j)
/-- a comparison of two ints, by its rule -/
theorem pc_int {op : CmpOp} {p : Int → Int → Bool} (ha : PE X a ta) (hb : PE X b tb)
    (rule : ∀ (i j : Int) (t u : Tok) (Q : Value → Shared → Prop) (s : Shared), Q (.bool (p i j)) s → wpAny (model X.prog X.w) X.A (compareOp op (.int i t) (.int j u)) Q X.xe s) : PC X op a b (tCmp p ta tb) := by
  intro pins s σ H Q I h
  refine bin ha hb I h fun v u s2 x y H2 I2 rx ry q => ?_
  obtain ⟨i, j, rfl, rfl, q⟩ := q
  obtain ⟨t, rfl⟩ := rx
  obtain ⟨t', rfl⟩ := ry
  exact rule i j t t' _ s2 ⟨.bl _, H2, I2, rfl, q⟩
theorem pc_lt (ha : PE X a ta) (hb : PE X b tb) : PC X .Lt a b (tLt ta tb) := pc_int ha hb fun _ _ _ _ _ _ h => lt_int h
theorem pc_le (ha : PE X a ta) (hb : PE X b tb) : PC X .LtE a b (tLe ta tb) := pc_int ha hb fun _ _ _ _ _ _ h => le_int h
theorem pc_gt (ha : PE X a ta) (hb : PE X b tb) : PC X .Gt a b (tGt ta tb) := pc_int ha hb fun _ _ _ _ _ _ h => gt_int h
theorem pc_ge (ha : PE X a ta) (hb : PE X b tb) : PC X .GtE a b (tGe ta tb) := pc_int ha hb fun _ _ _ _ _ _ h => ge_int h
theorem pc_eqI (ha : PE X a ta) (hb : PE X b tb) : PC X .Eq a b (tEqI ta tb) := pc_int ha hb fun _ _ _ _ _ _ h => eq_int (by rw [Bool.beq_eq_decide_eq]; exact h)
theorem pc_neI (ha : PE X a ta) (hb : PE X b tb) : PC X .NotEq a b (tNeI ta tb) := pc_int ha hb fun _ _ _ _ _ _ h => ne_int (by rw [bne, Bool.beq_eq_decide_eq]; exact h)
/-- is None -/
def tIsN (ta : TE) : TE := fun σ H Q => ta σ H fun x H1 => Q (.bl (decide (x = .non))) H1
def tNotN (ta : TE) : TE := fun σ H Q => ta σ H fun x H1 => Q (.bl (!decide (x = .non))) H1
theorem RelV.none_iff {x : V} {v : Value} (r : RelV x v) : (v == Value.none) = decide (x = .non) := by
  cases x with
  | non => cases r; rfl
  | bl _ => cases r; rfl
  | int _ => obtain ⟨t, rfl⟩ := r; rfl
  | str _ => obtain ⟨t, rfl⟩ := r; rfl
  | byt _ => obtain ⟨t, rfl⟩ := r; rfl
  | flt _ => obtain ⟨t, rfl⟩ := r; rfl
  | ref _ => cases r; rfl
  | ty _ => cases r; rfl
theorem pc_isN {j pos'} (ha : PE X a ta) : PC X .Is a (.Constant .none j pos') (tIsN ta) := by
  intro pins s σ H Q I h
  refine thn (ha pins s σ H _ I h) fun v s1 ⟨x, H1, I1, r1, q1⟩ => ?_
  exact Constant_none (is_none_gen ⟨.bl _, H1, I1, by rw [r1.none_iff]; rfl, q1⟩)
theorem pc_notN {j pos'} (ha : PE X a ta) : PC X .IsNot a (.Constant .none j pos') (tNotN ta) := by
  intro pins s σ H Q I h
  refine thn (ha pins s σ H _ I h) fun v s1 ⟨x, H1, I1, r1, q1⟩ => ?_
  exact Constant_none (isnot_none_gen ⟨.bl _, H1, I1, by rw [r1.none_iff]; rfl, q1⟩)
/-- a comparison as a value, as a test -/
def tB (t : TE) : TT := fun σ H Q => t σ H fun x H1 => ∃ c, x = .bl c ∧ Q c H1
theorem pe_cmp {op : CmpOp} {t : TE} (h : PC X op a b t) (h1 : behindInMarks op b = false := by first | exact nobehind _ (by decide) (by decide) | rfl) : PE X (.Compare a [op] [b] pos) t := fun pins s σ H Q I hw => wpAny_Compare1 (h pins s σ H Q I hw) h1
theorem pt_cmp {op : CmpOp} {t : TE} (h : PC X op a b t) (h1 : behindInMarks op b = false := by first | exact nobehind _ (by decide) (by decide) | rfl) : PT X (.Compare a [op] [b] pos) (tB t) := by
  intro pins s σ H Q I hw
  refine wpAny_isTrue_Compare1 (thn (h pins s σ H _ I hw) fun v s1 h1 => thn h1 fun u s2 h2 => thn h2 fun c s3 ⟨x, H1, I1, r1, q1⟩ => ?_) h1
  obtain ⟨d, rfl, q⟩ := q1
  cases r1
  exact wpAny_truthy_bool ⟨H1, I1, q⟩
/-- an expression whose value is a bool, as a test -/
theorem pt_val {e : Expr} {t : TE} (h : PE X e t) (he : ∀ whole, isTrue e X.env whole = (do let v ← whole; standAt e.pos; holding [v] (truthy v)) := by intro _; rfl) : PT X e (tB t) := by
  intro pins s σ H Q I hw
  refine isTrue_plain (thn (h pins s σ H _ I hw) fun v s1 ⟨x, H1, I1, r1, q1⟩ => ?_) (he _)
  obtain ⟨d, rfl, q⟩ := q1
  cases r1
  exact wpAny_truthy_bool ⟨H1, I1, q⟩

/-! ### and, or, not -/
variable {tA tB' : TT} {rest : List Expr}
def tAnd (t u : TT) : TT := fun σ H Q => t σ H fun c H1 => if c = true then u σ H1 Q else Q false H1
def tOr (t u : TT) : TT := fun σ H Q => t σ H fun c H1 => if c = true then Q true H1 else u σ H1 Q
def tNot (t : TT) : TT := fun σ H Q => t σ H fun c H1 => Q (!c) H1
theorem pw_and1 (ha : PT X a tA) : PW X (.BoolOp .And [a] pos) tA := by
  intro wh pins s σ H Q I h
  refine isTrue_and (thn (ha pins s σ H Q I h) fun c s1 e => ?_)
  cases c with
  | true => exact isTrue_and_nil e
  | false => exact e
theorem pw_or1 (ha : PT X a tA) : PW X (.BoolOp .Or [a] pos) tA := by
  intro wh pins s σ H Q I h
  refine isTrue_or (thn (ha pins s σ H Q I h) fun c s1 e => ?_)
  cases c with
  | false => exact isTrue_or_nil e
  | true => exact e
theorem pw_and (ha : PT X a tA) (hb : PW X (.BoolOp .And (b :: rest) pos) tB') : PW X (.BoolOp .And (a :: b :: rest) pos) (tAnd tA tB') := by
  intro wh pins s σ H Q I h
  refine isTrue_and (thn (ha pins s σ H _ I h) fun c s1 ⟨H1, I1, q1⟩ => ?_)
  cases c with
  | true => exact hb wh pins s1 σ H1 Q I1 q1
  | false => exact ⟨H1, I1, q1⟩
theorem pw_or (ha : PT X a tA) (hb : PW X (.BoolOp .Or (b :: rest) pos) tB') : PW X (.BoolOp .Or (a :: b :: rest) pos) (tOr tA tB') := by
  intro wh pins s σ H Q I h
  refine isTrue_or (thn (ha pins s σ H _ I h) fun c s1 ⟨H1, I1, q1⟩ => ?_)
  cases c with
  | true => exact ⟨H1, I1, q1⟩
  | false => exact hb wh pins s1 σ H1 Q I1 q1
theorem pt_not (ha : PT X a tA) : PT X (.UnaryOp .Not a pos) (tNot tA) := by
  intro pins s σ H Q I h
  exact isTrue_not (ha pins s σ H (fun c H1 => Q (!c) H1) I h)
/-- .. as values (bools) -/
def tAndV (ta tb : TE) : TE := fun σ H Q => ta σ H fun x H1 => ∃ c, x = .bl c ∧ if c = true then tb σ H1 Q else Q (.bl false) H1
def tOrV (ta tb : TE) : TE := fun σ H Q => ta σ H fun x H1 => ∃ c, x = .bl c ∧ if c = true then Q (.bl true) H1 else tb σ H1 Q
def tNotV (ta : TE) : TE := fun σ H Q => ta σ H fun x H1 => ∃ c, x = .bl c ∧ Q (.bl (!c)) H1
theorem pe_one {op} {t : TE} (h : PE X a t) : PE X (.BoolOp op [a] pos) t := fun pins s σ H Q I hw => BoolOp_one (h pins s σ H Q I hw)
theorem pe_and (ha : PE X a ta) (hb : PE X (.BoolOp .And (b :: rest) pos) tb) : PE X (.BoolOp .And (a :: b :: rest) pos) (tAndV ta tb) := by
  intro pins s σ H Q I h
  refine BoolOp_and (thn (ha pins s σ H _ I h) fun v s1 ⟨x, H1, I1, r1, q1⟩ => ?_)
  obtain ⟨c, rfl, q1⟩ := q1
  cases r1
  refine wpAny_truthy_bool ?_
  cases c with
  | true => exact hb pins s1 σ H1 Q I1 q1
  | false => exact ⟨.bl false, H1, I1, rfl, q1⟩
theorem pe_or (ha : PE X a ta) (hb : PE X (.BoolOp .Or (b :: rest) pos) tb) : PE X (.BoolOp .Or (a :: b :: rest) pos) (tOrV ta tb) := by
  intro pins s σ H Q I h
  refine BoolOp_or (thn (ha pins s σ H _ I h) fun v s1 ⟨x, H1, I1, r1, q1⟩ => ?_)
  obtain ⟨c, rfl, q1⟩ := q1
  cases r1
  refine wpAny_truthy_bool ?_
  cases c with
  | false => exact hb pins s1 σ H1 Q I1 q1
  | true => exact ⟨.bl true, H1, I1, rfl, q1⟩
theorem pe_not (ha : PE X a ta) : PE X (.UnaryOp .Not a pos) (tNotV ta) := by
  intro pins s σ H Q I h
  refine UnaryOp_ (thn (ha pins s σ H _ I h) fun v s1 ⟨x, H1, I1, r1, q1⟩ => ?_)
  obtain ⟨c, rfl, q1⟩ := q1
  cases r1
  exact not_of (wpAny_truthy_bool ⟨.bl (!c), H1, I1, rfl, q1⟩)
/-- a if t else b -/
def tIf (t : TT) (ta tb : TE) : TE := fun σ H Q => t σ H fun c H1 => if c = true then ta σ H1 Q else tb σ H1 Q
theorem pe_ifExp {c : Expr} (hc : PT X c tA) (ha : PE X a ta) (hb : PE X b tb) : PE X (.IfExp c a b pos) (tIf tA ta tb) := by
  intro pins s σ H Q I h
  refine wpAny_IfExp (thn (hc pins s σ H _ I h) fun d s1 ⟨H1, I1, q1⟩ => ?_)
  cases d with
  | true => exact ha pins s1 σ H1 Q I1 q1
  | false => exact hb pins s1 σ H1 Q I1 q1
end
end L2

namespace L2
open PySem PySem.Spec PyProof.Rows

/-! ### a list, a tuple that is read: tracked, frozen, or an object of the module -/
def SqL (K : PySem.W.Frag) (H : Hp) (a : Addr) (xs : List V) : Prop :=
  Rd H a (.lst xs) ∨
    ∃ (o : Obj) (its : Array Value) (n : Nat), K.lookup a = some o ∧ o.cls = .type "list" ∧ o.dict = none ∧ o.data = .seq its n ∧ its.size ≤ sizeLine ∧ Vals xs its.toList
def SqT (K : PySem.W.Frag) (H : Hp) (a : Addr) (xs : List V) : Prop :=
  Rd H a (.tup xs) ∨
    ∃ (o : Obj) (its : Array Value) (n : Nat), K.lookup a = some o ∧ o.cls = .type "tuple" ∧ o.data = .seq its n ∧ its.size ≤ sizeLine ∧ Vals xs its.toList
def absV : Value → Option V
  | .none => some .non
  | .bool b => some (.bl b)
  | .int i _ => some (.int i)
  | .str x _ => some (.str x)
  | .bytes b _ => some (.byt b)
  | .float b _ => some (.flt b)
  | .ref a => some (.ref a)
  | .type n => some (.ty n)
  | _ => none
theorem RelV.abs {x : V} {u : Value} (r : RelV x u) : absV u = some x := by
  cases x with
  | non => cases r; rfl
  | bl _ => cases r; rfl
  | int _ => obtain ⟨t, rfl⟩ := r; rfl
  | str _ => obtain ⟨t, rfl⟩ := r; rfl
  | byt _ => obtain ⟨t, rfl⟩ := r; rfl
  | flt _ => obtain ⟨t, rfl⟩ := r; rfl
  | ref _ => cases r; rfl
  | ty _ => cases r; rfl
theorem RelV.inj {x y : V} {u : Value} (r : RelV x u) (q : RelV y u) : x = y := Option.some.inj (r.abs.symm.trans q.abs)
theorem Vals.inj : ∀ {xs ys : List V} {us : List Value}, Vals xs us → Vals ys us → xs = ys
  | _, _, _, .nil, .nil => rfl
  | _, _, _, .cons r t, .cons r' t' => by rw [r.inj r', Vals.inj t t']
section
variable {X : Cx} {pins : List (Addr × Obj)} {σ : St} {H : Hp} {s : Shared} {a : Addr} {xs ys : List V}
theorem SqL.of {K : PySem.W.Frag} (h : H a = some (.lst xs)) : SqL K H a xs := .inl (.inl h)
theorem SqT.of {K : PySem.W.Frag} (h : H a = some (.tup xs)) : SqT K H a xs := .inl (.inl h)
theorem Inv.list (I : Inv X pins σ H s) (h : SqL X.K H a xs) : ∃ its : List Value, Vals xs its ∧ PlainL s.heap a its.toArray ∧ xs.length ≤ sizeLine := by
  rcases h with h | ⟨o, its, n, hk, hc, hd, hs, hz, r⟩
  · obtain ⟨z, its, n, r, e⟩ := h.ok I.hok
    exact ⟨its, r, ⟨_, n, e, rfl, rfl, rfl⟩, z⟩
  · refine ⟨its.toList, r, ⟨o, n, I.kIn a o hk, hc, hd, by simpa using hs⟩, ?_⟩
    have e := r.length
    simp only [Array.length_toList] at e
    omega
theorem Inv.tuple (I : Inv X pins σ H s) (h : SqT X.K H a xs) : ∃ its : List Value, Vals xs its ∧ IsTup s.heap a its.toArray ∧ xs.length ≤ sizeLine := by
  rcases h with h | ⟨o, its, n, hk, hc, hs, hz, r⟩
  · obtain ⟨z, its, r, p⟩ := h.ok I.hok
    exact ⟨its, r, p, z⟩
  · refine ⟨its.toList, r, ⟨o, I.kIn a o hk, hc, n, by simpa using hs⟩, ?_⟩
    have e := r.length
    simp only [Array.length_toList] at e
    omega
theorem Inv.list_inj (I : Inv X pins σ H s) (h : SqL X.K H a xs) (h' : SqL X.K H a ys) : xs = ys := by
  obtain ⟨its, r, ⟨o, n, e, _, _, d⟩, _⟩ := I.list h
  obtain ⟨its', r', ⟨o', n', e', _, _, d'⟩, _⟩ := I.list h'
  rw [e] at e'; cases e'
  rw [d] at d'
  injection d' with d1 _
  have : its = its' := by simpa using congrArg Array.toList d1
  subst this
  exact r.inj r'
theorem Inv.tuple_inj (I : Inv X pins σ H s) (h : SqT X.K H a xs) (h' : SqT X.K H a ys) : xs = ys := by
  obtain ⟨its, r, ⟨o, e, _, n, d⟩, _⟩ := I.tuple h
  obtain ⟨its', r', ⟨o', e', _, n', d'⟩, _⟩ := I.tuple h'
  rw [e] at e'; cases e'
  rw [d] at d'
  injection d' with d1 _
  have : its = its' := by simpa using congrArg Array.toList d1
  subst this
  exact r.inj r'
end

/-! ### another wish about exceptions -/
abbrev Cx.wish (X : Cx) (E : Value → Shared → Prop) : Cx := { X with xe := E }
/-- no exception leaves -/
abbrev Cx.nox (X : Cx) : Cx := X.wish fun _ _ => False
theorem Cx.Ok.wish {X : Cx} (ok : X.Ok) (E : Value → Shared → Prop) : (X.wish E).Ok :=
  ⟨ok.mod, ok.kind, ok.glob, ok.blt, ok.above, ok.inj, ok.has, ok.cab, ok.hd, ok.frames, ok.stk, ok.exf, ok.bs, ok.bsz, ok.noex, ok.exfs, ok.funs, ok.frf⟩
theorem Cx.Ok.unwish {X : Cx} {E : Value → Shared → Prop} (ok : (X.wish E).Ok) : X.Ok :=
  ⟨ok.mod, ok.kind, ok.glob, ok.blt, ok.above, ok.inj, ok.has, ok.cab, ok.hd, ok.frames, ok.stk, ok.exf, ok.bs, ok.bsz, ok.noex, ok.exfs, ok.funs, ok.frf⟩
section
variable {X : Cx} {pins : List (Addr × Obj)} {σ : St} {H : Hp} {s : Shared} {E : Value → Shared → Prop}
theorem Inv.wish (I : Inv X pins σ H s) (E : Value → Shared → Prop) : Inv (X.wish E) pins σ H s := ⟨I.ok.wish E, I.os, I.bare, I.base, I.loc, I.cell, I.free, I.freeC, I.pin, I.hok, I.len⟩
theorem Inv.unwish (I : Inv (X.wish E) pins σ H s) : Inv X pins σ H s := ⟨I.ok.unwish, I.os, I.bare, I.base, I.loc, I.cell, I.free, I.freeC, I.pin, I.hok, I.len⟩
theorem SP.unwish {D : Ends} {f : Flow} {s' : Shared} (h : SP (X.wish E) pins D f s') : SP X pins D f s' := by
  cases f with
  | next => obtain ⟨σ', H', I, q⟩ := h; exact ⟨σ', H', I.unwish, q⟩
  | brk => obtain ⟨σ', H', I, q⟩ := h; exact ⟨σ', H', I.unwish, q⟩
  | cont => obtain ⟨σ', H', I, q⟩ := h; exact ⟨σ', H', I.unwish, q⟩
  | ret u => obtain ⟨v, σ', H', I, r, q⟩ := h; exact ⟨v, σ', H', I.unwish, r, q⟩
theorem PE.nox {e : Expr} {t : TE} (h : PE X.nox e t) : PE X e t := fun pins s σ H Q I hw =>
  wpAny_mono (h pins s σ H Q (I.wish _) hw) (fun _ _ ⟨v, H', I', r, q⟩ => ⟨v, H', I'.unwish, r, q⟩) fun _ _ z => False.elim z
theorem PT.nox {e : Expr} {t : TT} (h : PT X.nox e t) : PT X e t := fun pins s σ H Q I hw =>
  wpAny_mono (h pins s σ H Q (I.wish _) hw) (fun _ _ ⟨H', I', q⟩ => ⟨H', I'.unwish, q⟩) fun _ _ z => False.elim z
theorem PSs.nox {st : List Stmt} {t : TS} (h : PSs X.nox st t) : PSs X st t := fun pins s σ H D I hw =>
  wpAny_mono (h pins s σ H D (I.wish _) hw) (fun _ _ q => q.unwish) fun _ _ z => False.elim z
end

/-! ### blocks and small statements -/
section
variable {X : Cx} {st : Stmt} {rest : List Stmt} {t u : TS} {e : Expr} {te : TE} {pos : Pos}
def tNext : TS := fun D σ H => D.nx σ H
def tSeq (t u : TS) : TS := fun D σ H => t { D with nx := u D } σ H
theorem pss_nil : PSs X [] tNext := fun _ _ σ H _ I h => wpAny_execs_nil ⟨σ, H, I, h⟩
theorem pss_cons (h1 : PS X st t) (h2 : PSs X rest u) : PSs X (st :: rest) (tSeq t u) := by
  intro pins s σ H D I h
  refine wpAny_execs_cons (thn (h1 pins s σ H { D with nx := u D } I h) fun f s1 q => ?_)
  cases f with
  | next =>
    obtain ⟨σ', H', I', q⟩ := q
    exact h2 pins s1 σ' H' D I' q
  | ret v => exact q
  | brk => exact q
  | cont => exact q
theorem pss_one (h1 : PS X st t) : PSs X [st] t := by
  intro pins s σ H D I h
  refine wpAny_execs_cons (thn (h1 pins s σ H D I h) fun f s1 q => ?_)
  cases f with
  | next => exact wpAny_execs_nil q
  | ret v => exact q
  | brk => exact q
  | cont => exact q
def tBreak : TS := fun D σ H => D.bk σ H
def tCont : TS := fun D σ H => D.ct σ H
theorem ps_pass : PS X (.Pass pos) tNext := fun _ _ σ H _ I h => wpAny_Pass ⟨σ, H, I, h⟩
theorem ps_break : PS X (.Break pos) tBreak := fun _ _ σ H _ I h => wpAny_Break ⟨σ, H, I, h⟩
theorem ps_continue : PS X (.Continue pos) tCont := fun _ _ σ H _ I h => wpAny_Continue ⟨σ, H, I, h⟩
/-- in a def's body nothing is shown -/
theorem Inv.quiet {pins : List (Addr × Obj)} {σ : St} {H : Hp} {s : Shared} (I : Inv X pins σ H s) : interactive X.env = false := by simp [interactive, I.ok.kind]
/-- a docstring -/
theorem ps_doc {x j pos pos'} : PS X (.Expr (.Constant (.str x) j pos) pos') tNext := fun _ s σ H _ I h => wpAny_Expr (Calls.Constant_str (show SP X _ _ .next { s with toks := s.toks + 1 } from ⟨σ, H, I.tok _, h⟩)) I.quiet
/-- an expression whose value is dropped -/
def tDrop (te : TE) : TS := fun D σ H => te σ H fun _ H1 => D.nx σ H1
theorem ps_expr (he : PE X e te) (hs : swapsWith e none pos.line X.env = pure false := by rfl) : PS X (.Expr e pos) (tDrop te) := by
  intro pins s σ H D I h
  exact wpAny_Expr_any (thn (he pins s σ H _ I h) fun v s1 ⟨x, H1, I1, r1, q1⟩ => ⟨σ, H1, I1, q1⟩) I.quiet hs
def tRet (te : TE) : TS := fun D σ H => te σ H D.rt
theorem ps_ret (he : PE X e te) : PS X (.Return (some e) pos) (tRet te) := by
  intro pins s σ H D I h
  exact wpAny_Return_some (thn (he pins s σ H _ I h) fun v s1 ⟨x, H1, I1, r1, q1⟩ => ⟨x, σ, H1, I1, r1, q1⟩)
def tRetN : TS := fun D _ H => D.rt .non H
theorem ps_retN : PS X (.Return none pos) tRetN := fun _ _ σ H _ I h => wpAny_Return_none ⟨.non, σ, H, I, rfl, h⟩
def tIfS (c : TT) (t u : TS) : TS := fun D σ H => c σ H fun b H1 => if b = true then t D σ H1 else u D σ H1
theorem ps_if {c : Expr} {a b : List Stmt} {tc : TT} (hc : PT X c tc) (ha : PSs X a t) (hb : PSs X b u) : PS X (.If c a b pos) (tIfS tc t u) := by
  intro pins s σ H D I h
  refine wpAny_If (thn (hc pins s σ H _ I h) fun d s1 ⟨H1, I1, q1⟩ => ?_)
  cases d with
  | true => exact ha pins s1 σ H1 D I1 q1
  | false => exact hb pins s1 σ H1 D I1 q1
/-- code that the proof never comes to -/
def tNever : TS := fun _ _ _ => False
theorem ps_never : PS X st tNever := fun _ _ _ _ _ _ h => h.elim
theorem pss_never {sts : List Stmt} : PSs X sts tNever := fun _ _ _ _ _ _ h => h.elim
end

/-! ### targets -/
abbrev TG := V → St → Hp → (St → Hp → Prop) → Prop
abbrev TGs := List V → St → Hp → (St → Hp → Prop) → Prop
def PG (X : Cx) (target : Expr) (t : TG) : Prop :=
  ∀ (pins : List (Addr × Obj)) (s : Shared) (σ : St) (H : Hp) (v : V) (u : Value) (Q : St → Hp → Prop), Inv X pins σ H s → RelV v u → t v σ H Q →
    wpAny (model X.prog X.w) X.A (assign target X.env u) (fun _ s' => ∃ σ' H', Inv X pins σ' H' s' ∧ Q σ' H') X.xe s
/-- several targets, one after another -/
def PGs (X : Cx) (ts : List Expr) (t : TGs) : Prop :=
  ∀ (pins : List (Addr × Obj)) (s : Shared) (σ : St) (H : Hp) (vs : List V) (us : List Value) (Q : St → Hp → Prop), Inv X pins σ H s → Vals vs us → t vs σ H Q →
    wpAny (model X.prog X.w) X.A (assignInOrder ((assignEach ts X.env).map (·.2)) us) (fun _ s' => ∃ σ' H', Inv X pins σ' H' s' ∧ Q σ' H') X.xe s
/-- o[i] = v, by values -/
abbrev TSet := V → V → V → Hp → (Hp → Prop) → Prop
def PSet (X : Cx) (t : TSet) : Prop :=
  ∀ (pins : List (Addr × Obj)) (s : Shared) (σ : St) (H : Hp) (o i v : V) (ov iv u : Value) (Q : Hp → Prop), Inv X pins σ H s → RelV o ov → RelV i iv → RelV v u → t o i v H Q →
    wpAny (model X.prog X.w) X.A (setItem ov iv u) (fun _ s' => ∃ H', Inv X pins σ H' s' ∧ Q H') X.xe s
/-- a op= b, by values -/
abbrev TIp := V → V → Hp → VK → Prop
def PIp (X : Cx) (op : Operator) (t : TIp) : Prop :=
  ∀ (pins : List (Addr × Obj)) (s : Shared) (σ : St) (H : Hp) (x y : V) (v u : Value) (Q : VK), Inv X pins σ H s → RelV x v → RelV y u → t x y H Q →
    wpAny (model X.prog X.w) X.A (inplaceOp op v u) (EP X pins σ Q) X.xe s
section
variable {X : Cx} {pos : Pos}
def gName (i : Nat) : TG := fun v σ H Q => Q (σ.set i (some v)) H
theorem pg_name {i : Nat} {x : Str} (hN : X.N.Nodup) (hi : X.N[i]? = some x) (hx : Loc X.env.scope x) (hf : X.fn x = true ∨ X.env.scope.names.lookup x = some .local := by first | exact .inl rfl | exact .inr rfl | assumption) : PG X (.Name x pos) (gName i) := by
  intro pins s σ H v u Q I r h
  exact wpAny_assign_Name (store_ok I hN hi hx r (fun s' I' => ⟨_, H, I', h⟩) hf)
def gNil : TGs := fun vs σ H Q => vs = [] ∧ Q σ H
def gCons (t : TG) (u : TGs) : TGs := fun vs σ H Q => ∃ v r, vs = v :: r ∧ t v σ H fun σ' H' => u r σ' H' Q
theorem pgs_nil : PGs X [] gNil := by
  intro pins s σ H vs us Q I r h
  obtain ⟨e, h⟩ := h
  subst e
  cases r
  exact assignInOrder_nil ⟨σ, H, I, h⟩
theorem pgs_cons {e : Expr} {es : List Expr} {t : TG} {u : TGs} (h1 : PG X e t) (h2 : PGs X es u)
    (hs : (assignEach (e :: es) X.env).map (·.2) = assign e X.env :: (assignEach es X.env).map (·.2) := by rfl) : PGs X (e :: es) (gCons t u) := by
  intro pins s σ H vs us Q I r h
  obtain ⟨v, vr, e1, h⟩ := h
  subst e1
  cases r with
  | cons r rr =>
    rw [hs]
    refine assignInOrder_cons (thn (h1 pins s σ H _ _ _ I r h) fun _ s1 ⟨σ1, H1, I1, q1⟩ => ?_)
    exact h2 pins s1 σ1 H1 _ _ Q I1 rr q1
/-- (a, b, ..) = a tuple of that length -/
def gTup (K : PySem.W.Frag) (n : Nat) (t : TGs) : TG := fun v σ H Q => ∃ a xs, v = .ref a ∧ SqT K H a xs ∧ xs.length = n ∧ t xs σ H Q
theorem pg_tup {es : List Expr} {k : Nat} {t : TGs} {n : Nat} (hc : X.calm = true) (h : PGs X es t)
    (hn : (assignEach es X.env).length = n := by rfl) (hst : (assignEach es X.env).findIdx? (·.1) = none := by rfl) : PG X (.Tuple es k pos) (gTup X.K n t) := by
  intro pins s σ H v u Q I r hw
  obtain ⟨a, xs, e1, hq, hl, hw⟩ := hw
  subst e1
  cases r
  obtain ⟨its, rv, ht, hz⟩ := I.tuple hq
  refine assign_Tuple_tuple (I.ok.hd hc) ht (by simp [hn, ← hl, rv.length]) hst fun h' hx => ?_
  have I1 : Inv X pins σ H { s with heap := h' } := I.kept (t' := s.toks) fun b o e => hx b o (Nat.ne_of_lt (Heap.lt_size e)) e
  exact h pins _ σ H xs _ Q I1 (by simpa using rv) hw
/-- o[i] = .. -/
def gSub (to ti : TE) (t : TSet) : TG := fun v σ H Q => to σ H fun o H1 => ti σ H1 fun i H2 => t o i v H2 fun H3 => Q σ H3
theorem pg_sub {o i : Expr} {to ti : TE} {t : TSet} (ho : PE X o to) (hi : PE X i ti) (hs : PSet X t)
    (ha : ∀ v, assign (.Subscript o i pos) X.env v = (do
      let ov ← holding [v] (eval o X.env)
      let iv ← holding [v, ov] (eval i X.env)
      standAt pos
      holding [v, ov, iv] (setItem ov iv v)
      release [v, ov, iv] []) := by intro _; rfl) : PG X (.Subscript o i pos) (gSub to ti t) := by
  intro pins s σ H v u Q I r h
  rw [ha]
  refine wpAny_bind (wpAny_holding (thn (ho pins s σ H _ I h) fun ov s1 ⟨x, H1, I1, r1, q1⟩ => ?_))
  refine wpAny_bind (wpAny_holding (thn (hi pins s1 σ H1 _ I1 q1) fun iv s2 ⟨y, H2, I2, r2, q2⟩ => ?_))
  refine wpAny_bind (wpAny_standAt (wpAny_bind (wpAny_holding (thn (hs pins s2 σ H2 x y v ov iv u _ I2 r1 r2 r q2) fun _ s3 ⟨H3, I3, q3⟩ => ?_))))
  exact wpAny_release ⟨σ, H3, I3, q3⟩
/-- target = value -/
def tAsg (te : TE) (g : TG) : TS := fun D σ H => te σ H fun x H1 => g x σ H1 D.nx
theorem ps_asg {tg e : Expr} {te : TE} {g : TG} (he : PE X e te) (hg : PG X tg g) (hs : swapsWithSole [tg] e pos.line X.env = pure false := by rfl) (hw : swappedStores [tg] e X.env = pure none := by rfl)
    (h1 : (assignEach [tg] X.env).map (·.2) = [assign tg X.env] := by rfl) : PS X (.Assign [tg] e pos) (tAsg te g) := by
  intro pins s σ H D I h
  refine wpAny_Assign_stores (thn (he pins s σ H _ I h) fun v s1 ⟨x, H1, I1, r1, q1⟩ => ?_) hs hw
  rw [h1]
  exact thn (hg pins s1 σ H1 x v _ I1 r1 q1) fun _ s2 q => q
/-- name = value -/
theorem ps_set {i : Nat} {x : Str} {e : Expr} {te : TE} {pos' : Pos} (hN : X.N.Nodup) (hi : X.N[i]? = some x) (hx : Loc X.env.scope x) (he : PE X e te) (hs : swapsWith e (some (.Name x pos')) pos.line X.env = pure false := by rfl) (hf : X.fn x = true ∨ X.env.scope.names.lookup x = some .local := by first | exact .inl rfl | exact .inr rfl | assumption) :
    PS X (.Assign [.Name x pos'] e pos) (tAsg te (gName i)) := by
  intro pins s σ H D I h
  refine wpAny_Assign_Name (thn (he pins s σ H _ I h) fun v s1 ⟨y, H1, I1, r1, q1⟩ => ?_) hs
  exact store_ok I1 hN hi hx r1 (fun s2 I2 => ⟨_, H1, I2, q1⟩) hf
/-- a, b = x, y with plain local names: stored from the right; the pair itself is not tracked (the opening rows as in PyProof/Rows/TupAssign.lean:23) -/
def tPar (i j : Nat) (ta : TA) : TS := fun D σ H => ta σ H fun vs H1 => ∃ v w, vs = [v, w] ∧ D.nx ((σ.set i (some v)).set j (some w)) H1
theorem ps_par {i j : Nat} {x y : Str} {a b : Expr} {ta : TA} {px py pt : Pos} {kt k2 pt2} (hc : X.calm = true) (hN : X.N.Nodup) (hi : X.N[i]? = some x) (hj : X.N[j]? = some y) (hij : i ≠ j)
    (hx : X.env.scope.names.lookup x = some .local) (hy : X.env.scope.names.lookup y = some .local) (ha : PA X [a, b] ta)
    (hw : swappedStores [.Tuple [.Name x px, .Name y py] kt pt] (.Tuple [a, b] k2 pt2) X.env = pure (some [x, y]))
    (hs : swapsWithSole [.Tuple [.Name x px, .Name y py] kt pt] (.Tuple [a, b] k2 pt2) pos.line X.env = pure false := by rfl) :
    PS X (.Assign [.Tuple [.Name x px, .Name y py] kt pt] (.Tuple [a, b] k2 pt2) pos) (tPar i j ta) := by
  intro pins s σ H D I h
  rw [exec_Assign_arm]
  refine wpAny_bind (wpAny_standAt ?_)
  rw [hs]
  refine wpAny_bind (wpAny_pure ?_)
  rw [if_neg (by decide)]
  refine wpAny_bind (Tuple_ (thn (ha _ pins s σ H _ I h) fun us s1 ⟨vs, H1, I1, r1, q1⟩ => ?_))
  obtain ⟨v, w, e1, q1⟩ := q1
  subst e1
  obtain ⟨u1, u2, rfl, rv, rw'⟩ : ∃ u1 u2, us = [u1, u2] ∧ RelV v u1 ∧ RelV w u2 := by
    cases r1 with
    | cons p q =>
      cases q with
      | cons p' q' =>
        cases q'
        exact ⟨_, _, rfl, p, p'⟩
  refine wpAny_newObj_type ?_ (by show 2 ≤ sizeLine; decide)
  have I2 : Inv X pins σ H1 { s1 with heap := s1.heap.push { cls := .type "tuple", data := .seq [u1, u2].toArray } } := I1.kept (t' := s1.toks) fun b o e => Heap.get?_push_of_some _ e
  rw [hw]
  refine wpAny_bind (wpAny_pure ?_)
  show wpAny (model X.prog X.w) X.A (do rule "assign.swapped-stores"; let items ← unpackItems (.ref s1.heap.objs.size) 2 none; assignInOrder [fun v => bindName X.env y v, fun v => bindName X.env x v] items.reverse; pure Flow.next) _ _ _
  refine wpAny_bind (wpAny_rule (wpAny_bind (unpackItems_tuple (items := #[u1, u2]) (I.ok.hd hc) (IsTup.new s1.heap _) fun h' hx' => ?_)))
  have I3 := I2.kept (h' := h') (t' := s1.toks) fun b o e => hx' b o (Nat.ne_of_lt (Heap.lt_size e)) e
  show wpAny _ _ (assignInOrder [fun v => bindName X.env y v, fun v => bindName X.env x v] [u2, u1] >>= fun _ => pure Flow.next) _ _ _
  refine wpAny_bind (assignInOrder_cons (wpAny_bindName (store_ok I3 hN hj (.inl hy) rw' (fun s2 I4 => ?_) (.inr hy))))
  refine assignInOrder_cons (wpAny_bindName (store_ok I4 hN hi (.inl hx) rv (fun s3 I5 => assignInOrder_nil (wpAny_pure ?_)) (.inr hx)))
  rw [List.set_comm _ _ (Ne.symm hij)] at I5
  exact ⟨_, H1, I5, q1⟩
/-- name op= e -/
def tAug (i : Nat) (te : TE) (ti : TIp) : TS := fun D σ H => ∃ x, σ[i]? = some (some x) ∧ te σ H fun y H1 => ti x y H1 fun z H2 => D.nx (σ.set i (some z)) H2
theorem ps_aug {i : Nat} {x : Str} {e : Expr} {te : TE} {op : Operator} {ti : TIp} {pos' : Pos} (hN : X.N.Nodup) (hi : X.N[i]? = some x) (hx : Loc X.env.scope x) (he : PE X e te) (ho : PIp X op ti) (hf : X.fn x = true ∨ X.env.scope.names.lookup x = some .local := by first | exact .inl rfl | exact .inr rfl | assumption) :
    PS X (.AugAssign (.Name x pos') op e pos) (tAug i te ti) := by
  intro pins s σ H D I h
  obtain ⟨v, e1, h⟩ := h
  obtain ⟨m, hn, hl⟩ := I.loc
  have vis : Vis X.env.scope x := by rcases hx with k | k; exact .inl k; exact .inr (.inl k)
  obtain ⟨u, r, l⟩ := hl i x v hi e1 vis
  refine wpAny_AugAssign_Name ?_
  have go : wpAny (model X.prog X.w) X.A (eval e X.env) (fun w s₂ => wpAny (model X.prog X.w) X.A (inplaceOp op u w) (fun r s₃ => wpAny (model X.prog X.w) X.A (storeName X.env x r) (fun _ => SP X pins D .next) X.xe s₃) X.xe s₂) X.xe s := by
    refine thn (he pins s σ H _ I h) fun w s1 ⟨y, H1, I1, r1, q1⟩ => ?_
    refine thn (ho pins s1 σ H1 v y u w _ I1 r r1 q1) fun z s2 ⟨zv, H2, I2, r2, q2⟩ => ?_
    exact store_ok I2 hN hi hx r2 (fun s3 I3 => ⟨_, H2, I3, q2⟩) hf
  rcases l with ⟨hk, hm⟩ | ⟨hk, c, hc, hcell⟩
  · exact wpAny_loadName_local I.ok.kind hk hn hm go
  · rcases hk with hk | hk
    · exact wpAny_loadName_cell I.ok.kind hk hc hcell go
    · rcases hx with k | k
      · have : X.env.scope.names.lookup x = some .free := hk
        rw [k] at this; cases this
      · have : X.env.scope.names.lookup x = some .free := hk
        rw [k] at this; cases this
/-- o[i] op= e -/
def tAugS (to ti te : TE) (tget : V → V → Hp → VK → Prop) (tip : TIp) (tset : TSet) : TS := fun D σ H => to σ H fun o H1 => ti σ H1 fun i H2 => tget o i H2 fun x H3 => te σ H3 fun y H4 => tip x y H4 fun z H5 => tset o i z H5 fun H6 => D.nx σ H6
/-- o[i], by values -/
def PGet (X : Cx) (t : V → V → Hp → VK → Prop) : Prop :=
  ∀ (pins : List (Addr × Obj)) (s : Shared) (σ : St) (H : Hp) (o i : V) (ov iv : Value) (Q : VK), Inv X pins σ H s → RelV o ov → RelV i iv → t o i H Q →
    wpAny (model X.prog X.w) X.A (getItem ov iv) (EP X pins σ Q) X.xe s
theorem ps_augS {o i e : Expr} {to ti te : TE} {tget : V → V → Hp → VK → Prop} {tip : TIp} {tset : TSet} {op : Operator} {tpos : Pos} (ho : PE X o to) (hi : PE X i ti) (hg : PGet X tget) (he : PE X e te) (hp : PIp X op tip) (hs : PSet X tset)
    (ha : ∀ ov iv new, augStore i ov iv new = (do holding [new, ov, iv] (setItem ov iv new); release [new, ov, iv] []; pure .next) := by intros; rfl) : PS X (.AugAssign (.Subscript o i tpos) op e pos) (tAugS to ti te tget tip tset) := by
  intro pins s σ H D I h
  refine wpAny_AugAssign_SubscriptAny (thn (ho pins s σ H _ I h) fun ov s1 ⟨x1, H1, I1, r1, q1⟩ => ?_) ha
  refine thn (hi pins s1 σ H1 _ I1 q1) fun iv s2 ⟨x2, H2, I2, r2, q2⟩ => ?_
  refine thn (hg pins s2 σ H2 x1 x2 ov iv _ I2 r1 r2 q2) fun old s3 ⟨x3, H3, I3, r3, q3⟩ => ?_
  refine thn (he pins s3 σ H3 _ I3 q3) fun v s4 ⟨x4, H4, I4, r4, q4⟩ => ?_
  refine thn (hp pins s4 σ H4 x3 x4 old v _ I4 r3 r4 q4) fun new s5 ⟨x5, H5, I5, r5, q5⟩ => ?_
  exact thn (hs pins s5 σ H5 x1 x2 x5 ov iv new _ I5 r1 r2 r5 q5) fun _ s6 ⟨H6, I6, q6⟩ => ⟨σ, H6, I6, q6⟩
/-- ints -/
def ipI (f : Int → Int → Int) : TIp := fun x y H Q => ∃ i j, x = .int i ∧ y = .int j ∧ Q (.int (f i j)) H
theorem ip_add : PIp X .Add (ipI fun i j => i + j) := by
  intro pins s σ H x y v u Q I r1 r2 h
  obtain ⟨i, j, e1, e2, q⟩ := h
  subst e1; subst e2
  obtain ⟨t, rfl⟩ := r1
  obtain ⟨t', rfl⟩ := r2
  exact iadd_int ⟨.int _, H, I.tok _, ⟨_, rfl⟩, q⟩
theorem ip_sub : PIp X .Sub (ipI fun i j => i - j) := by
  intro pins s σ H x y v u Q I r1 r2 h
  obtain ⟨i, j, e1, e2, q⟩ := h
  subst e1; subst e2
  obtain ⟨t, rfl⟩ := r1
  obtain ⟨t', rfl⟩ := r2
  exact isub_int ⟨.int _, H, I.tok _, ⟨_, rfl⟩, q⟩
end

/-! ### while -/
section
variable {X : Cx} {pos : Pos}
/-- the invariant W with its measure -/
def tWhile (c : TT) (tb : TS) : TS := fun D σ H => ∃ W : Nat → St → Hp → Prop, (∃ m, W m σ H) ∧ ∀ m σ H, W m σ H →
  c σ H fun b H1 => if b = true then ∃ N : St → Hp → Prop, (∀ σ' H', N σ' H' → ∃ m', m' < m ∧ W m' σ' H') ∧ tb { D with nx := N, ct := N, bk := D.nx } σ H1 else D.nx σ H1
theorem ps_while {c : Expr} {body : List Stmt} {tc : TT} {tb : TS} (hp : PassesOwn (model X.prog X.w) X.A X.env X.xe) (hc : PT X c tc) (hb : PSs X body tb) : PS X (.While c body [] pos) (tWhile tc tb) := by
  intro pins s σ H D I h
  obtain ⟨W, ⟨m0, w0⟩, turn⟩ := h
  refine wpAny_While (codeAny_whileLoop (fun n s' => ∃ σ' H', Inv X pins σ' H' s' ∧ W n σ' H') ?_ m0 ⟨σ, H, I, w0⟩)
  rintro n s1 ⟨σ1, H1, I1, w1⟩
  refine wpAny_passesOwn hp (thn (hc pins s1 σ1 H1 _ I1 (turn n σ1 H1 w1)) fun b s2 ⟨H2, I2, q2⟩ => ?_)
  cases b with
  | true =>
    obtain ⟨N, hN, q2⟩ := q2
    rw [if_pos rfl]
    refine wpAny_passesOwn hp (thn (hb pins s2 σ1 H2 _ I2 q2) fun f s3 q3 => ?_)
    cases f with
    | next =>
      obtain ⟨σ3, H3, I3, n3⟩ := q3
      obtain ⟨m', hm, w3⟩ := hN σ3 H3 n3
      exact ⟨m', hm, σ3, H3, I3, w3⟩
    | cont =>
      obtain ⟨σ3, H3, I3, n3⟩ := q3
      obtain ⟨m', hm, w3⟩ := hN σ3 H3 n3
      exact ⟨m', hm, σ3, H3, I3, w3⟩
    | brk => exact q3
    | ret v => exact q3
  | false =>
    rw [if_neg Bool.false_ne_true]
    exact wpAny_execs_nil ⟨σ1, H2, I2, q2⟩
end

/-! ### what a loop or a comprehension walks -/
/-- at turn i: it yields x (the heap may grow), or it stops -/
structure It where
  go : Nat → Hp → Prop
  yld : Nat → Hp → V → Hp → Prop
  stop : Nat → Hp → Prop
/-- the iterator's own objects may turn: they are not the frame's, not pinned, younger than the entry (or a comprehension's own) -/
def FpOk (X : Cx) (pins : List (Addr × Obj)) (H : Hp) (b : Addr) : Prop :=
  H b = none ∧ b ≠ X.env.locals ∧ b ∉ X.fs ∧ (b ∈ X.ex ∨ X.s₀.heap.objs.size ≤ b) ∧ (∀ x c, X.env.cells.lookup x = some c → c ≠ b) ∧ ∀ p ∈ X.pn ++ pins, p.1 ≠ b
theorem Inv.fpOk {X : Cx} {pins : List (Addr × Obj)} {σ : St} {H H' : Hp} {s : Shared} {b : Addr} (I : Inv X pins σ H s) (hb : s.heap.objs.size ≤ b) (hn : H' b = none) : FpOk X pins H' b := by
  refine ⟨hn, Nat.ne_of_gt (Nat.lt_of_lt_of_le I.lt hb), I.nofs hb, .inr (Nat.le_trans I.sz hb), fun x c e z => ?_, fun p hp z => ?_⟩
  · obtain ⟨v, q⟩ := I.cell x c e
    exact absurd (Nat.lt_of_lt_of_le q.lt (by rw [z]; exact hb)) (Nat.lt_irrefl _)
  · exact absurd (Nat.lt_of_lt_of_le (Heap.lt_size (I.pin p hp).1) (by rw [z]; exact hb)) (Nat.lt_irrefl _)
structure Turn (P : Program) (w : World) (K : PySem.W.Frag) (tg : Expr) (J : It) (fp : List Addr) (it : Addr) (tn : Nat → Heap → Prop) : Prop where
  mem : it ∈ fp
  obj : ∀ i h, tn i h → ∀ b ∈ fp, ∃ o, h.get? b = some o ∧ ∀ v, o.data ≠ .cell v
  keep : ∀ i h h', tn i h → (∀ b ∈ fp, ∀ o, h.get? b = some o → h'.get? b = some o) → tn i h'
  item : ∀ (X : Cx), X.prog = P → X.w = w → X.K = K → X.calm = true → ∀ (i : Nat) (pins : List (Addr × Obj)) (s : Shared) (σ : St) (H : Hp) (E : Value → Shared → Prop), Inv X pins σ H s → (∀ b ∈ fp, FpOk X pins H b) → tn i s.heap → J.go i H →
    wpAny (model P w) X.A (pyNext (.ref it)) (fun r s1 => ∃ u, r = some u ∧
      wpAny (model P w) X.A (letOwnedTupleGo tg (.ref it) u) (fun _ s2 => ∃ x H', Inv X pins σ H' s2 ∧ RelV x u ∧ J.yld i H x H' ∧ tn (i + 1) s2.heap ∧ ∀ b ∈ fp, H' b = none) E s1) E s
  done : ∀ (X : Cx), X.prog = P → X.w = w → X.K = K → X.calm = true → ∀ (i : Nat) (pins : List (Addr × Obj)) (s : Shared) (σ : St) (H : Hp) (E : Value → Shared → Prop), Inv X pins σ H s → (∀ b ∈ fp, FpOk X pins H b) → tn i s.heap → J.stop i H →
    wpAny (model P w) X.A (pyNext (.ref it)) (fun r s1 => r = none ∧ Inv X pins σ H s1) E s
  self : ∀ (A : Around) (i : Nat) (s : Shared) (Q : Value → Shared → Prop) (E : Value → Shared → Prop), tn i s.heap → Q (.ref it) s → wpAny (model P w) A (pyIter (.ref it)) Q E s
abbrev TI := St → Hp → (It → Hp → Prop) → Prop
/-- an iterator has come -/
def PIE (X : Cx) (pins : List (Addr × Obj)) (σ : St) (tg : Expr) (R : It → Hp → Prop) (itv : Value) (s2 : Shared) : Prop :=
  ∃ (it : Addr) (fp : List Addr) (tn : Nat → Heap → Prop) (J : It) (H' : Hp), itv = .ref it ∧ Inv X pins σ H' s2 ∧ Turn X.prog X.w X.K tg J fp it tn ∧ tn 0 s2.heap ∧ (∀ b ∈ fp, FpOk X pins H' b) ∧ R J H'
def PI (X : Cx) (tg iter : Expr) (wi : TI) : Prop :=
  ∀ (pins : List (Addr × Obj)) (s : Shared) (σ : St) (H : Hp) (R : It → Hp → Prop), Inv X pins σ H s → wi σ H R →
    wpAny (model X.prog X.w) X.A (eval iter X.env) (fun v s1 => wpAny (model X.prog X.w) X.A (pyIter v) (PIE X pins σ tg R) X.xe s1) X.xe s

/-- the step ahead of the store is nothing for an iterator that keeps no tuple -/
theorem go_of {M : Model} {A : Around} {E : Value → Shared → Prop} {s : Shared} {tg : Expr} {it : Addr} {u : Value} {o : Obj} {n : String} {vs : Array Value} {Q : Unit → Shared → Prop} (ho : s.heap.get? it = some o) (hc : o.cls = .type n) (hd : o.data = .fields vs)
    (hn : ["enumerate", "zip", "dict_itemiterator", "dict_reverseitemiterator", "odict_iterator", "itertools.zip_longest", "itertools.pairwise"].contains n = false) (hQ : Q () s) : wpAny M A (letOwnedTupleGo tg (.ref it) u) Q E s := by
  unfold letOwnedTupleGo
  cases tg <;> first
    | exact wpAny_pure hQ
    | (cases u <;> first
        | exact wpAny_pure hQ
        | (refine wpAny_bind (wpAny_load ho ?_)
           rw [hc, hd]
           show wpAny M A (if (["enumerate", "zip", "dict_itemiterator", "dict_reverseitemiterator", "odict_iterator", "itertools.zip_longest", "itertools.pairwise"].contains n && vs[0]? == some (rawInt _)) = true then _ else _) Q E s
           rw [if_neg (by intro h; rw [hn, Bool.false_and] at h; cases h)]
           exact wpAny_pure hQ))

/-- the list at a, as it stands at each turn (a loop may append to it) -/
def Itl (K : PySem.W.Frag) (a : Addr) : It :=
  ⟨fun i H => ∃ xs x, SqL K H a xs ∧ xs[i]? = some x, fun i H x H' => H' = H ∧ ∀ xs, SqL K H a xs → xs[i]? = some x, fun i H => ∃ xs, SqL K H a xs ∧ xs.length ≤ i⟩
def Itt (K : PySem.W.Frag) (a : Addr) : It :=
  ⟨fun i H => ∃ xs x, SqT K H a xs ∧ xs[i]? = some x, fun i H x H' => H' = H ∧ ∀ xs, SqT K H a xs → xs[i]? = some x, fun i H => ∃ xs, SqT K H a xs ∧ xs.length ≤ i⟩
/-- lo, lo + 1, .. (n of them) -/
def Itr (lo : Int) (n : Nat) : It := ⟨fun i _ => i < n, fun i H x H' => H' = H ∧ x = .int (lo + i), fun i _ => n ≤ i⟩
theorem turn_list {P : Program} {w : World} {K : PySem.W.Frag} {tg : Expr} (a it : Addr) : Turn P w K tg (Itl K a) [it] it (fun i h => h.IsListIter it a i) where
  mem := by simp
  obj := fun i h st b hb => by
    have e : b = it := by simpa using hb
    subst e
    obtain ⟨o, e, c, d⟩ := st
    exact ⟨o, e, fun v z => by rw [d] at z; cases z⟩
  keep := fun i h h' st k => st.at fun o e => k it (by simp) o e
  item := by
    intro X hP hw hK hc i pins s σ H E I hf st hg
    subst hP hw hK
    obtain ⟨xs, x, hq, hx⟩ := hg
    obtain ⟨its, rv, p, hz⟩ := I.list hq
    obtain ⟨u, hu, ru⟩ := rv.get hx
    obtain ⟨f0, f1, f2, f3, f4, f5⟩ := hf it (by simp)
    refine wpAny_pyNext_list_item st p.isList (x := u) (by simpa using hu) fun h' st' sb => ?_
    have I1 : Inv X pins σ H { s with heap := h' } := I.turned (t' := s.toks) (fun b o hb e => (sb.2 b hb).trans e) f0 f1 f3 f4 f5
    obtain ⟨o, e, c, d⟩ := id st'
    exact ⟨u, rfl, go_of (s := { s with heap := h' }) e c d (by decide) ⟨x, H, I1, ru, ⟨rfl, fun ys hy => by rw [I.list_inj hy hq]; exact hx⟩, st', fun b hb => (hf b hb).1⟩⟩
  done := by
    intro X hP hw hK hc i pins s σ H E I hf st hg
    subst hP hw hK
    obtain ⟨xs, hq, hx⟩ := hg
    obtain ⟨its, rv, p, hz⟩ := I.list hq
    obtain ⟨f0, f1, f2, f3, f4, f5⟩ := hf it (by simp)
    have hl := rv.length
    exact wpAny_pyNext_list_end (I.ok.hd hc) st p.isList (by simp; omega) fun h' eb => ⟨rfl, I.turned (t' := s.toks) (fun b o hb e => eb b o hb e) f0 f1 f3 f4 f5⟩
  self := fun _ _ _ _ _ st h => wpAny_pyIter_listiter st h
theorem turn_tuple {P : Program} {w : World} {K : PySem.W.Frag} {tg : Expr} (a it : Addr) : Turn P w K tg (Itt K a) [it] it (fun i h => h.IsTupleIter it a i) where
  mem := by simp
  obj := fun i h st b hb => by
    have e : b = it := by simpa using hb
    subst e
    obtain ⟨o, e, c, d⟩ := st
    exact ⟨o, e, fun v z => by rw [d] at z; cases z⟩
  keep := fun i h h' st k => st.at fun o e => k it (by simp) o e
  item := by
    intro X hP hw hK hc i pins s σ H E I hf st hg
    subst hP hw hK
    obtain ⟨xs, x, hq, hx⟩ := hg
    obtain ⟨its, rv, p, hz⟩ := I.tuple hq
    obtain ⟨u, hu, ru⟩ := rv.get hx
    obtain ⟨f0, f1, f2, f3, f4, f5⟩ := hf it (by simp)
    refine wpAny_pyNext_tuple_item st (show s.heap.IsTuple a its.toArray from p) (x := u) (by simpa using hu) fun h' st' sb => ?_
    have I1 : Inv X pins σ H { s with heap := h' } := I.turned (t' := s.toks) (fun b o hb e => (sb.2 b hb).trans e) f0 f1 f3 f4 f5
    obtain ⟨o, e, c, d⟩ := id st'
    exact ⟨u, rfl, go_of (s := { s with heap := h' }) e c d (by decide) ⟨x, H, I1, ru, ⟨rfl, fun ys hy => by rw [I.tuple_inj hy hq]; exact hx⟩, st', fun b hb => (hf b hb).1⟩⟩
  done := by
    intro X hP hw hK hc i pins s σ H E I hf st hg
    subst hP hw hK
    obtain ⟨xs, hq, hx⟩ := hg
    obtain ⟨its, rv, p, hz⟩ := I.tuple hq
    obtain ⟨f0, f1, f2, f3, f4, f5⟩ := hf it (by simp)
    have hl := rv.length
    exact wpAny_pyNext_tuple_end (I.ok.hd hc) st (show s.heap.IsTuple a its.toArray from p) (by simp; omega) fun h' eb => ⟨rfl, I.turned (t' := s.toks) (fun b o hb e => eb b o hb e) f0 f1 f3 f4 f5⟩
  self := fun _ _ _ _ _ st h => wpAny_pyIter_tupleiter st h
theorem turn_range {P : Program} {w : World} {K : PySem.W.Frag} {tg : Expr} (it : Addr) (lo : Int) (n : Nat) : Turn P w K tg (Itr lo n) [it] it (fun i h => IsRangeIter h it (lo + (i : Nat) * 1) ((n : Int) - (i : Nat)) 1) where
  mem := by simp
  obj := fun i h st b hb => by
    have e : b = it := by simpa using hb
    subst e
    exact ⟨_, st, fun v z => by
      have z' : Data.fields _ = Data.cell v := z
      cases z'⟩
  keep := fun i h h' st k => k it (by simp) _ st
  item := by
    intro X hP hw hK hc i pins s σ H E I hf st hg
    subst hP hw hK
    obtain ⟨f0, f1, f2, f3, f4, f5⟩ := hf it (by simp)
    have W := Walks.range (prog := X.prog) (w := X.w) (I.ok.hd hc) it lo 1 n
    refine W.item i s _ _ hg st fun v h' tk hv st' kk => ?_
    obtain ⟨t, rfl⟩ := hv
    have I1 : Inv X pins σ H { s with heap := h', toks := tk } := I.turned (fun b o hb e => kk b o (by simpa using hb) e) f0 f1 f3 f4 f5
    refine ⟨_, rfl, go_of (s := { s with heap := h', toks := tk }) (n := "range_iterator") st' rfl rfl (by decide) ⟨.int (lo + i), H, I1, ⟨t, ?_⟩, ⟨rfl, rfl⟩, st', fun b hb => (hf b hb).1⟩⟩
    rw [Int.mul_one]
  done := by
    intro X hP hw hK hc i pins s σ H E I hf st hg
    subst hP hw hK
    obtain ⟨f0, f1, f2, f3, f4, f5⟩ := hf it (by simp)
    exact wpAny_pyNext_range_end (I.ok.hd hc) st (by have : n ≤ i := hg; omega) fun h' eb => ⟨rfl, I.turned (t' := s.toks) (fun b o hb e => eb b o hb e) f0 f1 f3 f4 f5⟩
  self := fun _ _ _ _ _ st h => wpAny_pyIter_rangeiter st h
end L2

namespace L2
open PySem PySem.Spec PyProof.Rows
section
variable {X : Cx} {tg : Expr}
def iList (K : PySem.W.Frag) (tl : TE) : TI := fun σ H R => tl σ H fun x H1 => ∃ a, x = .ref a ∧ (∃ xs, SqL K H1 a xs) ∧ R (Itl K a) H1
def iTup (K : PySem.W.Frag) (tl : TE) : TI := fun σ H R => tl σ H fun x H1 => ∃ a, x = .ref a ∧ (∃ xs, SqT K H1 a xs) ∧ R (Itt K a) H1
theorem pi_list {l : Expr} {tl : TE} (hl : PE X l tl) : PI X tg l (iList X.K tl) := by
  intro pins s σ H R I h
  refine thn (hl pins s σ H _ I h) fun v s1 ⟨x, H1, I1, r1, q1⟩ => ?_
  obtain ⟨a, e, ⟨xs, hq⟩, q⟩ := q1
  subst e
  cases r1
  obtain ⟨its, rv, p, hz⟩ := I1.list hq
  refine wpAny_pyIter_list p.isList ?_
  refine ⟨s1.heap.objs.size, [s1.heap.objs.size], _, _, H1, rfl, I1.kept (t' := s1.toks) fun b o e => Heap.get?_push_of_some _ e, turn_list a _, ⟨_, Heap.get?_push_size _ rfl, rfl, rfl⟩, fun b hb => ?_, q⟩
  have e : b = s1.heap.objs.size := by simpa using hb
  subst e
  exact I1.fpOk (Nat.le_refl _) (I1.hok.fresh (Nat.le_refl _))
theorem pi_tup {l : Expr} {tl : TE} (hl : PE X l tl) : PI X tg l (iTup X.K tl) := by
  intro pins s σ H R I h
  refine thn (hl pins s σ H _ I h) fun v s1 ⟨x, H1, I1, r1, q1⟩ => ?_
  obtain ⟨a, e, ⟨xs, hq⟩, q⟩ := q1
  subst e
  cases r1
  obtain ⟨its, rv, p, hz⟩ := I1.tuple hq
  refine wpAny_pyIter_tuple (show s1.heap.IsTuple a its.toArray from p) ?_
  refine ⟨s1.heap.objs.size, [s1.heap.objs.size], _, _, H1, rfl, I1.kept (t' := s1.toks) fun b o e => Heap.get?_push_of_some _ e, turn_tuple a _, ⟨_, Heap.get?_push_size _ rfl, rfl, rfl⟩, fun b hb => ?_, q⟩
  have e : b = s1.heap.objs.size := by simpa using hb
  subst e
  exact I1.fpOk (Nat.le_refl _) (I1.hok.fresh (Nat.le_refl _))
/-- a range object just made, walked -/
theorem range_it {pins : List (Addr × Obj)} {σ : St} {H : Hp} {s : Shared} {R : It → Hp → Prop} {E : Value → Shared → Prop} {lo hi : Int} {t u v : Tok} {tk : Nat} (I : Inv X pins σ H s) (h1 : -(2 ^ 62) ≤ lo) (h2 : lo < 2 ^ 62) (h3 : -(2 ^ 62) ≤ hi) (h4 : hi < 2 ^ 62)
    (q : R (Itr lo (hi - lo).toNat) H) : wpAny (model X.prog X.w) X.A (pyIter (.ref s.heap.objs.size)) (PIE X pins σ tg R) E { s with heap := s.heap.push { cls := .type "range", data := .fields #[.int lo t, .int hi u, .int 1 v] }, toks := tk } := by
  refine wpAny_pyIter_range (IsRange.new ..) (small_one h1 h2 h3 h4) ?_
  have I1 : Inv X pins σ H { s with heap := s.heap.push { cls := .type "range", data := .fields #[.int lo t, .int hi u, .int 1 v] }, toks := tk } := I.kept fun b o e => Heap.get?_push_of_some _ e
  refine ⟨(s.heap.push { cls := .type "range", data := .fields #[.int lo t, .int hi u, .int 1 v] }).objs.size, [(s.heap.push { cls := .type "range", data := .fields #[.int lo t, .int hi u, .int 1 v] }).objs.size], _, _, H, rfl,
    I1.kept (t' := tk) fun b o e => Heap.get?_push_of_some _ e, turn_range _ lo (hi - lo).toNat, ?_, fun b hb => ?_, q⟩
  · have e1 : lo + ((0 : Nat) : Int) * 1 = lo := by simp
    have e2 : (((hi - lo).toNat : Nat) : Int) - ((0 : Nat) : Int) = Builtin.Range.rangeSize lo hi 1 := by rw [rangeSize_one]; split <;> omega
    show IsRangeIter _ _ (lo + ((0 : Nat) : Int) * 1) ((((hi - lo).toNat : Nat) : Int) - ((0 : Nat) : Int)) 1
    rw [e1, e2]
    exact Heap.get?_push_size _ rfl
  · have e : b = (s.heap.push { cls := .type "range", data := .fields #[.int lo t, .int hi u, .int 1 v] }).objs.size := by simpa using hb
    subst e
    exact I1.fpOk (Nat.le_refl _) (I1.hok.fresh (Nat.le_refl _))
def iRng1 (ta : TA) : TI := fun σ H R => ta σ H fun vs H1 => ∃ j : Int, vs = [.int j] ∧ -(2 ^ 62) ≤ j ∧ j < 2 ^ 62 ∧ R (Itr 0 j.toNat) H1
def iRng2 (ta : TA) : TI := fun σ H R => ta σ H fun vs H1 => ∃ i j : Int, vs = [.int i, .int j] ∧ (-(2 ^ 62) ≤ i ∧ i < 2 ^ 62 ∧ -(2 ^ 62) ≤ j ∧ j < 2 ^ 62) ∧ R (Itr i (j - i).toNat) H1
theorem pi_range1 {a : Expr} {ta : TA} {p pos : Pos} (hg : Gl X "range") (hm : X.mg "range" = none) (ha : PA X [a] ta) (hs : starEach [a] X.env = [(false, eval a X.env)] := by rfl) : PI X tg (.Call (.Name "range" p) [a] [] pos) (iRng1 ta) := by
  intro pins s σ H R I h
  refine Call_ (ld_blt I hg hm boot_range (PyProof.Rows.callWith_type1 (thn (ha pos pins s σ H _ I h) fun us s1 ⟨vs, H1, I1, r1, q1⟩ => ?_) hs rfl))
  obtain ⟨j, e, q1, q2, q⟩ := q1
  subst e
  cases r1 with
  | cons r rr =>
    cases rr
    obtain ⟨t, rfl⟩ := r
    exact call_range_1 (range_it I1 (by omega) (by omega) q1 q2 (by simpa using q))
theorem pi_range2 {a b : Expr} {ta : TA} {p pos : Pos} (hg : Gl X "range") (hm : X.mg "range" = none) (ha : PA X [a, b] ta) (hs : starEach [a, b] X.env = [(false, eval a X.env), (false, eval b X.env)] := by rfl) (hs2 : starEach [b] X.env = [(false, eval b X.env)] := by rfl) :
    PI X tg (.Call (.Name "range" p) [a, b] [] pos) (iRng2 ta) := by
  intro pins s σ H R I h
  refine Call_ (ld_blt I hg hm boot_range (PyProof.Rows.callWith_type1 (thn (ha pos pins s σ H _ I h) fun us s1 ⟨vs, H1, I1, r1, q1⟩ => ?_) (by rw [hs, hs2]) (by rw [hs2]; rfl)))
  obtain ⟨i, j, e, ⟨q1, q2, q3, q4⟩, q⟩ := q1
  subst e
  cases r1 with
  | cons r rr =>
    cases rr with
    | cons r' rr =>
      cases rr
      obtain ⟨t, rfl⟩ := r
      obtain ⟨t', rfl⟩ := r'
      exact call_range_2 (range_it I1 q1 q2 q3 q4 q)

/-! ### for -/
/-- W: the invariant by the turn and a measure; N: what the body is to reach -/
def tFor (wi : TI) (g : TG) (tb : TS) : TS := fun D σ H => wi σ H fun J H1 => ∃ W : Nat → Nat → St → Hp → Prop, (∃ m, W 0 m σ H1) ∧ ∀ i m σ H, W i m σ H →
  (J.stop i H ∧ D.nx σ H) ∨ (J.go i H ∧ ∃ N : St → Hp → Prop, (∀ σ' H', N σ' H' → ∃ m', m' < m ∧ W (i + 1) m' σ' H') ∧ ∀ x H', J.yld i H x H' → g x σ H' fun σ2 H2 => tb { D with nx := N, ct := N, bk := D.nx } σ2 H2)
/-- the records at fp as they stand -/
def pinsAt (fp : List Addr) (h : Heap) : List (Addr × Obj) := fp.filterMap fun b => (h.get? b).map fun o => (b, o)
theorem mem_pinsAt {fp : List Addr} {h : Heap} {b : Addr} {o : Obj} (hb : b ∈ fp) (e : h.get? b = some o) : (b, o) ∈ pinsAt fp h := List.mem_filterMap.mpr ⟨b, hb, by rw [e]; rfl⟩
theorem of_pinsAt {fp : List Addr} {h : Heap} {p : Addr × Obj} (hp : p ∈ pinsAt fp h) : p.1 ∈ fp ∧ h.get? p.1 = some p.2 := by
  obtain ⟨b, hb, e⟩ := List.mem_filterMap.mp hp
  cases q : h.get? b with
  | none => rw [q] at e; cases e
  | some o =>
    rw [q] at e
    have e' : (b, o) = p := Option.some.inj e
    subst e'
    exact ⟨hb, q⟩
theorem Inv.pinned {pins : List (Addr × Obj)} {σ : St} {H : Hp} {s : Shared} {fp : List Addr} (I : Inv X pins σ H s) (hf : ∀ b ∈ fp, FpOk X pins H b) (ho : ∀ b ∈ fp, ∃ o, s.heap.get? b = some o ∧ ∀ v, o.data ≠ .cell v) : Inv X (pins ++ pinsAt fp s.heap) σ H s :=
  I.pins_of fun p hp => (List.mem_append.mp hp).elim (fun z => I.pin p (List.mem_append_right _ z)) fun z => by
    obtain ⟨hb, e⟩ := of_pinsAt z
    obtain ⟨f0, f1, f2, _⟩ := hf p.1 hb
    obtain ⟨o, e', d⟩ := ho p.1 hb
    rw [e] at e'; cases e'
    exact ⟨e, f0, f1, f2, d⟩
theorem Inv.unpinned {pins pl : List (Addr × Obj)} {σ : St} {H : Hp} {s : Shared} (I : Inv X (pins ++ pl) σ H s) : Inv X pins σ H s := I.pins_of fun p hp => I.pin p (List.mem_append_right _ (List.mem_append_left _ hp))
theorem ps_for {iter : Expr} {body : List Stmt} {wi : TI} {g : TG} {tb : TS} {pos : Pos} (hp : PassesOwn (model X.prog X.w) X.A X.env X.xe) (hc : X.calm = true) (hi : PI X tg iter wi) (hg : PG X tg g) (hb : PSs X body tb)
    (hs : ∀ x, foldedSetIterable iter X.env x = pure x := by intro _; rfl) : PS X (.For tg iter body [] pos) (tFor wi g tb) := by
  intro pins s σ H D I h
  refine wpAny_For (thn (hi pins s σ H _ I h) fun v s1 h1 => thn h1 fun itv s2 h2 => ?_) hs
  obtain ⟨it, fp, tn, J, H2, e, I2, T, st2, f2, W, ⟨m0, w0⟩, turn⟩ := h2
  subst e
  -- what stays true of the iterator's objects through the loop
  have stat : ∀ {H' : Hp}, (∀ b ∈ fp, H' b = none) → ∀ b ∈ fp, FpOk X pins H' b := fun hn b hb => ⟨hn b hb, (f2 b hb).2⟩
  refine codeAny_forLoop_any (fun n s' => ∃ i σ' H', Inv X pins σ' H' s' ∧ tn i s'.heap ∧ (∀ b ∈ fp, H' b = none) ∧ W i n σ' H') ?_ m0 ⟨0, σ, H2, I2, st2, fun b hb => (f2 b hb).1, w0⟩
  rintro n s3 ⟨i, σ3, H3, I3, st3, fr3, w3⟩
  rcases turn i n σ3 H3 w3 with ⟨stop, qn⟩ | ⟨go, N, hN, step⟩
  · refine wpAny_passesOwn hp (thn (T.done X rfl rfl rfl hc i pins s3 σ3 H3 X.xe I3 (stat fr3) st3 stop) fun r s4 ⟨hr, I4⟩ => ?_)
    subst hr
    exact wpAny_execs_nil ⟨σ3, H3, I4, qn⟩
  · refine wpAny_passesOwn hp (thn (T.item X rfl rfl rfl hc i pins s3 σ3 H3 X.xe I3 (stat fr3) st3 go) fun r s4 ⟨u, hr, h4⟩ => ?_)
    subst hr
    refine wpAny_passesOwn hp (thn h4 fun _ s5 ⟨x, H5, I5, r5, y5, st5, fr5⟩ => ?_)
    have I5' := I5.pinned (stat fr5) (T.obj _ _ st5)
    refine wpAny_passesOwn hp (thn (hg _ s5 σ3 H5 x u _ I5' r5 (step x H5 y5)) fun _ s6 ⟨σ6, H6, I6, q6⟩ => ?_)
    refine wpAny_passesOwn hp (thn (hb _ s6 σ6 H6 _ I6 q6) fun f s7 q7 => ?_)
    have again : ∀ {σ7 : St} {H7 : Hp}, Inv X (pins ++ pinsAt fp s5.heap) σ7 H7 s7 → N σ7 H7 → ∃ m, m < n ∧ ∃ i σ' H', Inv X pins σ' H' s7 ∧ tn i s7.heap ∧ (∀ b ∈ fp, H' b = none) ∧ W i m σ' H' := fun {σ7 H7} I7 n7 => by
      obtain ⟨m', hm, w7⟩ := hN σ7 H7 n7
      refine ⟨m', hm, i + 1, σ7, H7, I7.unpinned, T.keep _ _ _ st5 fun b hb o e => (I7.pin (b, o) (List.mem_append_right _ (List.mem_append_right _ (mem_pinsAt hb e)))).1, fun b hb => ?_, w7⟩
      obtain ⟨o, e, d⟩ := T.obj _ _ st5 b hb
      exact (I7.pin (b, o) (List.mem_append_right _ (List.mem_append_right _ (mem_pinsAt hb e)))).2.1
    cases f with
    | next => obtain ⟨σ7, H7, I7, n7⟩ := q7; exact again I7 n7
    | cont => obtain ⟨σ7, H7, I7, n7⟩ := q7; exact again I7 n7
    | brk => obtain ⟨σ7, H7, I7, q7⟩ := q7; exact ⟨σ7, H7, I7.unpinned, q7⟩
    | ret v => obtain ⟨x7, σ7, H7, I7, r7, q7⟩ := q7; exact ⟨x7, σ7, H7, I7.unpinned, r7, q7⟩
end

/-! ### the forms one uses -/
/-- over a list that the body leaves as it is -/
theorem for_list {K : PySem.W.Frag} {a : Addr} {xs : List V} {g : TG} {tb : TS} {D : Ends} {σ : St} {H : Hp} (Pv : Nat → St → Hp → Prop) (h0 : Pv 0 σ H) (hl : ∀ i σ H, i ≤ xs.length → Pv i σ H → SqL K H a xs)
    (hs : ∀ i x σ H, xs[i]? = some x → Pv i σ H → g x σ H fun σ2 H2 => tb { D with nx := Pv (i + 1), ct := Pv (i + 1), bk := D.nx } σ2 H2) (hd : ∀ σ H, Pv xs.length σ H → D.nx σ H) :
    ∃ W : Nat → Nat → St → Hp → Prop, (∃ m, W 0 m σ H) ∧ ∀ i m σ H, W i m σ H →
      ((Itl K a).stop i H ∧ D.nx σ H) ∨ ((Itl K a).go i H ∧ ∃ N : St → Hp → Prop, (∀ σ' H', N σ' H' → ∃ m', m' < m ∧ W (i + 1) m' σ' H') ∧ ∀ x H', (Itl K a).yld i H x H' → g x σ H' fun σ2 H2 => tb { D with nx := N, ct := N, bk := D.nx } σ2 H2) := by
  refine ⟨fun i m σ H => m = xs.length - i ∧ i ≤ xs.length ∧ Pv i σ H, ⟨xs.length, by simp, Nat.zero_le _, h0⟩, ?_⟩
  rintro i m σ H ⟨rfl, hi, p⟩
  have q := hl i σ H hi p
  by_cases hlt : i < xs.length
  · refine .inr ⟨⟨xs, xs[i], q, by simp [hlt]⟩, Pv (i + 1), fun σ' H' p' => ⟨xs.length - (i + 1), by omega, rfl, hlt, p'⟩, fun x H' y => ?_⟩
    obtain ⟨e, y⟩ := y
    subst e
    exact hs i x σ _ (y xs q) p
  · have e : i = xs.length := by omega
    subst e
    exact .inl ⟨⟨xs, q, Nat.le_refl _⟩, hd σ H p⟩
theorem for_tup {K : PySem.W.Frag} {a : Addr} {xs : List V} {g : TG} {tb : TS} {D : Ends} {σ : St} {H : Hp} (Pv : Nat → St → Hp → Prop) (h0 : Pv 0 σ H) (hl : ∀ i σ H, i ≤ xs.length → Pv i σ H → SqT K H a xs)
    (hs : ∀ i x σ H, xs[i]? = some x → Pv i σ H → g x σ H fun σ2 H2 => tb { D with nx := Pv (i + 1), ct := Pv (i + 1), bk := D.nx } σ2 H2) (hd : ∀ σ H, Pv xs.length σ H → D.nx σ H) :
    ∃ W : Nat → Nat → St → Hp → Prop, (∃ m, W 0 m σ H) ∧ ∀ i m σ H, W i m σ H →
      ((Itt K a).stop i H ∧ D.nx σ H) ∨ ((Itt K a).go i H ∧ ∃ N : St → Hp → Prop, (∀ σ' H', N σ' H' → ∃ m', m' < m ∧ W (i + 1) m' σ' H') ∧ ∀ x H', (Itt K a).yld i H x H' → g x σ H' fun σ2 H2 => tb { D with nx := N, ct := N, bk := D.nx } σ2 H2) := by
  refine ⟨fun i m σ H => m = xs.length - i ∧ i ≤ xs.length ∧ Pv i σ H, ⟨xs.length, by simp, Nat.zero_le _, h0⟩, ?_⟩
  rintro i m σ H ⟨rfl, hi, p⟩
  have q := hl i σ H hi p
  by_cases hlt : i < xs.length
  · refine .inr ⟨⟨xs, xs[i], q, by simp [hlt]⟩, Pv (i + 1), fun σ' H' p' => ⟨xs.length - (i + 1), by omega, rfl, hlt, p'⟩, fun x H' y => ?_⟩
    obtain ⟨e, y⟩ := y
    subst e
    exact hs i x σ _ (y xs q) p
  · have e : i = xs.length := by omega
    subst e
    exact .inl ⟨⟨xs, q, Nat.le_refl _⟩, hd σ H p⟩
theorem for_range {lo : Int} {n : Nat} {g : TG} {tb : TS} {D : Ends} {σ : St} {H : Hp} (Pv : Nat → St → Hp → Prop) (h0 : Pv 0 σ H)
    (hs : ∀ i σ H, i < n → Pv i σ H → g (.int (lo + i)) σ H fun σ2 H2 => tb { D with nx := Pv (i + 1), ct := Pv (i + 1), bk := D.nx } σ2 H2) (hd : ∀ σ H, Pv n σ H → D.nx σ H) :
    ∃ W : Nat → Nat → St → Hp → Prop, (∃ m, W 0 m σ H) ∧ ∀ i m σ H, W i m σ H →
      ((Itr lo n).stop i H ∧ D.nx σ H) ∨ ((Itr lo n).go i H ∧ ∃ N : St → Hp → Prop, (∀ σ' H', N σ' H' → ∃ m', m' < m ∧ W (i + 1) m' σ' H') ∧ ∀ x H', (Itr lo n).yld i H x H' → g x σ H' fun σ2 H2 => tb { D with nx := N, ct := N, bk := D.nx } σ2 H2) := by
  refine ⟨fun i m σ H => m = n - i ∧ i ≤ n ∧ Pv i σ H, ⟨n, by simp, Nat.zero_le _, h0⟩, ?_⟩
  rintro i m σ H ⟨rfl, hi, p⟩
  by_cases hlt : i < n
  · refine .inr ⟨hlt, Pv (i + 1), fun σ' H' p' => ⟨n - (i + 1), by omega, rfl, hlt, p'⟩, fun x H' y => ?_⟩
    obtain ⟨e, y⟩ := y
    subst e y
    exact hs i σ _ hlt p
  · have e : i = n := by omega
    subst e
    exact .inl ⟨Nat.le_refl _, hd σ H p⟩
/-- while, by a word and a measure of the state -/
theorem while_by {c : TT} {tb : TS} {D : Ends} {σ : St} {H : Hp} (Pv : St → Hp → Prop) (μ : St → Hp → Nat) (h0 : Pv σ H)
    (hs : ∀ σ H, Pv σ H → c σ H fun b H1 => if b = true then tb { D with nx := fun σ' H' => Pv σ' H' ∧ μ σ' H' < μ σ H, ct := fun σ' H' => Pv σ' H' ∧ μ σ' H' < μ σ H, bk := D.nx } σ H1 else D.nx σ H1)
    (mono : ∀ σ H Q Q', (∀ b H1, Q b H1 → Q' b H1) → c σ H Q → c σ H Q') : tWhile c tb D σ H := by
  refine ⟨fun m σ H => m = μ σ H ∧ Pv σ H, ⟨_, rfl, h0⟩, ?_⟩
  rintro m σ H ⟨rfl, p⟩
  refine mono σ H _ _ (fun b H1 q => ?_) (hs σ H p)
  cases b with
  | true => exact ⟨_, fun σ' H' ⟨p', l⟩ => ⟨_, l, rfl, p'⟩, q⟩
  | false => exact q
end L2

namespace L2
open PySem PySem.Spec PyProof.Rows

abbrev R2 := V → V → Hp → VK → Prop
/-- a two-place operation on values: f is binaryOp op, inplaceOp op or compareOp op -/
def OpR (X : Cx) (f : Value → Value → Sem Value) (r : R2) : Prop :=
  ∀ (pins : List (Addr × Obj)) (s : Shared) (σ : St) (H : Hp) (x y : V) (v u : Value) (Q : VK), Inv X pins σ H s → RelV x v → RelV y u → r x y H Q →
    wpAny (model X.prog X.w) X.A (f v u) (EP X pins σ Q) X.xe s
/-- a one-place operation -/
def UnR (X : Cx) (f : Value → Sem Value) (r : V → Hp → VK → Prop) : Prop :=
  ∀ (pins : List (Addr × Obj)) (s : Shared) (σ : St) (H : Hp) (x : V) (v : Value) (Q : VK), Inv X pins σ H s → RelV x v → r x H Q →
    wpAny (model X.prog X.w) X.A (f v) (EP X pins σ Q) X.xe s
/-- a call of a value that is known (a builtin, a type) with values -/
def CallR (X : Cx) (f : Value) (r : List V → Hp → VK → Prop) : Prop :=
  ∀ (pins : List (Addr × Obj)) (s : Shared) (σ : St) (H : Hp) (xs : List V) (us : List Value) (Q : VK), Inv X pins σ H s → Vals xs us → r xs H Q →
    wpAny (model X.prog X.w) X.A (call f us) (EP X pins σ Q) X.xe s
/-- a value's truth -/
def TruR (X : Cx) (r : V → Hp → (Bool → Hp → Prop) → Prop) : Prop :=
  ∀ (pins : List (Addr × Obj)) (s : Shared) (σ : St) (H : Hp) (x : V) (v : Value) (Q : Bool → Hp → Prop), Inv X pins σ H s → RelV x v → r x H Q →
    wpAny (model X.prog X.w) X.A (truthy v) (TP X pins σ Q) X.xe s

def tOp (r : R2) (ta tb : TE) : TE := fun σ H Q => ta σ H fun x H1 => tb σ H1 fun y H2 => r x y H2 Q
def tUn (r : V → Hp → VK → Prop) (ta : TE) : TE := fun σ H Q => ta σ H fun x H1 => r x H1 Q
/-- ints in, under C, and a value out -/
def rI (C : Int → Int → Prop) (g : Int → Int → V) : R2 := fun x y H Q => ∃ i j, x = .int i ∧ y = .int j ∧ C i j ∧ Q (g i j) H
def rI0 (g : Int → Int → V) : R2 := fun x y H Q => ∃ i j, x = .int i ∧ y = .int j ∧ Q (g i j) H
def rU (g : Int → V) : V → Hp → VK → Prop := fun x H Q => ∃ i, x = .int i ∧ Q (g i) H

section
variable {X : Cx} {a b c : Expr} {ta tb tc : TE} {pos : Pos}

theorem binT (ha : PE X a ta) (hb : PE X b tb) {pins : List (Addr × Obj)} {s : Shared} {σ : St} {H : Hp} {R : V → V → Hp → Prop} (I : Inv X pins σ H s)
    (h : ta σ H fun x H1 => tb σ H1 fun y H2 => R x y H2) {Q : Value → Shared → Prop} {f : Value → Value → Sem Value}
    (hf : ∀ v u s2 x y H2, Inv X pins σ H2 s2 → RelV x v → RelV y u → R x y H2 → wpAny (model X.prog X.w) X.A (f v u) Q X.xe s2) :
    wpAny (model X.prog X.w) X.A (eval a X.env) (fun v s₁ => wpAny (model X.prog X.w) X.A (eval b X.env) (fun u s₂ => wpAny (model X.prog X.w) X.A (f v u) Q X.xe s₂) X.xe s₁) X.xe s := by
  refine thn (ha pins s σ H _ I h) fun v s1 ⟨x, H1, I1, r1, q1⟩ => ?_
  refine thn (hb pins s1 σ H1 _ I1 q1) fun u s2 ⟨y, H2, I2, r2, q2⟩ => ?_
  exact hf v u s2 x y H2 I2 r1 r2 q2

theorem pe_op {op : Operator} {r : R2} (ho : OpR X (binaryOp op) r) (ha : PE X a ta) (hb : PE X b tb) : PE X (.BinOp a op b pos) (tOp r ta tb) := by
  intro pins s σ H Q I h
  exact wpAny_BinOp (binT ha hb I h fun v u s2 x y H2 I2 rx ry q => ho pins s2 σ H2 x y v u Q I2 rx ry q)
theorem pe_un {op : UnaryOp} {r : V → Hp → VK → Prop} (ho : UnR X (unaryOp op) r) (ha : PE X a ta) : PE X (.UnaryOp op a pos) (tUn r ta) := by
  intro pins s σ H Q I h
  exact UnaryOp_ (thn (ha pins s σ H _ I h) fun v s1 ⟨x, H1, I1, r1, q1⟩ => ho pins s1 σ H1 x v Q I1 r1 q1)
/-- a op= e at a name: the name's slot i -/
theorem augR {op : Operator} {r : R2} (ho : OpR X (inplaceOp op) r) {pins : List (Addr × Obj)} {s : Shared} {σ : St} {H : Hp} {x y : V} {v u : Value} {Q : VK} (I : Inv X pins σ H s)
    (rx : RelV x v) (ry : RelV y u) (q : r x y H Q) : wpAny (model X.prog X.w) X.A (inplaceOp op v u) (EP X pins σ Q) X.xe s := ho pins s σ H x y v u Q I rx ry q

/-! ### ints -/
theorem opI {f : Value → Value → Sem Value} {C : Int → Int → Prop} {g : Int → Int → Int}
    (rule : ∀ (i j : Int) (t u : Tok) (s : Shared) (Q : Value → Shared → Prop) (E : Value → Shared → Prop), C i j → Q (.int (g i j) s.toks) { s with toks := s.toks + 1 } → wpAny (model X.prog X.w) X.A (f (.int i t) (.int j u)) Q E s) :
    OpR X f (rI C fun i j => .int (g i j)) := by
  intro pins s σ H x y v u Q I rx ry h
  obtain ⟨i, j, rfl, rfl, hc, q⟩ := h
  obtain ⟨t, rfl⟩ := rx
  obtain ⟨t', rfl⟩ := ry
  exact rule i j t t' s _ _ hc ⟨.int (g i j), H, I.tok _, ⟨_, rfl⟩, q⟩
theorem opI0 {f : Value → Value → Sem Value} {g : Int → Int → Int}
    (rule : ∀ (i j : Int) (t u : Tok) (s : Shared) (Q : Value → Shared → Prop) (E : Value → Shared → Prop), Q (.int (g i j) s.toks) { s with toks := s.toks + 1 } → wpAny (model X.prog X.w) X.A (f (.int i t) (.int j u)) Q E s) :
    OpR X f (rI0 fun i j => .int (g i j)) := by
  intro pins s σ H x y v u Q I rx ry h
  obtain ⟨i, j, rfl, rfl, q⟩ := h
  obtain ⟨t, rfl⟩ := rx
  obtain ⟨t', rfl⟩ := ry
  exact rule i j t t' s _ _ ⟨.int (g i j), H, I.tok _, ⟨_, rfl⟩, q⟩
theorem opB0 {f : Value → Value → Sem Value} {g : Int → Int → Bool}
    (rule : ∀ (i j : Int) (t u : Tok) (s : Shared) (Q : Value → Shared → Prop) (E : Value → Shared → Prop), Q (.bool (g i j)) s → wpAny (model X.prog X.w) X.A (f (.int i t) (.int j u)) Q E s) :
    OpR X f (rI0 fun i j => .bl (g i j)) := by
  intro pins s σ H x y v u Q I rx ry h
  obtain ⟨i, j, rfl, rfl, q⟩ := h
  obtain ⟨t, rfl⟩ := rx
  obtain ⟨t', rfl⟩ := ry
  exact rule i j t t' s _ _ ⟨.bl (g i j), H, I, rfl, q⟩

def CDiv (i j : Int) : Prop := 0 < j ∧ j < 1073741824
def CDivN (i j : Int) : Prop := j ≠ 0 ∧ j.natAbs < 1073741824
def CPow (i j : Int) : Prop := 0 ≤ j ∧ j ≤ 1000000 ∧ i.natAbs < 2 ^ 64
def CMul (i j : Int) : Prop := (-(2 ^ 64) < i ∧ i < 2 ^ 64) ∨ (-(2 ^ 64) < j ∧ j < 2 ^ 64)
theorem CMul.ok {i j : Int} (h : CMul i j) : IntMulOk i j := by
  rcases h with ⟨h1, h2⟩ | ⟨h1, h2⟩
  · exact .of_left (intBits_le_64 h1 h2)
  · exact .of_right (intBits_le_64 h1 h2)
theorem two_pow_nn (k : Nat) : (0 : Int) ≤ 2 ^ k := by
  rw [two_pow_cast]
  exact Int.natCast_nonneg _

theorem op_add : OpR X (binaryOp .Add) (rI0 fun i j => .int (i + j)) := opI0 fun _ _ _ _ _ _ _ q => add_int q
theorem op_sub : OpR X (binaryOp .Sub) (rI0 fun i j => .int (i - j)) := opI0 fun _ _ _ _ _ _ _ q => sub_int q
theorem op_mul : OpR X (binaryOp .Mult) (rI CMul fun i j => .int (i * j)) := opI fun _ _ _ _ _ _ _ hc q => mul_int q hc.ok
/-- // by a positive divisor -/
theorem op_fdiv : OpR X (binaryOp .FloorDiv) (rI CDiv fun i j => .int (i / j)) := opI fun i j _ _ _ _ _ hc q => by
  have h1 : (0 : Int) < j := hc.1
  have h2 : j < 1073741824 := hc.2
  exact floordiv_int (by omega) (by rw [Int.fdiv_eq_ediv_of_nonneg i (by omega)]; exact q) (.inl (PyProof.noPylong_small (by omega)))
theorem op_fdivN : OpR X (binaryOp .FloorDiv) (rI CDivN fun i j => .int (i.fdiv j)) := opI fun _ _ _ _ _ _ _ hc q => floordiv_int hc.1 q (.inl (PyProof.noPylong_small hc.2))
/-- % by a positive divisor of any size -/
theorem op_mod : OpR X (binaryOp .Mod) (rI (fun _ j => 0 < j) fun i j => .int (i % j)) := opI fun i j _ _ _ _ _ hc q => by
  have h1 : (0 : Int) < j := hc
  exact mod_int' (by omega) (by rw [Int.fmod_eq_emod_of_nonneg i (by omega)]; exact q)
theorem op_modN : OpR X (binaryOp .Mod) (rI (fun _ j => j ≠ 0) fun i j => .int (i.fmod j)) := opI fun _ _ _ _ _ _ _ hc q => mod_int' hc q
theorem op_pow : OpR X (binaryOp .Pow) (rI CPow fun i j => .int (i ^ j.toNat)) := opI fun _ _ _ _ _ _ _ hc q => pow_int_small hc.1 hc.2.1 hc.2.2 q
theorem op_shl : OpR X (binaryOp .LShift) (rI CPow fun i j => .int (i * 2 ^ j.toNat)) := opI fun _ _ _ _ _ _ _ hc q => lshift_int_small hc.1 hc.2.1 hc.2.2 q
theorem op_shr : OpR X (binaryOp .RShift) (rI (fun _ j => 0 ≤ j) fun i j => .int (i / 2 ^ j.toNat)) := opI fun i j _ _ _ _ _ hc q =>
  rshift_int hc (by rw [Int.fdiv_eq_ediv_of_nonneg i (two_pow_nn _)]; exact q)
theorem op_and : OpR X (binaryOp .BitAnd) (rI0 fun i j => .int (Builtin.bitAnd i j)) := opI0 fun _ _ _ _ _ _ _ q => and_int q
theorem op_or : OpR X (binaryOp .BitOr) (rI0 fun i j => .int (Builtin.bitOr i j)) := opI0 fun _ _ _ _ _ _ _ q => or_int q
theorem op_xor : OpR X (binaryOp .BitXor) (rI0 fun i j => .int (Builtin.bitXor i j)) := opI0 fun _ _ _ _ _ _ _ q => xor_int q

theorem iop_add : OpR X (inplaceOp .Add) (rI0 fun i j => .int (i + j)) := opI0 fun _ _ _ _ _ _ _ q => iadd_int q
theorem iop_sub : OpR X (inplaceOp .Sub) (rI0 fun i j => .int (i - j)) := opI0 fun _ _ _ _ _ _ _ q => isub_int q
theorem iop_mul : OpR X (inplaceOp .Mult) (rI CMul fun i j => .int (i * j)) := opI fun _ _ _ _ _ _ _ hc q => imul_int q hc.ok
theorem iop_fdiv : OpR X (inplaceOp .FloorDiv) (rI CDiv fun i j => .int (i / j)) := opI fun i j _ _ _ _ _ hc q => by
  have h1 : (0 : Int) < j := hc.1
  have h2 : j < 1073741824 := hc.2
  exact ifloordiv_int (by omega) (by rw [Int.fdiv_eq_ediv_of_nonneg i (by omega)]; exact q) (.inl (PyProof.noPylong_small (by omega)))
theorem iop_mod : OpR X (inplaceOp .Mod) (rI (fun _ j => 0 < j) fun i j => .int (i % j)) := opI fun i j _ _ _ _ _ hc q => by
  have h1 : (0 : Int) < j := hc
  exact imod_int (by omega) (by rw [Int.fmod_eq_emod_of_nonneg i (by omega)]; exact q)
theorem iop_shl : OpR X (inplaceOp .LShift) (rI CPow fun i j => .int (i * 2 ^ j.toNat)) := opI fun _ _ _ _ _ _ _ hc q => ilshift_int_small hc.1 hc.2.1 hc.2.2 q
theorem iop_shr : OpR X (inplaceOp .RShift) (rI (fun _ j => 0 ≤ j) fun i j => .int (i / 2 ^ j.toNat)) := opI fun i j _ _ _ _ _ hc q =>
  irshift_int hc (by rw [Int.fdiv_eq_ediv_of_nonneg i (two_pow_nn _)]; exact q)
theorem iop_and : OpR X (inplaceOp .BitAnd) (rI0 fun i j => .int (Builtin.bitAnd i j)) := opI0 fun _ _ _ _ _ _ _ q => iand_int q
theorem iop_or : OpR X (inplaceOp .BitOr) (rI0 fun i j => .int (Builtin.bitOr i j)) := opI0 fun _ _ _ _ _ _ _ q => ior_int q
theorem iop_xor : OpR X (inplaceOp .BitXor) (rI0 fun i j => .int (Builtin.bitXor i j)) := opI0 fun _ _ _ _ _ _ _ q => ixor_int q

theorem unI {f : Value → Sem Value} {g : Int → Int}
    (rule : ∀ (i : Int) (t : Tok) (s : Shared) (Q : Value → Shared → Prop) (E : Value → Shared → Prop), Q (.int (g i) s.toks) { s with toks := s.toks + 1 } → wpAny (model X.prog X.w) X.A (f (.int i t)) Q E s) :
    UnR X f (rU fun i => .int (g i)) := by
  intro pins s σ H x v Q I rx h
  obtain ⟨i, rfl, q⟩ := h
  obtain ⟨t, rfl⟩ := rx
  exact rule i t s _ _ ⟨.int (g i), H, I.tok _, ⟨_, rfl⟩, q⟩
theorem un_neg : UnR X (unaryOp .USub) (rU fun i => .int (-i)) := unI fun _ _ _ _ _ q => neg_int q
theorem un_inv : UnR X (unaryOp .Invert) (rU fun i => .int (Builtin.bitNot i)) := unI fun _ _ _ _ _ q => invert_int q

/-! ### bools among ints: n += (a < b) -/
theorem op_add_ib : OpR X (binaryOp .Add) (fun x y H Q => ∃ i k, x = .int i ∧ y = .bl k ∧ Q (.int (i + b2i k)) H) := by
  intro pins s σ H x y v u Q I rx ry h
  obtain ⟨i, k, rfl, rfl, q⟩ := h
  obtain ⟨t, rfl⟩ := rx
  cases ry
  exact add_int_bool ⟨.int (i + b2i k), H, I.tok _, ⟨_, rfl⟩, q⟩
end

/-! ### comparisons -/
/-- the scalars that == tells apart as data does -/
def scal : V → V → Bool
  | .non, .non => true | .non, .int _ => true | .int _, .non => true | .non, .bl _ => true | .bl _, .non => true | .non, .str _ => true | .str _, .non => true
  | .int _, .int _ => true | .bl _, .bl _ => true | .str _, .str _ => true | .byt _, .byt _ => true
  | .int _, .str _ => true | .str _, .int _ => true | .bl _, .str _ => true | .str _, .bl _ => true
  | _, _ => false
def rEq : R2 := fun x y H Q => scal x y = true ∧ Q (.bl (decide (x = y))) H
def rNe : R2 := fun x y H Q => scal x y = true ∧ Q (.bl (!decide (x = y))) H

theorem dec_int {i j : Int} : decide (V.int i = V.int j) = (i == j) := by
  rw [Bool.eq_iff_iff]
  simp
theorem dec_bl {i j : Bool} : decide (V.bl i = V.bl j) = (i == j) := by
  rw [Bool.eq_iff_iff]
  simp
theorem dec_str {i j : Str} : decide (V.str i = V.str j) = (i == j) := by
  rw [Bool.eq_iff_iff]
  simp
theorem dec_byt {i j : Array UInt8} : decide (V.byt i = V.byt j) = (i.toList == j.toList) := by
  rw [Bool.eq_iff_iff]
  cases i
  cases j
  simp

section
variable {X : Cx} {a b c : Expr} {ta tb tc : TE} {pos : Pos}
theorem fin_bl {pins : List (Addr × Obj)} {σ : St} {H : Hp} {s : Shared} {Q : VK} {k k' : Bool} (I : Inv X pins σ H s) (q : Q (.bl k) H) (e : k = k') : EP X pins σ Q (.bool k') s := by
  subst e
  exact ⟨.bl k, H, I, rfl, q⟩
theorem op_eq : OpR X (compareOp .Eq) rEq := by
  intro pins s σ H x y v u Q I rx ry h
  obtain ⟨hs, q⟩ := h
  cases x with
  | non =>
    cases rx
    cases y with
    | non => cases ry; exact PySem.EqNone.eq_none_none (fin_bl I q (by simp))
    | bl j => cases ry; exact PySem.EqNone.eq_none_bool (fin_bl I q (by simp))
    | int j => obtain ⟨t', rfl⟩ := ry; exact PySem.EqNone.eq_none_int (fin_bl I q (by simp))
    | str j => obtain ⟨t', rfl⟩ := ry; exact PySem.EqNone.eq_none_str (fin_bl I q (by simp))
    | _ => exact absurd (show false = true from hs) Bool.false_ne_true
  | bl i =>
    cases rx
    cases y with
    | non => cases ry; exact PySem.EqNone.eq_bool_none (fin_bl I q (by simp))
    | bl j => cases ry; exact eq_bool (fin_bl I q dec_bl)
    | str j => obtain ⟨t', rfl⟩ := ry; exact PySem.EqMixed.eq_bool_str (fin_bl I q (by simp))
    | _ => exact absurd (show false = true from hs) Bool.false_ne_true
  | int i =>
    obtain ⟨t, rfl⟩ := rx
    cases y with
    | non => cases ry; exact PySem.EqNone.eq_int_none (fin_bl I q (by simp))
    | int j => obtain ⟨t', rfl⟩ := ry; exact eq_int (fin_bl I q dec_int)
    | str j => obtain ⟨t', rfl⟩ := ry; exact PySem.EqMixed.eq_int_str (fin_bl I q (by simp))
    | _ => exact absurd (show false = true from hs) Bool.false_ne_true
  | str i =>
    obtain ⟨t, rfl⟩ := rx
    cases y with
    | non => cases ry; exact PySem.EqNone.eq_str_none (fin_bl I q (by simp))
    | bl j => cases ry; exact PySem.EqMixed.eq_str_bool (fin_bl I q (by simp))
    | int j => obtain ⟨t', rfl⟩ := ry; exact PySem.EqMixed.eq_str_int (fin_bl I q (by simp))
    | str j => obtain ⟨t', rfl⟩ := ry; exact eq_str (fin_bl I q dec_str)
    | _ => exact absurd (show false = true from hs) Bool.false_ne_true
  | byt i =>
    obtain ⟨t, rfl⟩ := rx
    cases y with
    | byt j => obtain ⟨t', rfl⟩ := ry; exact PySem.W.eq_bytes (fin_bl I q dec_byt)
    | _ => exact absurd (show false = true from hs) Bool.false_ne_true
  | _ => cases y <;> exact absurd (show false = true from hs) Bool.false_ne_true
theorem op_ne : OpR X (compareOp .NotEq) rNe := by
  intro pins s σ H x y v u Q I rx ry h
  obtain ⟨hs, q⟩ := h
  cases x with
  | non =>
    cases rx
    cases y with
    | non => cases ry; exact PySem.EqNone.ne_none_none (fin_bl I q (by simp))
    | bl j => cases ry; exact PySem.EqNone.ne_none_bool (fin_bl I q (by simp))
    | int j => obtain ⟨t', rfl⟩ := ry; exact PySem.EqNone.ne_none_int (fin_bl I q (by simp))
    | str j => obtain ⟨t', rfl⟩ := ry; exact PySem.EqNone.ne_none_str (fin_bl I q (by simp))
    | _ => exact absurd (show false = true from hs) Bool.false_ne_true
  | bl i =>
    cases rx
    cases y with
    | non => cases ry; exact PySem.EqNone.ne_bool_none (fin_bl I q (by simp))
    | bl j => cases ry; exact ne_bool (fin_bl I q (congrArg not dec_bl))
    | str j => obtain ⟨t', rfl⟩ := ry; exact PySem.EqMixed.ne_bool_str (fin_bl I q (by simp))
    | _ => exact absurd (show false = true from hs) Bool.false_ne_true
  | int i =>
    obtain ⟨t, rfl⟩ := rx
    cases y with
    | non => cases ry; exact PySem.EqNone.ne_int_none (fin_bl I q (by simp))
    | int j => obtain ⟨t', rfl⟩ := ry; exact ne_int (fin_bl I q (congrArg not dec_int))
    | str j => obtain ⟨t', rfl⟩ := ry; exact PySem.EqMixed.ne_int_str (fin_bl I q (by simp))
    | _ => exact absurd (show false = true from hs) Bool.false_ne_true
  | str i =>
    obtain ⟨t, rfl⟩ := rx
    cases y with
    | non => cases ry; exact PySem.EqNone.ne_str_none (fin_bl I q (by simp))
    | bl j => cases ry; exact PySem.EqMixed.ne_str_bool (fin_bl I q (by simp))
    | int j => obtain ⟨t', rfl⟩ := ry; exact PySem.EqMixed.ne_str_int (fin_bl I q (by simp))
    | str j => obtain ⟨t', rfl⟩ := ry; exact ne_str (fin_bl I q (congrArg not dec_str))
    | _ => exact absurd (show false = true from hs) Bool.false_ne_true
  | byt i =>
    obtain ⟨t, rfl⟩ := rx
    cases y with
    | byt j => obtain ⟨t', rfl⟩ := ry; exact PySem.W.ne_bytes (fin_bl I q (congrArg not dec_byt))
    | _ => exact absurd (show false = true from hs) Bool.false_ne_true
  | _ => cases y <;> exact absurd (show false = true from hs) Bool.false_ne_true

theorem op_lt : OpR X (compareOp .Lt) (rI0 fun i j => .bl (decide (i < j))) := opB0 fun _ _ _ _ _ _ _ q => lt_int q
theorem op_le : OpR X (compareOp .LtE) (rI0 fun i j => .bl (decide (i ≤ j))) := opB0 fun _ _ _ _ _ _ _ q => le_int q
theorem op_gt : OpR X (compareOp .Gt) (rI0 fun i j => .bl (decide (j < i))) := opB0 fun _ _ _ _ _ _ _ q => gt_int q
theorem op_ge : OpR X (compareOp .GtE) (rI0 fun i j => .bl (decide (j ≤ i))) := opB0 fun _ _ _ _ _ _ _ q => ge_int q
theorem op_lt_str : OpR X (compareOp .Lt) (fun x y H Q => ∃ i j, x = .str i ∧ y = .str j ∧ Q (.bl (decide (i.cps.toList < j.cps.toList))) H) := by
  intro pins s σ H x y v u Q I rx ry h
  obtain ⟨i, j, rfl, rfl, q⟩ := h
  obtain ⟨t, rfl⟩ := rx
  obtain ⟨t', rfl⟩ := ry
  exact lt_str (fin_bl I q rfl)
/-- the one string within the other -/
theorem op_in_str : OpR X (compareOp .In) (fun x y H Q => ∃ i j, x = .str i ∧ y = .str j ∧ Q (.bl (!(Builtin.Str.occurrences j i 0 j.length 1).isEmpty)) H) := by
  intro pins s σ H x y v u Q I rx ry h
  obtain ⟨i, j, rfl, rfl, q⟩ := h
  obtain ⟨t, rfl⟩ := rx
  obtain ⟨t', rfl⟩ := ry
  exact in_str (fin_bl I q rfl)

/-- is None, is not None: the right side a value none -/
theorem op_isN : OpR X (compareOp .Is) (fun x y H Q => y = .non ∧ Q (.bl (decide (x = .non))) H) := by
  intro pins s σ H x y v u Q I rx ry h
  obtain ⟨rfl, q⟩ := h
  cases ry
  refine is_none_gen (fin_bl I q ?_)
  cases x <;> first
    | (cases rx; rfl)
    | (obtain ⟨t, rfl⟩ := rx; rfl)
theorem op_notN : OpR X (compareOp .IsNot) (fun x y H Q => y = .non ∧ Q (.bl (!decide (x = .non))) H) := by
  intro pins s σ H x y v u Q I rx ry h
  obtain ⟨rfl, q⟩ := h
  cases ry
  refine isnot_none_gen (fin_bl I q ?_)
  cases x <;> first
    | (cases rx; rfl)
    | (obtain ⟨t, rfl⟩ := rx; rfl)

theorem op_notin_str : OpR X (compareOp .NotIn) (fun x y H Q => ∃ i j, x = .str i ∧ y = .str j ∧ Q (.bl (!(!(Builtin.Str.occurrences j i 0 j.length 1).isEmpty))) H) := by
  intro pins s σ H x y v u Q I rx ry h
  obtain ⟨i, j, rfl, rfl, q⟩ := h
  obtain ⟨t, rfl⟩ := rx
  obtain ⟨t', rfl⟩ := ry
  exact notIn_str (fin_bl I q rfl)
/-- is, is not of two objects that are tracked lists or instances -/
def isObj : HO → Bool
  | .lst _ => true
  | .ins _ _ _ => true
  | _ => false
theorem obj_there {pins : List (Addr × Obj)} {s : Shared} {σ : St} {H : Hp} {a : Addr} {o : HO} (I : Inv X pins σ H s) (h : H a = some o) (p : isObj o = true) : ∃ ob, s.heap.get? a = some ob ∧ ob.cls ≠ .type "tuple" := by
  cases o with
  | lst xs =>
    obtain ⟨_, its, n, _, e⟩ : xs.length ≤ sizeLine ∧ ∃ (its : List Value) (n : Nat), Vals xs its ∧ s.heap.get? a = some { cls := .type "list", data := .seq its.toArray n } := I.hok a _ h
    exact ⟨_, e, (by show Value.type "list" ≠ .type "tuple"; decide +kernel)⟩
  | ins C dx fs =>
    have x := I.hok a _ h
    obtain ⟨_, _, _, e, _⟩ := x
    exact ⟨_, e, (by show Value.ref C ≠ .type "tuple"; exact fun z => by cases z)⟩
  | _ => exact absurd (show false = true from p) Bool.false_ne_true
theorem op_is_ref : OpR X (compareOp .Is) (fun x y H Q => ∃ a b oa ob, x = .ref a ∧ y = .ref b ∧ H a = some oa ∧ isObj oa = true ∧ H b = some ob ∧ isObj ob = true ∧ Q (.bl (decide (a = b))) H) := by
  intro pins s σ H x y v u Q I rx ry h
  obtain ⟨a, b, oa, ob, rfl, rfl, ha, pa, hb, pb, q⟩ := h
  cases rx
  cases ry
  obtain ⟨o1, e1, n1⟩ := obj_there I ha pa
  obtain ⟨o2, e2, _⟩ := obj_there I hb pb
  by_cases z : a = b
  · subst z
    exact wpAny_is_ref_self (fin_bl I q (by simp))
  · exact wpAny_is_ref_other z e1 e2 n1 (fin_bl I q (by simp [z]))
theorem op_isnot_ref : OpR X (compareOp .IsNot) (fun x y H Q => ∃ a b oa ob, x = .ref a ∧ y = .ref b ∧ H a = some oa ∧ isObj oa = true ∧ H b = some ob ∧ isObj ob = true ∧ Q (.bl (!decide (a = b))) H) := by
  intro pins s σ H x y v u Q I rx ry h
  obtain ⟨a, b, oa, ob, rfl, rfl, ha, pa, hb, pb, q⟩ := h
  cases rx
  cases ry
  obtain ⟨o1, e1, n1⟩ := obj_there I ha pa
  obtain ⟨o2, e2, _⟩ := obj_there I hb pb
  by_cases z : a = b
  · subst z
    exact wpAny_isNot_ref_self (fin_bl I q (by simp))
  · exact wpAny_isNot_ref_other z e1 e2 n1 (fin_bl I q (by simp [z]))

/-- two rules for one operation: by cases -/
theorem OpR.or {f : Value → Value → Sem Value} {r r' : R2} (h : OpR X f r) (h' : OpR X f r') : OpR X f (fun x y H Q => r x y H Q ∨ r' x y H Q) := by
  intro pins s σ H x y v u Q I rx ry q
  rcases q with q | q
  · exact h pins s σ H x y v u Q I rx ry q
  · exact h' pins s σ H x y v u Q I rx ry q

theorem nomark (b : Expr) {op : CmpOp} (h : op ≠ .In := by decide) (h2 : op ≠ .NotIn := by decide) : behindInMarks op b = false := by
  have e1 : (op == CmpOp.In) = false := by cases op <;> first | rfl | exact absurd rfl h
  have e2 : (op == CmpOp.NotIn) = false := by cases op <;> first | rfl | exact absurd rfl h2
  cases b <;> simp [behindInMarks, e1, e2]
/-- a comparison as a value; hm: nomark b, or (for in, not in) by with_unfolding_all rfl -/
theorem pe_cmpR {op : CmpOp} {r : R2} (ho : OpR X (compareOp op) r) (ha : PE X a ta) (hb : PE X b tb) (hm : behindInMarks op b = false) : PE X (.Compare a [op] [b] pos) (tOp r ta tb) := by
  intro pins s σ H Q I h
  exact wpAny_Compare1 (binT ha hb I h fun v u s2 x y H2 I2 rx ry q => ho pins s2 σ H2 x y v u Q I2 rx ry q) hm
/-- a reading of a value as a test -/
def tTest (t : TE) : TT := fun σ H Q => t σ H fun x H' => ∃ k, x = .bl k ∧ Q k H'
theorem pt_cmpR {op : CmpOp} {r : R2} (ho : OpR X (compareOp op) r) (ha : PE X a ta) (hb : PE X b tb) (hm : behindInMarks op b = false) : PT X (.Compare a [op] [b] pos) (tTest (tOp r ta tb)) := by
  intro pins s σ H Q I h
  refine wpAny_isTrue_Compare1 (thn (ha pins s σ H _ I h) fun v s1 ⟨x, H1, I1, r1, q1⟩ => thn (hb pins s1 σ H1 _ I1 q1) fun u s2 ⟨y, H2, I2, r2, q2⟩ =>
    thn (ho pins s2 σ H2 x y v u _ I2 r1 r2 q2) fun c s3 ⟨z, H3, I3, r3, k, e, q3⟩ => ?_) hm
  subst e
  cases r3
  exact wpAny_truthy_bool ⟨H3, I3, q3⟩
/-- a op1 b op2 c -/
def tChain (r r' : R2) (ta tb tc : TE) : TE := fun σ H Q => ta σ H fun x H1 => tb σ H1 fun y H2 => r x y H2 fun z H3 => ∃ k, z = .bl k ∧
  (if k = true then tc σ H3 fun w' H4 => r' y w' H4 Q else Q (.bl false) H3)
theorem pe_chain {op op' : CmpOp} {r r' : R2} (ho : OpR X (compareOp op) r) (ho' : OpR X (compareOp op') r') (ha : PE X a ta) (hb : PE X b tb) (hc : PE X c tc)
    (hm : lastMarks [op, op'] [b, c] = false := by with_unfolding_all rfl) : PE X (.Compare a [op, op'] [b, c] pos) (tChain r r' ta tb tc) := by
  intro pins s σ H Q I h
  refine Compare_chain (thn (ha pins s σ H _ I h) fun v s1 ⟨x, H1, I1, r1, q1⟩ => chain_link (thn (hb pins s1 σ H1 _ I1 q1) fun u s2 ⟨y, H2, I2, r2, q2⟩ =>
    thn (ho pins s2 σ H2 x y v u _ I2 r1 r2 q2) fun d s3 ⟨z, H3, I3, r3, k, e, q3⟩ => ?_)) hm
  subst e
  cases r3
  refine wpAny_truthy_bool ?_
  cases k with
  | false => exact ite_ff ⟨.bl false, H3, I3, rfl, q3⟩
  | true => exact ite_tt (chain_last (thn (hc pins s3 σ H3 _ I3 q3) fun w' s4 ⟨z', H4, I4, r4, q4⟩ => ho' pins s4 σ H4 y z' u w' Q I4 r2 r4 q4))
theorem pt_chain {op op' : CmpOp} {r r' : R2} (ho : OpR X (compareOp op) r) (ho' : OpR X (compareOp op') r') (ha : PE X a ta) (hb : PE X b tb) (hc : PE X c tc)
    (hm : lastMarks [op, op'] [b, c] = false := by with_unfolding_all rfl) : PT X (.Compare a [op, op'] [b, c] pos) (tTest (tChain r r' ta tb tc)) := by
  intro pins s σ H Q I h
  refine isTrue_chain (thn (ha pins s σ H _ I h) fun v s1 ⟨x, H1, I1, r1, q1⟩ => test_link (thn (hb pins s1 σ H1 _ I1 q1) fun u s2 ⟨y, H2, I2, r2, q2⟩ =>
    thn (ho pins s2 σ H2 x y v u _ I2 r1 r2 q2) fun d s3 ⟨z, H3, I3, r3, k, e, q3⟩ => ?_)) hm
  subst e
  cases r3
  refine wpAny_truthy_bool ?_
  cases k with
  | false =>
    obtain ⟨k', e', q'⟩ := q3
    cases e'
    exact ite_ff ⟨H3, I3, q'⟩
  | true =>
    refine ite_tt (test_last (thn (hc pins s3 σ H3 _ I3 q3) fun w' s4 ⟨z', H4, I4, r4, q4⟩ => thn (ho' pins s4 σ H4 y z' u w' _ I4 r2 r4 q4) fun d' s5 ⟨z2, H5, I5, r5, k2, e2, q5⟩ => ?_))
    subst e2
    cases r5
    exact wpAny_truthy_bool ⟨H5, I5, q5⟩

/-! ### truth -/
/-- a value's truth by the abstract heap -/
def TruV (K : PySem.W.Frag) (x : V) (H : Hp) (k : Bool) : Prop :=
  match x with
  | .non => k = false
  | .bl b => k = b
  | .int i => k = (i != 0)
  | .str y => y.length ≤ sizeLine ∧ k = ((y.length : Int) != 0)
  | .byt y => y.size ≤ sizeLine ∧ k = ((y.size : Int) != 0)
  | .ref p => (∃ xs, SqL K H p xs ∧ k = !xs.isEmpty) ∨ (∃ xs, SqT K H p xs ∧ k = !xs.isEmpty) ∨ ∃ kvs, H p = some (.dK kvs) ∧ k = !kvs.isEmpty
  | _ => False
theorem isEmpty_kv {κ : Type} {kvs : List (κ × V)} {vs : List (κ × Value)} (r : KV kvs vs) : (!vs.isEmpty) = !kvs.isEmpty := by
  cases r <;> rfl
theorem isEmpty_of {xs : List V} {its : List Value} (r : Vals xs its) : (!its.toArray.isEmpty) = !xs.isEmpty := by
  cases r <;> simp
theorem line63 : (sizeLine : Nat) < 2 ^ 63 := by rw [sizeLine_eq]; decide
theorem tru_ok : TruR X (fun x H Q => ∃ k, TruV X.K x H k ∧ Q k H) := by
  intro pins s σ H x v Q I rx h
  obtain ⟨k, e, q⟩ := h
  have hl := line63
  have hs : sizeLine = 16777216 := sizeLine_eq
  cases x with
  | non =>
    cases rx
    have e' : k = false := e
    subst e'
    exact truthy_none ⟨H, I, q⟩
  | bl b =>
    cases rx
    have e' : k = b := e
    subst e'
    exact wpAny_truthy_bool ⟨H, I, q⟩
  | int i =>
    obtain ⟨t, rfl⟩ := rx
    have e' : k = (i != 0) := e
    subst e'
    exact PySem.P.truthy_int ⟨H, I, q⟩
  | str y =>
    obtain ⟨t, rfl⟩ := rx
    obtain ⟨hy, e'⟩ : y.length ≤ sizeLine ∧ k = ((y.length : Int) != 0) := e
    subst e'
    exact PySem.P.truthy_str (by omega) ⟨H, I.tok _, q⟩
  | byt y =>
    obtain ⟨t, rfl⟩ := rx
    obtain ⟨hy, e'⟩ : y.size ≤ sizeLine ∧ k = ((y.size : Int) != 0) := e
    subst e'
    exact PySem.W.truthy_bytes (by omega) ⟨H, I.tok _, q⟩
  | ref p =>
    cases rx
    have e' : (∃ xs, SqL X.K H p xs ∧ k = !xs.isEmpty) ∨ (∃ xs, SqT X.K H p xs ∧ k = !xs.isEmpty) ∨ ∃ kvs, H p = some (.dK kvs) ∧ k = !kvs.isEmpty := e
    rcases e' with ⟨xs, hx, e'⟩ | ⟨xs, hx, e'⟩ | ⟨kvs, hx, e'⟩
    · subst e'
      obtain ⟨its, r, pl, hz⟩ := I.list hx
      have hlen := r.length
      exact wpAny_truthy_list pl.isList (by simp only [List.size_toArray]; omega) ⟨H, I.tok _, by rw [isEmpty_of r]; exact q⟩
    · subst e'
      obtain ⟨its, r, pl, hz⟩ := I.tuple hx
      have hlen := r.length
      exact truthy_tuple pl (by simp only [List.size_toArray]; omega) ⟨H, I.tok _, by rw [isEmpty_of r]; exact q⟩
    · subst e'
      obtain ⟨hz, hS, vs, r, m⟩ : kvs.length ≤ sizeLine ∧ (p == sysModules) = false ∧ ∃ vs, KV kvs vs ∧ s.heap.DictOf (mixKind X.prog X.w) p vs := I.hok p _ hx
      have hlen : kvs.length = vs.length := Paired.length r
      exact wpAny_truthy_dict hS m (by omega) ⟨H, I.tok _, by rw [isEmpty_kv r]; exact q⟩
  | _ => exact (show False from e).elim
/-- any expression whose test is its value's truth (a name, a call, a subscript, a field ..: he by fun _ => rfl) -/
theorem pt_truth (ha : PE X a ta) (he : ∀ whole, isTrue a X.env whole = (do let v ← whole; standAt a.pos; holding [v] (truthy v))) :
    PT X a (fun σ H Q => ta σ H fun x H' => ∃ k, TruV X.K x H' k ∧ Q k H') := by
  intro pins s σ H Q I h
  exact isTrue_plain (thn (ha pins s σ H _ I h) fun v s1 ⟨x, H1, I1, r1, q1⟩ => tru_ok pins s1 σ H1 x v Q I1 r1 q1) (he _)

/-! ### strs and bytes -/
theorem pe_byt {x : List UInt8} {k : Nat} : PE X (.Constant (.bytes x) k pos) (fun _ H Q => Q (.byt x.toArray) H) := fun _ _ _ H _ I h => PySem.W.Constant_bytes ⟨.byt x.toArray, H, I.tok _, ⟨_, rfl⟩, h⟩
theorem op_add_str : OpR X (binaryOp .Add) (fun x y H Q => ∃ i j, x = .str i ∧ y = .str j ∧ i.length + j.length ≤ sizeLine ∧ Q (.str (i ++ j)) H) := by
  intro pins s σ H x y v u Q I rx ry h
  obtain ⟨i, j, rfl, rfl, hz, q⟩ := h
  obtain ⟨t, rfl⟩ := rx
  obtain ⟨t', rfl⟩ := ry
  exact add_str (fun t' tk => ⟨.str (i ++ j), H, I.tok _, ⟨_, rfl⟩, q⟩) hz
theorem iop_add_str : OpR X (inplaceOp .Add) (fun x y H Q => ∃ i j, x = .str i ∧ y = .str j ∧ i.length + j.length ≤ sizeLine ∧ Q (.str (i ++ j)) H) := by
  intro pins s σ H x y v u Q I rx ry h
  obtain ⟨i, j, rfl, rfl, hz, q⟩ := h
  obtain ⟨t, rfl⟩ := rx
  obtain ⟨t', rfl⟩ := ry
  exact iadd_str (fun t' tk => ⟨.str (i ++ j), H, I.tok _, ⟨_, rfl⟩, q⟩) hz
theorem op_add_byt : OpR X (binaryOp .Add) (fun x y H Q => ∃ i j, x = .byt i ∧ y = .byt j ∧ i.size + j.size ≤ 16777216 ∧ Q (.byt (i ++ j)) H) := by
  intro pins s σ H x y v u Q I rx ry h
  obtain ⟨i, j, rfl, rfl, hz, q⟩ := h
  obtain ⟨t, rfl⟩ := rx
  obtain ⟨t', rfl⟩ := ry
  exact PySem.W.KBy.add_bytes hz (fun t' tk => ⟨.byt (i ++ j), H, I.tok _, ⟨_, rfl⟩, q⟩)

def PlainIxT (b : Expr) : Prop := ∀ o i, subscripted b false o i = operate [o, i] (getItem o i)
/-- s[i], 0 ≤ i < len -/
theorem pe_item_str (ha : PE X a ta) (hb : PE X b tb) (hs : PlainIxT b) :
    PE X (.Subscript a b pos) (tOp (fun x y H Q => ∃ z i c, x = .str z ∧ y = .int i ∧ 0 ≤ i ∧ i < 2 ^ 63 ∧ i < z.length ∧ z.cps[i.toNat]? = some c ∧ Q (.str ⟨#[c]⟩) H) ta tb) := by
  intro pins s σ H Q I h
  refine Subscript_ (binT ha hb I h fun v u s2 x y H2 I2 rx ry q => ?_)
  obtain ⟨z, i, c, rfl, rfl, h0, h63, h1, hc, q⟩ := q
  obtain ⟨t, rfl⟩ := rx
  obtain ⟨t', rfl⟩ := ry
  have e : seqIndex? i z.length = some i.toNat := PySem.StrLaws.seqIndex_nonneg h0 h1
  exact tail_any (typeIs_str s2 z t) slot_str_getitem.lookup (getItem_str (c := c) (by
    have e1 : decide (i < -(2 ^ 63 : Int)) = false := decide_eq_false (by omega)
    have e2 : decide (i ≥ 2 ^ 63) = false := decide_eq_false (by omega)
    rw [e1, e2] <;> rfl) (by rw [e]; exact hc) ⟨.str ⟨#[c]⟩, H2, I2.tok _, ⟨_, rfl⟩, q⟩) (hs _ _)
/-- b[i], 0 ≤ i < len -/
theorem pe_item_byt (ha : PE X a ta) (hb : PE X b tb) (hs : PlainIxT b) :
    PE X (.Subscript a b pos) (tOp (fun x y H Q => ∃ (z : List UInt8) (i : Int), x = .byt z.toArray ∧ y = .int i ∧ z.length ≤ sizeLine ∧ 0 ≤ i ∧ i < z.length ∧ Q (.int ((z.getD i.toNat 0).toNat : Nat)) H) ta tb) := by
  intro pins s σ H Q I h
  refine Subscript_ (binT ha hb I h fun v u s2 x y H2 I2 rx ry q => ?_)
  obtain ⟨z, i, rfl, rfl, hz, h0, h1, q⟩ := q
  obtain ⟨t, rfl⟩ := rx
  obtain ⟨t', rfl⟩ := ry
  have hl : sizeLine = 16777216 := sizeLine_eq
  exact tail_any (PySem.W.typeIs_bytes s2 z.toArray t) PySem.W.FB.slot_bytes_getitem.lookup (PySem.W.getItem_bytes (by omega) h0 h1 ⟨.int ((z.getD i.toNat 0).toNat : Nat), H2, I2.tok _, ⟨_, rfl⟩, q⟩) (hs _ _)

/-! ### scalar builtins, by CallR -/
theorem vals1 {x : V} {us : List Value} (r : Vals [x] us) : ∃ u, us = [u] ∧ RelV x u := by
  cases r with
  | cons r1 r2 => cases r2; exact ⟨_, rfl, r1⟩
theorem vals2 {x y : V} {us : List Value} (r : Vals [x, y] us) : ∃ u w', us = [u, w'] ∧ RelV x u ∧ RelV y w' := by
  cases r with
  | cons r1 r2 =>
    cases r2 with
    | cons r3 r4 => cases r4; exact ⟨_, _, rfl, r1, r3⟩
theorem call_abs : CallR X (.builtin "abs") (fun xs H Q => ∃ i, xs = [.int i] ∧ Q (.int (if i < 0 then -i else i)) H) := by
  intro pins s σ H xs us Q I r h
  obtain ⟨i, rfl, q⟩ := h
  obtain ⟨u, rfl, t, rfl⟩ := vals1 r
  exact call_abs_int fun u tk => ⟨.int (if i < 0 then -i else i), H, I.tok _, ⟨_, rfl⟩, q⟩
theorem call_max2 (hc : X.calm = true) : CallR X (.builtin "max") (fun xs H Q => ∃ i j, xs = [.int i, .int j] ∧ Q (.int (if j > i then j else i)) H) := by
  intro pins s σ H xs us Q I r h
  obtain ⟨i, j, rfl, q⟩ := h
  obtain ⟨u, w', rfl, ⟨t, rfl⟩, ⟨t', rfl⟩⟩ := vals2 r
  refine max_two_ints (I.ok.hd hc) fun h' tk k => ⟨_, H, I.kept k, ?_, q⟩
  by_cases hj : j > i
  · rw [if_pos hj, if_pos hj]; exact ⟨_, rfl⟩
  · rw [if_neg hj, if_neg hj]; exact ⟨_, rfl⟩
theorem call_min2 (hc : X.calm = true) : CallR X (.builtin "min") (fun xs H Q => ∃ i j, xs = [.int i, .int j] ∧ Q (.int (if j < i then j else i)) H) := by
  intro pins s σ H xs us Q I r h
  obtain ⟨i, j, rfl, q⟩ := h
  obtain ⟨u, w', rfl, ⟨t, rfl⟩, ⟨t', rfl⟩⟩ := vals2 r
  refine min_two_ints (I.ok.hd hc) fun h' tk k => ⟨_, H, I.kept k, ?_, q⟩
  by_cases hj : j < i
  · rw [if_pos hj, if_pos hj]; exact ⟨_, rfl⟩
  · rw [if_neg hj, if_neg hj]; exact ⟨_, rfl⟩
theorem call_int1 : CallR X (.type "int") (fun xs H Q => (∃ i, xs = [.int i] ∧ Q (.int i) H) ∨ ∃ k, xs = [.bl k] ∧ Q (.int (if k then 1 else 0)) H) := by
  intro pins s σ H xs us Q I r h
  rcases h with ⟨i, rfl, q⟩ | ⟨k, rfl, q⟩
  · obtain ⟨u, rfl, t, rfl⟩ := vals1 r
    exact call_int_int ⟨.int i, H, I, ⟨_, rfl⟩, q⟩
  · obtain ⟨u, rfl, r1⟩ := vals1 r
    cases r1
    exact call_int_bool ⟨.int (if k then 1 else 0), H, I.tok _, ⟨_, rfl⟩, q⟩
theorem call_bool1 : CallR X (.type "bool") (fun xs H Q => (∃ i, xs = [.int i] ∧ Q (.bl (i != 0)) H) ∨ ∃ k, xs = [.bl k] ∧ Q (.bl k) H) := by
  intro pins s σ H xs us Q I r h
  rcases h with ⟨i, rfl, q⟩ | ⟨k, rfl, q⟩
  · obtain ⟨u, rfl, t, rfl⟩ := vals1 r
    exact call_bool_int ⟨.bl (i != 0), H, I, rfl, q⟩
  · obtain ⟨u, rfl, r1⟩ := vals1 r
    cases r1
    exact call_bool_bool ⟨.bl k, H, I, rfl, q⟩
theorem call_str_int : CallR X (.type "str") (fun xs H Q => ∃ i, xs = [.int i] ∧ i.natAbs.log2 < 1920 ∧ Q (.str (toString i)) H) := by
  intro pins s σ H xs us Q I r h
  obtain ⟨i, rfl, hz, q⟩ := h
  obtain ⟨u, rfl, t, rfl⟩ := vals1 r
  exact PySem.P.str_of_int hz ⟨.str _, H, I.tok _, ⟨_, rfl⟩, q⟩
theorem call_ord : CallR X (.builtin "ord") (fun xs H Q => ∃ x, xs = [.str x] ∧ x.length = 1 ∧ Q (.int (x.cps.getD 0 0 : Nat)) H) := by
  intro pins s σ H xs us Q I r h
  obtain ⟨x, rfl, hz, q⟩ := h
  obtain ⟨u, rfl, t, rfl⟩ := vals1 r
  exact ord_of_one hz ⟨.int _, H, I.tok _, ⟨_, rfl⟩, q⟩
theorem call_chr : CallR X (.builtin "chr") (fun xs H Q => ∃ i, xs = [.int i] ∧ 0 ≤ i ∧ i ≤ 1114111 ∧ Q (.str ⟨#[i.toNat]⟩) H) := by
  intro pins s σ H xs us Q I r h
  obtain ⟨i, rfl, h0, h1, q⟩ := h
  obtain ⟨u, rfl, t, rfl⟩ := vals1 r
  exact chr_of_range h0 h1 ⟨.str _, H, I.tok _, ⟨_, rfl⟩, q⟩
/-- len of a str, a bytes, a list, a tuple -/
def LenV (K : PySem.W.Frag) (x : V) (H : Hp) (n : Nat) : Prop :=
  match x with
  | .str y => y.length ≤ sizeLine ∧ n = y.length
  | .byt y => y.size ≤ sizeLine ∧ n = y.size
  | .ref p => (∃ xs, SqL K H p xs ∧ n = xs.length) ∨ ∃ xs, SqT K H p xs ∧ n = xs.length
  | _ => False
theorem call_len : CallR X (.builtin "len") (fun xs H Q => ∃ x n, xs = [x] ∧ LenV X.K x H n ∧ Q (.int n) H) := by
  intro pins s σ H xs us Q I r h
  obtain ⟨x, n, rfl, e, q⟩ := h
  obtain ⟨u, rfl, rx⟩ := vals1 r
  have hl := line63
  have hs : sizeLine = 16777216 := sizeLine_eq
  cases x with
  | str y =>
    obtain ⟨t, rfl⟩ := rx
    obtain ⟨hy, e'⟩ : y.length ≤ sizeLine ∧ n = y.length := e
    subst e'
    exact len_str (by omega) ⟨.int _, H, I.tok _, ⟨_, rfl⟩, q⟩
  | byt y =>
    obtain ⟨t, rfl⟩ := rx
    obtain ⟨hy, e'⟩ : y.size ≤ sizeLine ∧ n = y.size := e
    subst e'
    exact PySem.W.len_bytes (by omega) ⟨.int _, H, I.tok _, ⟨_, rfl⟩, q⟩
  | ref p =>
    cases rx
    have e' : (∃ xs, SqL X.K H p xs ∧ n = xs.length) ∨ ∃ xs, SqT X.K H p xs ∧ n = xs.length := e
    rcases e' with ⟨xs, hx, e'⟩ | ⟨xs, hx, e'⟩
    · subst e'
      obtain ⟨its, r', pl, hz⟩ := I.list hx
      have hlen := r'.length
      exact Calls.call_len_list pl.isList (by simp only [List.size_toArray]; omega) ⟨.int xs.length, H, I.tok _, ⟨_, by simp only [List.size_toArray]; rw [hlen]⟩, q⟩
    · subst e'
      obtain ⟨its, r', pl, hz⟩ := I.tuple hx
      have hlen := r'.length
      exact len_tuple pl (by simp only [List.size_toArray]; omega) ⟨.int xs.length, H, I.tok _, ⟨_, by simp only [List.size_toArray]; rw [hlen]⟩, q⟩
  | _ => exact (show False from e).elim
/-- divmod: a new tuple -/
theorem call_divmod : CallR X (.builtin "divmod") (fun xs H Q => ∃ i j, xs = [.int i, .int j] ∧ CDiv i j ∧ ∀ p, H p = none → Q (.ref p) (upd H p (.tup [.int (i / j), .int (i % j)]))) := by
  intro pins s σ H xs us Q I r h
  obtain ⟨i, j, rfl, ⟨h1, h2⟩, q⟩ := h
  obtain ⟨u, w', rfl, ⟨t, rfl⟩, ⟨t', rfl⟩⟩ := vals2 r
  refine divmod_int (by omega) ?_ (.inl (PyProof.noPylong_small (by omega)))
  rw [Int.fdiv_eq_ediv_of_nonneg i (by omega), Int.fmod_eq_emod_of_nonneg i (by omega)]
  have hn : H s.heap.objs.size = none := I.hok.fresh (Nat.le_refl _)
  refine ⟨.ref s.heap.objs.size, _, ?_, rfl, q _ hn⟩
  refine I.laid (fun b o e => Heap.get?_push_of_some _ e) (Nat.le_refl _) ⟨by simp only [List.length_cons, List.length_nil]; rw [sizeLine_eq]; decide, [.int (i / j) s.toks, .int (i % j) (s.toks + 1)], .cons ⟨_, rfl⟩ (.cons ⟨_, rfl⟩ .nil), ?_⟩
  exact ⟨_, Heap.get?_push_size s.heap rfl, rfl, 0, rfl⟩
end
end L2

namespace L2
open PySem PySem.Spec PyProof.Rows

/-! ### an instance, its attributes a map -/
structure ObjM (h : Heap) (x dx C : Addr) (mA : Str → Option Value) : Prop where
  obj : h.get? x = some (PySem.W.instObj C dx)
  ns : h.Ns1 dx mA
  ne : dx ≠ x

theorem lookIn_ns {h : Heap} {dx : Addr} {mA : Str → Option Value} (n : h.Ns1 dx mA) : ∃ od, h.get? dx = some od ∧ ∀ name, PySem.W.lookIn name od = some (mA name) := by
  obtain ⟨o, es, ep, ho, hd, hk, _, hm⟩ := n
  refine ⟨o, ho, fun name => ?_⟩
  have e := hm name
  unfold nsFind findBy at e
  rw [← Array.find?_toList] at e
  unfold PySem.W.lookIn
  rw [hd]
  dsimp only
  split
  · rename_i y q
    rw [q] at e
    exact congrArg some e
  · rename_i q
    rw [q] at e
    have a : es.toList.any (·.refKey) = false := by
      rw [List.any_eq_false]
      intro y hy
      obtain ⟨z, t, hkey⟩ := hk y (Array.mem_toList_iff.mp hy)
      simp [DictEntry.refKey, hkey]
    have a' : ¬ es.toList.any (·.refKey) = true := by rw [a]; exact Bool.false_ne_true
    rw [if_neg a']
    exact congrArg some e

theorem ObjM.look {h : Heap} {x dx C : Addr} {mA : Str → Option Value} (I : ObjM h x dx C mA) : ∃ od, PySem.W.InstAt h x (PySem.W.instObj C dx) C (some od) ∧ ∀ name, PySem.W.lookIn name od = some (mA name) :=
  let ⟨od, ho, hl⟩ := lookIn_ns I.ns
  ⟨od, ⟨I.obj, rfl, rfl, ho⟩, hl⟩

section
variable {prog : Program} {w : World} {A : Around} {E : Value → Shared → Prop} {s : Shared} {K : PySem.W.Frag} {x dx C f : Addr} {mA : Str → Option Value} {name : Str} {v : Value}

theorem get_map {expr : Bool} {Q : Value → Shared → Prop} (X : K.In s.heap) (I : ObjM s.heap x dx C mA) (hg : PySem.W.plainGet K C name = true) (hh : PySem.W.hasDictIn K C = true)
    (ha : PySem.W.findIn K (.ref C) name = some none) (hv : mA name = some v) (hv' : PySem.W.handedIn v = true) (h : Q v { s with toks := s.toks + 1 }) :
    wpAny (model prog w) A (getAttr (.ref x) name expr) Q E s := by
  obtain ⟨od, J, hl⟩ := I.look
  exact PySem.W.get_value X J (PySem.W.plainGet_of hg).1 (PySem.W.findObj_own hh ha rfl (by rw [hl, hv])) hv' h

theorem get_const {expr : Bool} {a : Value} {Q : Value → Shared → Prop} (X : K.In s.heap) (I : ObjM s.heap x dx C mA) (hg : PySem.W.plainGet K C name = true) (hh : PySem.W.hasDictIn K C = true)
    (ha : PySem.W.findIn K (.ref C) name = some (some a)) (hn : PySem.W.specialIn K a "__get__" = some none) (hc : PySem.W.copiedNames.contains name = false) (hv : mA name = none) (hv' : PySem.W.handedIn a = true)
    (h : Q a { s with toks := s.toks + 1 }) : wpAny (model prog w) A (getAttr (.ref x) name expr) Q E s := by
  obtain ⟨od, J, hl⟩ := I.look
  exact PySem.W.get_value X J (PySem.W.plainGet_of hg).1 (PySem.W.findObj_cls hh ha hn hv' hc (by rw [hl, hv])) hv' h

theorem get_meth {pl : Sem Bool} {Q : Value × List Value → Shared → Prop} (X : K.In s.heap) (I : ObjM s.heap x dx C mA) (hg : PySem.W.plainGet K C name = true)
    (hf : PySem.W.findIn K (.ref C) name = some (some (.ref f))) (ht : PySem.W.isFn K (.ref f) = true) (hv : mA name = none) (h : Q (.ref f, [.ref x]) s) :
    wpAny (model prog w) A (getMethod (.ref x) name pl) Q E s := by
  obtain ⟨od, J, hl⟩ := I.look
  exact PySem.W.method_fn X J (PySem.W.plainGet_of hg).1 (PySem.W.plainGet_of hg).2 hf (beq_iff_eq.mp ht) (by show (PySem.W.lookIn name od).map (·.isSome) = some false; rw [hl, hv]; rfl) h

theorem set_map {ns : List Str} {Q : Unit → Shared → Prop} (X : K.In s.heap) (I : ObjM s.heap x dx C mA)
    (hs : PySem.W.findIn K (.ref C) "__setattr__" = some (some (.builtin "object.__setattr__"))) (hp : PySem.W.plainOver K C = true) (ht : PySem.W.takerIn K C name = some none) (hh : PySem.W.hasDictIn K C = true)
    (hw : PySem.Within mA ns) (hsz : ns.length ≤ sizeLine)
    (h : ∀ h', ObjM h' x dx C (fun y => if y = name then some v else mA y) → Heap.SameBut dx s.heap h' → Q () { s with heap := h', toks := s.toks + 2 }) :
    wpAny (model prog w) A (setAttr (.ref x) name v) Q E s := by
  obtain ⟨od, J, hl⟩ := I.look
  refine PySem.W.set_plain X J hs (PySem.W.osa_open (s := { s with toks := s.toks + 1 }) (r := none) X J hp ht fun b => ?_)
  obtain ⟨cd, hc, hd'⟩ := PySem.W.any_some hh
  have hx : s.heap.get? x = some ⟨.ref C, some dx, .plain, #[]⟩ := I.obj
  refine wpAny_bind (wpAny_pure (wpAny_bind (wpAny_bind (wpAny_loadPart hx (wpAny_bind (PySem.W.Looks.here (s := { s with toks := s.toks + 1 }) (PySem.W.looks_clsIn X hc) ?_))))))
  rw [hd']
  refine wpAny_pure (a := some dx) (wpAny_bind (wpAny_pure (wpAny_bind ?_)))
  refine wpAny_nsSet1 (s := { s with toks := s.toks + 1 }) I.ns fun h' hn2 hs2 => ?_
  obtain ⟨oD, esD, epD, hoD, hdD, hcD⟩ := hn2.count (PySem.Within.cons name v hw)
  refine wpAny_bind (wpAny_lookBehind hoD (by rw [hdD]; exact pastItsLine_dict (Nat.le_trans hcD (by rw [List.length_cons]; omega))) ?_)
  exact wpAny_pure (h _ ⟨(hs2.2 _ (Ne.symm I.ne)).trans I.obj, hn2, I.ne⟩ hs2)

/-- C(..): the dict at the heap's end, the instance behind it; then its __init__ -/
theorem make_map {R : Result → Shared → Prop} {vs : List Value} {kw : List (Str × Value)} (X : K.In s.heap) (hm : PySem.W.makesIn K C = true)
    (hi : PySem.W.findIn K (.ref C) "__init__" = some (some (.ref f))) (hf : PySem.W.typeIn K (.ref f) = some (.type "function"))
    (h : codeAny (model prog w) (A.under (.builtin "type.__call__" ⟨.ref C :: vs, kw⟩)) (.call (.ref f) ⟨.ref (s.heap.objs.size + 1) :: vs, kw⟩) (PySem.W.InitBack (s.heap.objs.size + 1) R)
      { s with heap := (s.heap.push PySem.W.emptyDict).push (PySem.W.instObj C s.heap.objs.size) }) :
    codeAny (model prog w) A (.call (.ref C) ⟨vs, kw⟩) R s := by
  obtain ⟨hh, g, d, t, os⟩ := s
  exact PySem.W.make_core (PySem.W.makes_of X hm) (PySem.W.looks_findIn X hi) (fun self => PySem.W.bind_fn X self hf) (.inl rfl) h
/-- C() where there is no __init__ but object's -/
theorem make_map0 {R : Result → Shared → Prop} (X : K.In s.heap) (hm : PySem.W.makesIn K C = true)
    (hi : PySem.W.findIn K (.ref C) "__init__" = some (some (.builtin "object.__init__")))
    (hb : ∀ self, PySem.W.Looks (model prog w) s.heap (bindSpecial (.builtin "object.__init__") self) (.builtin "object.__init__", [self]))
    (h : codeAny (model prog w) (A.under (.builtin "type.__call__" ⟨[.ref C], []⟩)) (.call (.builtin "object.__init__") ⟨[.ref (s.heap.objs.size + 1)], []⟩) (PySem.W.InitBack (s.heap.objs.size + 1) R)
      { s with heap := (s.heap.push PySem.W.emptyDict).push (PySem.W.instObj C s.heap.objs.size) }) :
    codeAny (model prog w) A (.call (.ref C) ⟨[], []⟩) R s := by
  obtain ⟨hh, g, d, t, os⟩ := s
  exact PySem.W.make_core (PySem.W.makes_of X hm) (PySem.W.looks_findIn X hi) hb (.inr ⟨rfl, rfl⟩) h
end

/-! ### the attributes as a list of pairs -/
def putF (f : Str) (v : V) : List (Str × V) → List (Str × V)
  | [] => [(f, v)]
  | (g, x) :: r => if g = f then (g, v) :: r else (g, x) :: putF f v r
theorem lookup_putF (f g : Str) (v : V) : ∀ fs : List (Str × V), (putF f v fs).lookup g = if g = f then some v else fs.lookup g
  | [] => by
    show List.lookup g [(f, v)] = _
    by_cases h : g = f
    · have hb : (g == f) = true := beq_iff_eq.mpr h
      simp only [List.lookup, hb, if_pos h]
    · have hb : (g == f) = false := beq_eq_false_iff_ne.mpr h
      simp only [List.lookup, hb, if_neg h]
  | (k, x) :: r => by
    have ih := lookup_putF f g v r
    rw [show putF f v ((k, x) :: r) = (if k = f then (k, v) :: r else (k, x) :: putF f v r) from rfl]
    by_cases hk : k = f
    · rw [if_pos hk]
      by_cases h : g = k
      · have hb : (g == k) = true := beq_iff_eq.mpr h
        simp only [List.lookup, hb, if_pos (h.trans hk)]
      · have hb : (g == k) = false := beq_eq_false_iff_ne.mpr h
        simp only [List.lookup, hb, if_neg (fun e : g = f => h (e.trans hk.symm))]
    · rw [if_neg hk]
      by_cases h : g = k
      · have hb : (g == k) = true := beq_iff_eq.mpr h
        simp only [List.lookup, hb, if_neg (fun e : g = f => hk (h.symm.trans e))]
      · have hb : (g == k) = false := beq_eq_false_iff_ne.mpr h
        simp only [List.lookup, hb]
        exact ih
theorem keys_putF (f : Str) (v : V) : ∀ fs : List (Str × V), f ∈ (putF f v fs).map (·.1) ∧ ∀ g, g ∈ fs.map (·.1) → g ∈ (putF f v fs).map (·.1)
  | [] => ⟨by simp [putF], fun g h => by simp at h⟩
  | (k, x) :: r => by
    obtain ⟨i1, i2⟩ := keys_putF f v r
    rw [show putF f v ((k, x) :: r) = (if k = f then (k, v) :: r else (k, x) :: putF f v r) from rfl]
    by_cases hk : k = f
    · rw [if_pos hk]
      subst hk
      exact ⟨by simp, fun g h => by simpa using h⟩
    · rw [if_neg hk]
      refine ⟨?_, fun g h => ?_⟩
      · rw [List.map_cons]
        exact List.mem_cons_of_mem _ i1
      · rw [List.map_cons] at h ⊢
        rcases List.mem_cons.mp h with e | e
        · exact List.mem_cons.mpr (.inl e)
        · exact List.mem_cons_of_mem _ (i2 g e)
theorem length_putF (f : Str) (v : V) : ∀ fs : List (Str × V), (putF f v fs).length ≤ fs.length + 1
  | [] => by simp [putF]
  | (k, x) :: r => by
    have ih := length_putF f v r
    rw [show putF f v ((k, x) :: r) = (if k = f then (k, v) :: r else (k, x) :: putF f v r) from rfl]
    by_cases hk : k = f
    · rw [if_pos hk, List.length_cons, List.length_cons]; omega
    · rw [if_neg hk, List.length_cons, List.length_cons]; omega

theorem RelO.some_of {v : V} {o : Option Value} (r : RelO (some v) o) : ∃ u, o = some u ∧ RelV v u := by
  cases o with
  | none => exact (show False from r).elim
  | some u => exact ⟨u, rfl, r⟩
theorem RelO.none_of {o : Option Value} (r : RelO none o) : o = none := by
  cases o with
  | none => rfl
  | some u => exact (show False from r).elim
theorem handed_of {v : V} {u : Value} (r : RelV v u) : PySem.W.handedIn u = true := by
  cases v with
  | non => cases (show u = Value.none from r); rfl
  | bl b => cases (show u = Value.bool b from r); rfl
  | int i => obtain ⟨t, e⟩ := (show ∃ t, u = Value.int i t from r); cases e; rfl
  | str x => obtain ⟨t, e⟩ := (show ∃ t, u = Value.str x t from r); cases e; rfl
  | byt b => obtain ⟨t, e⟩ := (show ∃ t, u = Value.bytes b t from r); cases e; rfl
  | flt b => obtain ⟨t, e⟩ := (show ∃ t, u = Value.float b t from r); cases e; rfl
  | ref a => cases (show u = Value.ref a from r); rfl
  | ty n => cases (show u = Value.type n from r); rfl

section
variable {P : Program} {w : World} {H H' : Hp} {h h' : Heap} {a C dx : Addr} {fs fs' : List (Str × V)}
theorem ins_get (hok : HOk P w H h) (e : H a = some (.ins C dx fs)) : ∃ mA, ObjM h a dx C mA ∧ (∀ f, RelO (fs.lookup f) (mA f)) ∧ PySem.Within mA (fs.map (·.1)) ∧ fs.length ≤ 1000 ∧ H dx = some (.own a) := by
  obtain ⟨d, z, ne, ob, mA, n, r, q⟩ := (show ObjOk P w H h a (.ins C dx fs) from hok a _ e)
  exact ⟨mA, ⟨ob, n, ne⟩, r, q, z, d⟩
end

/-! ### what of the text a class must have -/
structure Cls (K : PySem.W.Frag) (C : Addr) : Prop where
  pg : PySem.W.plainGet K C Str.empty = true
  hd : PySem.W.hasDictIn K C = true
  po : PySem.W.plainOver K C = true
  sa : PySem.W.findIn K (.ref C) "__setattr__" = some (some (.builtin "object.__setattr__"))
theorem Cls.get {K : PySem.W.Frag} {C : Addr} (c : Cls K C) (f : Str) : PySem.W.plainGet K C f = true := c.pg
/-- no class of it has the name -/
def NoAttr (K : PySem.W.Frag) (C : Addr) (f : Str) : Prop := PySem.W.findIn K (.ref C) f = some none
theorem NoAttr.taker {K : PySem.W.Frag} {C : Addr} {f : Str} (n : NoAttr K C f) : PySem.W.takerIn K C f = some none := by
  unfold PySem.W.takerIn
  rw [show PySem.W.findIn K (.ref C) f = some none from n]
  rfl
/-- a constant of the class -/
structure Con (K : PySem.W.Frag) (C : Addr) (f : Str) (v : V) (u : Value) : Prop where
  at_ : PySem.W.findIn K (.ref C) f = some (some u)
  rel : RelV v u
  get : PySem.W.specialIn K u "__get__" = some none
  cp : PySem.W.copiedNames.contains f = false
/-- a method: a plain def of the class or of one above it -/
structure Meth (K : PySem.W.Frag) (C : Addr) (m : Str) (f : Addr) : Prop where
  at_ : PySem.W.findIn K (.ref C) m = some (some (.ref f))
  fn : PySem.W.isFn K (.ref f) = true
  kp : PySem.W.keepIn K (.ref f) = true

section
variable {X : Cx} {pins : List (Addr × Obj)} {σ : St} {H : Hp} {s : Shared} {a C dx : Addr} {fs : List (Str × V)} {f : Str} {v : V} {A : Around} {E : Value → Shared → Prop}

theorem getattr_ok {b : Bool} {Q : Value → Shared → Prop} (I : Inv X pins σ H s) (e : H a = some (.ins C dx fs)) (c : Cls X.K C) (n : NoAttr X.K C f) (l : fs.lookup f = some v)
    (h : ∀ u s', Inv X pins σ H s' → RelV v u → Q u s') : wpAny (model X.prog X.w) A (getAttr (.ref a) f b) Q E s := by
  obtain ⟨mA, O, r, _, _, _⟩ := ins_get I.hok e
  obtain ⟨u, hu, ru⟩ := RelO.some_of (v := v) (o := mA f) (by rw [← l]; exact r f)
  exact get_map I.kIn O (c.get f) c.hd n hu (handed_of ru) (h u _ (I.tok _) ru)

theorem getcon_ok {b : Bool} {u : Value} {Q : Value → Shared → Prop} (I : Inv X pins σ H s) (e : H a = some (.ins C dx fs)) (c : Cls X.K C) (k : Con X.K C f v u) (l : fs.lookup f = none)
    (h : ∀ s', Inv X pins σ H s' → Q u s') : wpAny (model X.prog X.w) A (getAttr (.ref a) f b) Q E s := by
  obtain ⟨mA, O, r, _, _, _⟩ := ins_get I.hok e
  have hn : mA f = none := RelO.none_of (by rw [← l]; exact r f)
  exact get_const I.kIn O (c.get f) c.hd k.at_ k.get k.cp hn (handed_of k.rel) (h _ (I.tok _))

theorem getmeth_ok {m : Str} {g : Addr} {pl : Sem Bool} {Q : Value × List Value → Shared → Prop} (I : Inv X pins σ H s) (e : H a = some (.ins C dx fs)) (c : Cls X.K C) (k : Meth X.K C m g) (l : fs.lookup m = none)
    (h : Q (.ref g, [.ref a]) s) : wpAny (model X.prog X.w) A (getMethod (.ref a) m pl) Q E s := by
  obtain ⟨mA, O, r, _, _, _⟩ := ins_get I.hok e
  have hn : mA m = none := RelO.none_of (by rw [← l]; exact r m)
  exact get_meth I.kIn O (c.get m) k.at_ k.fn hn h

theorem setattr_ok {y : V} {u : Value} {Q : Unit → Shared → Prop} (I : Inv X pins σ H s) (e : H a = some (.ins C dx fs)) (c : Cls X.K C) (n : NoAttr X.K C f) (hl : fs.length < 1000) (ry : RelV y u)
    (h : ∀ s', Inv X pins σ (upd H a (.ins C dx (putF f y fs))) s' → Q () s') : wpAny (model X.prog X.w) A (setAttr (.ref a) f u) Q E s := by
  obtain ⟨mA, O, r, wi, _, ho⟩ := ins_get I.hok e
  have hz : (fs.map (·.1)).length ≤ sizeLine := by rw [List.length_map, sizeLine_eq]; omega
  refine set_map I.kIn O c.sa c.po n.taker c.hd wi hz fun h' O' sb => h _ ?_
  have hd : ∃ o, h'.get? dx = some o := let ⟨o, _, _, e', _⟩ := O'.ns; ⟨o, e'⟩
  refine I.write (x := a) (e := dx) (by rw [e]; exact True.intro) (.inr ho) (fun b q hb z => (sb.2 b hb).trans z) hd ?_
  refine ⟨by rw [upd_ne O.ne]; exact ho, ?_, O.ne, O'.obj, _, O'.ns, fun g => ?_, fun g hg => ?_⟩
  · have := length_putF f y fs; omega
  · show RelO ((putF f y fs).lookup g) (if g = f then some u else mA g)
    rw [lookup_putF]
    by_cases q : g = f
    · rw [if_pos q, if_pos q]; exact ry
    · rw [if_neg q, if_neg q]; exact r g
  · by_cases q : g = f
    · rw [q]; exact (keys_putF f y fs).1
    · refine (keys_putF f y fs).2 g (wi g fun z => hg ?_)
      show (if g = f then some u else mA g) = none
      rw [if_neg q]; exact z

/-- a new instance, tracked, without attributes -/
theorem Inv.made (I : Inv X pins σ H s) : Inv X pins σ (upd (upd H s.heap.objs.size (.own (s.heap.objs.size + 1))) (s.heap.objs.size + 1) (.ins C s.heap.objs.size []))
    { s with heap := (s.heap.push PySem.W.emptyDict).push (PySem.W.instObj C s.heap.objs.size) } := by
  have e1 : (s.heap.push PySem.W.emptyDict).get? s.heap.objs.size = some PySem.W.emptyDict := Heap.get?_push_size s.heap rfl
  have e2 : ((s.heap.push PySem.W.emptyDict).push (PySem.W.instObj C s.heap.objs.size)).get? (s.heap.objs.size + 1) = some (PySem.W.instObj C s.heap.objs.size) := by
    have := Heap.get?_push_size (s.heap.push PySem.W.emptyDict) (o := PySem.W.instObj C s.heap.objs.size) rfl
    rwa [Heap.size_push] at this
  have e3 : (s.heap.push PySem.W.emptyDict).Ns s.heap.objs.size (fun _ => none) := ⟨PySem.W.emptyDict, #[], _, e1, rfl, (fun e he => absurd he (by simp)), fun _ => rfl⟩
  have I1 := I.laid (a := s.heap.objs.size) (o := .own (s.heap.objs.size + 1)) (h' := s.heap.push PySem.W.emptyDict) (t' := s.toks) (fun b u q => Heap.get?_push_of_some _ q) (Nat.le_refl _) ⟨_, e1⟩
  refine I1.laid (a := s.heap.objs.size + 1) (o := .ins C s.heap.objs.size []) (t' := s.toks) (fun b u q => Heap.get?_push_of_some _ q) (Nat.le_of_eq (Heap.size_push _ _)) ?_
  have ne : s.heap.objs.size ≠ s.heap.objs.size + 1 := Nat.ne_of_lt (Nat.lt_succ_self _)
  refine ⟨by rw [upd_ne ne, upd_same], Nat.zero_le _, ne, e2, fun _ => none, (Heap.Ns1.of_empty e3).at fun o q => Heap.get?_push_of_some _ q, fun _ => True.intro, fun y hy => absurd rfl hy⟩

/-- e.f where nothing but the object is asked: through attributeBase (super) and the last hold -/
theorem attr_of {prog : Program} {w : World} {env : Env} {e : Expr} {f : Str} {pos : Pos} {s : Shared} {Q : Value → Shared → Prop} (hb : attributeBase e f env (eval e env) = eval e env)
    (h : wpAny (model prog w) A (eval e env) (fun o s₁ => wpAny (model prog w) A (getAttr o f true) Q E s₁) E s) : wpAny (model prog w) A (eval (.Attribute e f pos) env) Q E s :=
  Attribute_any_ h (by rw [arm_eval_Attribute, hb])
end

/-! ### readings and rules -/
/-- e.f, an attribute of the instance -/
def tFld (K : PySem.W.Frag) (ta : TE) (f : Str) : TE := fun σ H Q => ta σ H fun x H1 => ∃ a C dx fs v, x = .ref a ∧ H1 a = some (.ins C dx fs) ∧ Cls K C ∧ NoAttr K C f ∧ fs.lookup f = some v ∧ Q v H1
/-- e.f, a constant of the class -/
def tCon (K : PySem.W.Frag) (ta : TE) (f : Str) : TE := fun σ H Q => ta σ H fun x H1 => ∃ a C dx fs v u, x = .ref a ∧ H1 a = some (.ins C dx fs) ∧ Cls K C ∧ Con K C f v u ∧ fs.lookup f = none ∧ Q v H1
/-- e.f = value -/
def sFld (K : PySem.W.Frag) (ta tv : TE) (f : Str) : TS := fun D σ H => tv σ H fun y H1 => ta σ H1 fun x H2 => ∃ a C dx fs, x = .ref a ∧ H2 a = some (.ins C dx fs) ∧ Cls K C ∧ NoAttr K C f ∧ fs.length < 1000 ∧
  D.nx σ (upd H2 a (.ins C dx (putF f y fs)))
/-- an augmented operator on two values -/
def InOp (X : Cx) (op : Operator) (rd : V → V → Hp → VK → Prop) : Prop :=
  ∀ (pins : List (Addr × Obj)) (s : Shared) (σ : St) (H : Hp) (x y : V) (u v : Value) (Q : VK), Inv X pins σ H s → RelV x u → RelV y v → rd x y H Q → wpAny (model X.prog X.w) X.A (inplaceOp op u v) (EP X pins σ Q) X.xe s
/-- e.f op= value -/
def sFldAug (K : PySem.W.Frag) (ta tv : TE) (rd : V → V → Hp → VK → Prop) (f : Str) : TS := fun D σ H => ta σ H fun x H1 => ∃ a C dx fs v, x = .ref a ∧ H1 a = some (.ins C dx fs) ∧ Cls K C ∧ NoAttr K C f ∧ fs.lookup f = some v ∧
  tv σ H1 fun y H2 => rd v y H2 fun z H3 => ∃ dx' fs', H3 a = some (.ins C dx' fs') ∧ fs'.length < 1000 ∧ D.nx σ (upd H3 a (.ins C dx' (putF f z fs')))

section
variable {X : Cx} {o e value : Expr} {f : Str} {pos pos' tpos : Pos} {ta tv : TE}
theorem pe_fld (he : PE X e ta) (hb : attributeBase e f X.env (eval e X.env) = eval e X.env) : PE X (.Attribute e f pos) (tFld X.K ta f) := by
  intro pins s σ H Q I h
  refine attr_of hb (thn (he pins s σ H _ I h) fun u s1 ⟨x, H1, I1, rx, a, C, dx, fs, v, ex, ea, c, n, l, q⟩ => ?_)
  subst ex
  obtain rfl : u = Value.ref a := rx
  exact getattr_ok I1 ea c n l fun u' s2 I2 ru => ⟨v, H1, I2, ru, q⟩
theorem pe_con (he : PE X e ta) (hb : attributeBase e f X.env (eval e X.env) = eval e X.env) : PE X (.Attribute e f pos) (tCon X.K ta f) := by
  intro pins s σ H Q I h
  refine attr_of hb (thn (he pins s σ H _ I h) fun u s1 ⟨x, H1, I1, rx, a, C, dx, fs, v, u0, ex, ea, c, k, l, q⟩ => ?_)
  subst ex
  obtain rfl : u = Value.ref a := rx
  exact getcon_ok I1 ea c k l fun s2 I2 => ⟨v, H1, I2, k.rel, q⟩
theorem ps_fld (ha : PE X o ta) (hv : PE X value tv) (hs : swapsWith value (some (.Attribute o f pos')) pos.line X.env = pure false) : PS X (.Assign [.Attribute o f pos'] value pos) (sFld X.K ta tv f) := by
  intro pins s σ H D I h
  refine plainObj_wpAny_Assign_Attribute (thn (hv pins s σ H _ I h) fun u s1 ⟨y, H1, I1, ry, q⟩ => thn (ha pins s1 σ H1 _ I1 q) fun ov s2 ⟨x, H2, I2, rx, a, C, dx, fs, ex, ea, c, n, l, q2⟩ => ?_) hs
  subst ex
  obtain rfl : ov = Value.ref a := rx
  exact setattr_ok I2 ea c n l ry fun s3 I3 => ⟨σ, _, I3, q2⟩
theorem ps_fldaug {op : Operator} {rd : V → V → Hp → VK → Prop} (ha : PE X o ta) (hv : PE X value tv) (hop : InOp X op rd) : PS X (.AugAssign (.Attribute o f tpos) op value pos) (sFldAug X.K ta tv rd f) := by
  intro pins s σ H D I h
  refine wpAny_AugAssign_AttributeAny (thn (ha pins s σ H _ I h) fun ov s1 ⟨x, H1, I1, rx, a, C, dx, fs, v, ex, ea, c, n, l, q⟩ => ?_)
  subst ex
  obtain rfl : ov = Value.ref a := rx
  refine getattr_ok I1 ea c n l fun u s2 I2 ru => thn (hv pins s2 σ H1 _ I2 q) fun w3 s3 ⟨y, H2, I3, ry, q3⟩ => thn (hop pins s3 σ H2 v y u w3 _ I3 ru ry q3) fun w4 s4 ⟨z, H3, I4, rz, dx', fs', ea', l', q4⟩ => ?_
  exact setattr_ok I4 ea' c n l' rz fun s5 I5 => ⟨σ, _, I5, q4⟩
def rAdd : V → V → Hp → VK → Prop := fun x y H Q => ∃ i j, x = .int i ∧ y = .int j ∧ Q (.int (i + j)) H
def rSub : V → V → Hp → VK → Prop := fun x y H Q => ∃ i j, x = .int i ∧ y = .int j ∧ Q (.int (i - j)) H
theorem in_add : InOp X .Add rAdd := by
  rintro pins s σ H x y u v Q I rx ry ⟨i, j, rfl, rfl, q⟩
  obtain ⟨t, rfl⟩ := (show ∃ t, u = Value.int i t from rx)
  obtain ⟨t', rfl⟩ := (show ∃ t', v = Value.int j t' from ry)
  exact PyProof.Rows.iadd_int ⟨.int (i + j), H, I.tok _, ⟨_, rfl⟩, q⟩
theorem in_sub : InOp X .Sub rSub := by
  rintro pins s σ H x y u v Q I rx ry ⟨i, j, rfl, rfl, q⟩
  obtain ⟨t, rfl⟩ := (show ∃ t, u = Value.int i t from rx)
  obtain ⟨t', rfl⟩ := (show ∃ t', v = Value.int j t' from ry)
  exact PyProof.Rows.isub_int ⟨.int (i - j), H, I.tok _, ⟨_, rfl⟩, q⟩

/-- what is between an instance and its method: the tree of a method call -/
theorem methcall_of {pl : Sem Bool} {m : Str} {apos : Pos} {args : List Expr} {pins : List (Addr × Obj)} {s : Shared} {σ : St} {H : Hp} {Q : Value → Shared → Prop} {te : TE} (he : PE X e te) (I : Inv X pins σ H s)
    (h : te σ H fun x H1 => ∃ a C dx fs g, x = .ref a ∧ H1 a = some (.ins C dx fs) ∧ Cls X.K C ∧ Meth X.K C m g ∧ fs.lookup m = none ∧
      ∀ s1, Inv X pins σ H1 s1 → wpAny (model X.prog X.w) X.A (callWith pos (.ref g) [.ref a] (backTo pos (starEach args X.env)) (backToKw pos (keywordEach [] X.env))) Q X.xe s1)
    (ht : eval (.Call (.Attribute e m apos) args [] pos) X.env = (do
      let ov ← eval e X.env
      standAt apos.atName
      let (f, first) ← holding [ov] (getMethod ov m pl)
      callWith pos f first (backTo pos (starEach args X.env)) (backToKw pos (keywordEach [] X.env)))) :
    wpAny (model X.prog X.w) X.A (eval (.Call (.Attribute e m apos) args [] pos) X.env) Q X.xe s := by
  refine PySem.W.methodCall_KW (pl := pl) (thn (he pins s σ H _ I h) fun u s1 ⟨x, H1, I1, rx, a, C, dx, fs, g, ex, ea, c, k, l, q⟩ => ?_) ht
  subst ex
  obtain rfl : u = Value.ref a := rx
  exact getmeth_ok I1 ea c k l (q s1 I1)
end

/-! ### isinstance -/
section
variable {X : Cx} {pins : List (Addr × Obj)} {σ : St} {H : Hp} {s : Shared} {A : Around} {E : Value → Shared → Prop} {Q : Value → Shared → Prop} {c : Value} {b : Bool}
/-- the type of a value, as the fragment's deciders take it; for an instance its class -/
inductive TyOf (K : PySem.W.Frag) (H : Hp) : V → Value → Prop where
  | non : TyOf K H .non (.type "NoneType")
  | bl (x : Bool) : TyOf K H (.bl x) (.type "bool")
  | int (i : Int) : TyOf K H (.int i) (.type "int")
  | str (x : Str) : TyOf K H (.str x) (.type "str")
  | flt (x : UInt64) : TyOf K H (.flt x) (.type "float")
  | lst {a : Addr} {xs : List V} (e : H a = some (.lst xs)) : TyOf K H (.ref a) (.type "list")
  | frz {a : Addr} {o : Obj} {xs : List V} (e : H a = some (.frz o (.lst xs))) : TyOf K H (.ref a) (.type "list")
  | tup {a : Addr} {xs : List V} (e : H a = some (.tup xs)) : TyOf K H (.ref a) (.type "tuple")
  | dK {a : Addr} {kvs : List (Key × V)} (e : H a = some (.dK kvs)) : TyOf K H (.ref a) (.type "dict")
  | dT {a : Addr} {kvs : List (List Key × V)} (e : H a = some (.dT kvs)) : TyOf K H (.ref a) (.type "dict")
  | ins {a C dx : Addr} {fs : List (Str × V)} (e : H a = some (.ins C dx fs)) (cl : Cls K C) (ha : PySem.W.findIn K (.ref C) "__class__" = some (some (.builtin "object.__class__")))
      (hn : PySem.W.specialIn K (.builtin "object.__class__") "__get__" = some (some (.builtin "getset_descriptor.__get__"))) (htk : PySem.W.takesIn K (.builtin "object.__class__") = some true)
      (hm : PySem.W.mroIn K C (.type "object") = some true) : TyOf K H (.ref a) (.ref C)
/-- isinstance(x, c) for one class c, a built-in or an own one: kitOne's answer -/
theorem isinst_ok {x : V} {u t : Value} (I : Inv X pins σ H s) (rx : RelV x u) (ty : TyOf X.K H x t) (e : PySem.W.kitOne X.K t c = some b) (h : ∀ tk, Q (.bool b) { s with toks := tk }) :
    wpAny (model X.prog X.w) A (call (.builtin "isinstance") [u, c]) Q E s := by
  cases ty with
  | non => cases (show u = Value.none from rx); exact PySem.W.kia_one PySem.W.kitx_none I.kIn True.intro e (fun z => nomatch z) h
  | bl y => cases (show u = Value.bool y from rx); exact PySem.W.kia_one PySem.W.kitx_bool I.kIn True.intro e (fun z => nomatch z) h
  | int i => obtain ⟨t, q⟩ := (show ∃ t, u = Value.int i t from rx); cases q; exact PySem.W.kia_one PySem.W.kitx_int I.kIn True.intro e (fun z => nomatch z) h
  | str y => obtain ⟨t, q⟩ := (show ∃ t, u = Value.str y t from rx); cases q; exact PySem.W.kia_one PySem.W.kitx_str I.kIn True.intro e (fun z => nomatch z) h
  | flt y => obtain ⟨t, q⟩ := (show ∃ t, u = Value.float y t from rx); cases q; exact PySem.W.kia_one PySem.W.kitx_float I.kIn True.intro e (fun z => nomatch z) h
  | @lst a xs ea =>
    cases (show u = Value.ref a from rx)
    obtain ⟨_, _, n, _, h1⟩ := (show ObjOk X.prog X.w H s.heap a (.lst xs) from I.hok a _ ea)
    exact PySem.W.kia_one PySem.W.kitx_list I.kIn ⟨_, h1, rfl⟩ e (fun z => nomatch z) h
  | @frz a ob xs ea =>
    cases (show u = Value.ref a from rx)
    obtain ⟨_, _, _, n, _, h1⟩ := (show ObjOk X.prog X.w H s.heap a (.frz ob (.lst xs)) from I.hok a _ ea)
    exact PySem.W.kia_one PySem.W.kitx_list I.kIn ⟨_, h1, rfl⟩ e (fun z => nomatch z) h
  | @tup a xs ea =>
    cases (show u = Value.ref a from rx)
    obtain ⟨_, _, _, p⟩ := (show ObjOk X.prog X.w H s.heap a (.tup xs) from I.hok a _ ea)
    obtain ⟨o, h1, h2, _⟩ := p
    exact PySem.W.kia_one PySem.W.kitx_tuple I.kIn ⟨o, h1, h2⟩ e (fun z => nomatch z) h
  | @dK a kvs ea =>
    cases (show u = Value.ref a from rx)
    obtain ⟨_, _, vs, _, p⟩ := (show ObjOk X.prog X.w H s.heap a (.dK kvs) from I.hok a _ ea)
    obtain ⟨o, es, ep, h1, h2, _⟩ := p
    exact PySem.W.kia_one PySem.W.kitx_dict I.kIn ⟨o, h1, h2.1⟩ e (fun z => nomatch z) h
  | @dT a kvs ea =>
    cases (show u = Value.ref a from rx)
    obtain ⟨_, _, xs, _, o, es, ep, h1, h2, _⟩ := (show ObjOk X.prog X.w H s.heap a (.dT kvs) from I.hok a _ ea)
    exact PySem.W.kia_one PySem.W.kitx_dict I.kIn ⟨o, h1, h2.1⟩ e (fun z => nomatch z) h
  | @ins a C dx fs ea cl ha hn htk hm =>
    cases (show u = Value.ref a from rx)
    obtain ⟨mA, O, _⟩ := ins_get I.hok ea
    obtain ⟨od, J, _⟩ := O.look
    exact PySem.W.kia_one (PySem.W.kitx_own (cl.get _) cl.hd ha hn htk hm) I.kIn J e (fun z => nomatch z) h
end
end L2

namespace L2
open PySem PySem.Spec PyProof.Rows

/-! ### room -/
structure Room (k : Nat) (A : Around) : Prop where
  hd : A.handled = none
  dp : A.depth + 3 * k + 5 < recursionLimit
  un : A.units + 16 * k + 200 < cLine
theorem Room.mono {j k : Nat} {A : Around} (r : Room k A) (h : j ≤ k) : Room j A := ⟨r.hd, by have := r.dp; omega, by have := r.un; omega⟩
theorem Room.deeper {k : Nat} {A : Around} (r : Room (k + 1) A) (env : Env) : Room k (A.deeper env) :=
  ⟨r.hd, by have := r.dp; show A.depth + 1 + 3 * k + 5 < _; omega, by have := r.un; show A.units + 3 + 16 * k + 200 < _; omega⟩
theorem Room.in1 {k : Nat} {A : Around} (r : Room (k + 1) A) : Room k A.in1 :=
  ⟨r.hd, by have := r.dp; show A.depth + 3 * k + 5 < _; omega, by have := r.un; show A.units + 1 + 16 * k + 200 < _; omega⟩
theorem make_depth {A : Around} {C : Addr} {us : List Value} {kw : List (Str × Value)} : (A.under (.builtin "type.__call__" ⟨.ref C :: us, kw⟩)).depth = A.depth + 1 := by
  first | rfl | simp [Around.under, Code.weight, Code.isCreation, Code.isGuard, Code.isCaller, Code.frames, Code.isFrame, guardIds]
theorem make_units {A : Around} {C : Addr} {us : List Value} {kw : List (Str × Value)} : (A.under (.builtin "type.__call__" ⟨.ref C :: us, kw⟩)).units = A.units + 1 := by
  first | rfl | simp [Around.under, Code.cUnits, Code.frames, Code.isFrame]
theorem Room.make {k : Nat} {A : Around} (r : Room (k + 1) A) (C : Addr) (us : List Value) (kw : List (Str × Value)) : Room k (A.under (.builtin "type.__call__" ⟨.ref C :: us, kw⟩)) :=
  ⟨r.hd, by have := r.dp; rw [make_depth]; omega, by have := r.un; rw [make_units]; omega⟩
theorem Room.depth {k : Nat} {A : Around} (r : Room k A) : A.depth < recursionLimit := by have := r.dp; omega
theorem Room.units {k : Nat} {A : Around} (r : Room k A) : A.units + 64 < cLine := by have := r.un; omega
theorem Room.units0 {k : Nat} {A : Around} (r : Room k A) : A.units < cLine := by have := r.un; omega

/-! ### argument lists and displays -/
def tNil : TA := fun _ H Q => Q [] H
def tCons (ta : TE) (tr : TA) : TA := fun σ H Q => ta σ H fun x H1 => tr σ H1 fun xs H2 => Q (x :: xs) H2
section
variable {X : Cx} {e : Expr} {es : List Expr} {te : TE} {t : TA} {pos : Pos}
theorem pa_nil : PA X [] tNil := fun _ _ _ _ H Q I h => Calls.spliced_nil ⟨[], H, I, .nil, h⟩
theorem pa_cons (ha : PE X e te) (hr : PA X es t) (hs : starEach (e :: es) X.env = (false, eval e X.env) :: starEach es X.env := by rfl) : PA X (e :: es) (tCons te t) := by
  intro pos pins s σ H Q I h
  rw [hs]
  show wpAny _ _ (spliced ((false, eval e X.env) :: backTo pos (starEach es X.env))) _ _ s
  refine Calls.spliced_cons (thn (ha pins s σ H _ I h) fun u s1 ⟨x, H1, I1, r1, q1⟩ => ?_)
  exact thn (hr pos pins s1 σ H1 _ I1 q1) fun us s2 ⟨xs, H2, I2, r2, q2⟩ => ⟨x :: xs, H2, I2, .cons r1 r2, q2⟩

/-- a tuple, a list of written items -/
def tTup (t : TA) : TE := fun σ H Q => t σ H fun xs H1 => xs.length ≤ sizeLine ∧ ∀ p, H1 p = none → Q (.ref p) (upd H1 p (.tup xs))
def tLst (t : TA) : TE := fun σ H Q => t σ H fun xs H1 => xs.length ≤ sizeLine ∧ ∀ p, H1 p = none → Q (.ref p) (upd H1 p (.lst xs))
theorem pe_tup {x1} (h : PA X es t) : PE X (.Tuple es x1 pos) (tTup t) := by
  intro pins s σ H Q I hq
  refine wpAny_Tuple_spliced (thn (h pos pins s σ H _ I hq) fun us s1 ⟨xs, H1, I1, r, z, q⟩ => ⟨by rw [← r.length]; exact z, ?_⟩)
  have hf : H1 s1.heap.objs.size = none := I1.hok.fresh (Nat.le_refl _)
  refine ⟨.ref s1.heap.objs.size, upd H1 s1.heap.objs.size (.tup xs), I1.laid (t' := s1.toks) (fun b u e => Heap.get?_push_of_some _ e) (Nat.le_refl _) ?_, rfl, q _ hf⟩
  exact ⟨z, us, r, ⟨_, Heap.get?_push_size _ rfl, rfl, _, rfl⟩⟩
theorem pe_lst (h : PA X es t) : PE X (.List es pos) (tLst t) := by
  intro pins s σ H Q I hq
  refine wpAny_List_spliced (thn (h pos pins s σ H _ I hq) fun us s1 ⟨xs, H1, I1, r, z, q⟩ => ⟨by rw [← r.length]; exact z, ?_⟩)
  have hf : H1 s1.heap.objs.size = none := I1.hok.fresh (Nat.le_refl _)
  refine ⟨.ref s1.heap.objs.size, upd H1 s1.heap.objs.size (.lst xs), I1.laid (t' := s1.toks) (fun b u e => Heap.get?_push_of_some _ e) (Nat.le_refl _) ?_, rfl, q _ hf⟩
  exact ⟨z, us, 0, r, Heap.get?_push_size _ rfl⟩
end

/-! ### what a def promises -/
/-- a def's promise: the bound arguments in the parameters' order, the heap, the wanted end, the wanted exception -/
abbrev Sp := List V → Hp → VK → XK → Prop
/-- how an exception lies behind a call (file 08 gives it): the callers' frames, abstract heap and state ahead of the call, the wish, the exception, the state -/
abbrev CXT := List Env → Hp → Shared → XK → Value → Shared → Prop

/-- the state at a call -/
structure Env0 (P : Program) (w : World) (K : PySem.W.Frag) (mg : Str → Option Value) (base : Heap) (A : Around) (outer : List Env) (s : Shared) (H : Hp) : Prop where
  frames : A.frames = some outer
  mod : Mod K mg base
  bs : ∀ b o, base.get? b = some o → s.heap.get? b = some o ∧ H b = none
  bsz : base.objs.size ≤ s.heap.objs.size
  funs : s.heap.FunFrames base outer
  frf : ∀ b ∈ frs outer, H b = none
  hok : HOk P w H s.heap
  bare : AllBare s.gens
/-- a call's end -/
def CE (outer : List Env) (P : Program) (w : World) (H : Hp) (s : Shared) (Q : VK) (u : Value) (s' : Shared) : Prop :=
  ∃ v H', s'.os = s.os ∧ AllBare s'.gens ∧ Un (frs outer) [] H H' s.heap s'.heap ∧ HOk P w H' s'.heap ∧ RelV v u ∧ Q v H'
def CR (CX : CXT) (outer : List Env) (P : Program) (w : World) (H : Hp) (s : Shared) (Q : VK) (E : XK) (r : Result) (s' : Shared) : Prop :=
  match r with
  | .ok (.ret u) => CE outer P w H s Q u s'
  | .ok _ => False
  | .error e => CX outer H s E e s'
structure FnOk (P : Program) (w : World) (K : PySem.W.Frag) (mg : Str → Option Value) (base : Heap) (CX : CXT) (k : Nat) (f : Addr) (fd : FuncData) (ps : List Str) (sp : Sp) : Prop where
  len : ∀ vs H Q E, sp vs H Q E → vs.length = ps.length
  run : ∀ (A : Around) (outer : List Env) (s : Shared) (H : Hp) (args : Args) (us : List Value) (vs : List V) (Q : VK) (E : XK), Room k A → Env0 P w K mg base A outer s H → BindsTo s fd args (ps.zip us) → Vals vs us → sp vs H Q E →
    codeAny (model P w) A (.call (.ref f) args) (CR CX outer P w H s Q E) s
theorem FnOk.mono {P : Program} {w : World} {K : PySem.W.Frag} {mg : Str → Option Value} {base : Heap} {CX : CXT} {j k : Nat} {f : Addr} {fd : FuncData} {ps : List Str} {sp : Sp} (F : FnOk P w K mg base CX j f fd ps sp) (h : j ≤ k) :
    FnOk P w K mg base CX k f fd ps sp := ⟨F.len, fun A outer s H args us vs Q E hr => F.run A outer s H args us vs Q E (hr.mono h)⟩
/-- a weaker promise -/
theorem FnOk.imp {P : Program} {w : World} {K : PySem.W.Frag} {mg : Str → Option Value} {base : Heap} {CX : CXT} {k : Nat} {f : Addr} {fd : FuncData} {ps : List Str} {sp sp' : Sp} (F : FnOk P w K mg base CX k f fd ps sp)
    (h : ∀ vs H Q E, sp' vs H Q E → sp vs H Q E) : FnOk P w K mg base CX k f fd ps sp' :=
  ⟨fun vs H Q E q => F.len vs H Q E (h _ _ _ _ q), fun A outer s H args us vs Q E hr he hb hv hs => F.run A outer s H args us vs Q E hr he hb hv (h _ _ _ _ hs)⟩

theorem Env0.make {P : Program} {w : World} {K : PySem.W.Frag} {mg : Str → Option Value} {base : Heap} {A : Around} {outer : List Env} {s : Shared} {H : Hp} (e : Env0 P w K mg base A outer s H) (C : Addr) (us : List Value) (kw : List (Str × Value)) :
    Env0 P w K mg base (A.under (.builtin "type.__call__" ⟨.ref C :: us, kw⟩)) outer s H := ⟨by first | exact e.frames | (simpa [Around.under, Code.envs, Code.isFrame, pushEnvs] using e.frames), e.mod, e.bs, e.bsz, e.funs, e.frf, e.hok, e.bare⟩
theorem Env0.in1 {P : Program} {w : World} {K : PySem.W.Frag} {mg : Str → Option Value} {base : Heap} {A : Around} {outer : List Env} {s : Shared} {H : Hp} (e : Env0 P w K mg base A outer s H) :
    Env0 P w K mg base A.in1 outer s H := ⟨e.frames, e.mod, e.bs, e.bsz, e.funs, e.frf, e.hok, e.bare⟩

section
variable {X : Cx} {pins : List (Addr × Obj)} {σ : St} {H : Hp} {s s' : Shared}
/-- from a body: what a callee wants -/
theorem Inv.env0 (I : Inv X pins σ H s) : Env0 X.prog X.w X.K X.mg X.base X.A X.stack s H :=
  ⟨I.ok.frames, I.ok.mod, I.bs, Nat.le_trans I.ok.bsz I.sz, I.stack, I.stkFree, I.hok, I.bare⟩
/-- behind a call -/
theorem Inv.after {Q : VK} {u : Value} (I : Inv X pins σ H s) (h : CE X.stack X.prog X.w H s Q u s') : EP X pins σ Q u s' := by
  obtain ⟨v, H', os, bare, un, hok, r, q⟩ := h
  obtain ⟨hh, g, d, t, os'⟩ := s'
  obtain rfl : os' = s.os := os
  exact ⟨v, H', I.call (h' := hh) (g' := g) (d' := d) (t' := t) (ch := []) un hok bare (fun b z => absurd z (by simp)), r, q⟩
end

/-! ### calls -/
/-- f(..): the written arguments, then the defaults dvs; E: what is wanted of an exception -/
def tCall (sp : Sp) (dvs : List V) (E : XK) (t : TA) : TE := fun σ H Q => t σ H fun vs H1 => sp (vs ++ dvs) H1 Q E
/-- o.m(..) of an instance of the class at C -/
def tMeth (C : Addr) (m : Str) (sp : Sp) (dvs : List V) (E : XK) (ta : TE) (t : TA) : TE := fun σ H Q => ta σ H fun x H1 => ∃ a dx fs, x = .ref a ∧ H1 a = some (.ins C dx fs) ∧ fs.lookup m = none ∧
  t σ H1 fun vs H2 => sp (x :: (vs ++ dvs)) H2 Q E
/-- C(..): a new instance and its dict, then __init__ -/
def tMake (C : Addr) (sp : Sp) (dvs : List V) (E : XK) (t : TA) : TE := fun σ H Q => t σ H fun vs H1 => ∀ x dx, H1 x = none → H1 dx = none → dx ≠ x →
  sp (.ref x :: (vs ++ dvs)) (upd (upd H1 dx (.own x)) x (.ins C dx [])) (fun v H2 => v = .non ∧ Q (.ref x) H2) E

/-- how the parameters are bound: us the positional arguments, kw the keywords' values by name, ds the defaults that fill up -/
def Binds (K : PySem.W.Frag) (fd : FuncData) (ps : List Str) (ds : List Value) : Prop :=
  ∀ (s : Shared) (us : List Value), K.In s.heap → (us ++ ds).length = ps.length → BindsTo s fd ⟨us, []⟩ (ps.zip (us ++ ds))
/-- every parameter is given -/
theorem Binds.all {K : PySem.W.Frag} {fd : FuncData} {ps : List Str} (h : ∀ us : List Value, us.length = ps.length → bindArgs fd ⟨us, []⟩ = pure (ps.zip us)) : Binds K fd ps [] := fun s us _ hl => by
  rw [List.append_nil] at hl ⊢
  exact .of_eq (h us hl)

/-- an exception of a callee reaches what this body wants of exceptions -/
def Passes (CX : CXT) (X : Cx) (E : XK) : Prop := ∀ (pins : List (Addr × Obj)) (σ : St) (H : Hp) (s : Shared) (e : Value) (s' : Shared), Inv X pins σ H s → CX X.stack H s E e s' → X.xe e s'

section
variable {X : Cx} {CX : CXT} {k : Nat} {f C : Addr} {fd : FuncData} {ps : List Str} {sp : Sp} {dvs : List V} {ds : List Value} {E : XK} {x m : Str} {p pos apos : Pos} {e o : Expr} {es : List Expr} {ta : TE} {t : TA}

/-- the callee runs -/
theorem run_fn {pins : List (Addr × Obj)} {σ : St} {H : Hp} {s : Shared} {Q : VK} {us : List Value} {vs : List V} (F : FnOk X.prog X.w X.K X.mg X.base CX k f fd ps sp) (hr : Room k X.A) (hb : Binds X.K fd ps ds) (hd : Vals dvs ds) (hx : Passes CX X E)
    (I : Inv X pins σ H s) (r : Vals vs us) (h : sp (vs ++ dvs) H Q E) : wpAny (model X.prog X.w) X.A (call (.ref f) us) (EP X pins σ Q) X.xe s := by
  have r2 : Vals (vs ++ dvs) (us ++ ds) := r.append hd
  have hl : (us ++ ds).length = ps.length := by rw [← r2.length]; exact F.len _ _ _ _ h
  refine wpAny_call (codeAny_mono (F.run X.A X.stack s H ⟨us, []⟩ (us ++ ds) (vs ++ dvs) Q E hr I.env0 (hb s us I.kIn hl) r2 h) fun r s' hq => ?_)
  cases r with
  | error e => exact hx pins σ H s e s' I hq
  | ok fl =>
    cases fl with
    | ret u => exact I.after hq
    | next => exact False.elim hq
    | brk => exact False.elim hq
    | cont => exact False.elim hq

theorem pe_call (F : FnOk X.prog X.w X.K X.mg X.base CX k f fd ps sp) (hr : Room k X.A) (hg : Gl X x) (hm : X.mg x = some (.ref f)) (hk : PySem.W.keepIn X.K (.ref f) = true) (hb : Binds X.K fd ps ds) (hd : Vals dvs ds) (hx : Passes CX X E)
    (ha : PA X (e :: es) t) (hdb : (x == ("__debug__" : Str)) = false := by decide) (he : starEach (e :: es) X.env = (false, eval e X.env) :: starEach es X.env := by rfl) (hpl : (backTo pos (starEach es X.env)).any (·.1) = false := by rfl) :
    PE X (.Call (.Name x p) (e :: es) [] pos) (tCall sp dvs E t) := by
  intro pins s σ H Q I h
  refine wpAny_Call_Name_kw (ld_glob I hg hm ?_ hdb)
  refine PySem.W.callWith_K (h₀ := X.base) I.ok.mod.kin hk (thn (ha pos pins s σ H _ I h) fun us s1 ⟨vs, H1, I1, r, q⟩ => ⟨I1.kIn, ?_⟩) he hpl
  exact run_fn F hr hb hd hx I1 r q
theorem pe_call0 (F : FnOk X.prog X.w X.K X.mg X.base CX k f fd ps sp) (hr : Room k X.A) (hg : Gl X x) (hm : X.mg x = some (.ref f)) (hk : PySem.W.keepIn X.K (.ref f) = true) (hb : Binds X.K fd ps ds) (hd : Vals dvs ds) (hx : Passes CX X E)
    (hdb : (x == ("__debug__" : Str)) = false := by decide) : PE X (.Call (.Name x p) [] [] pos) (tCall sp dvs E tNil) := by
  intro pins s σ H Q I h
  refine wpAny_Call_Name_kw (ld_glob I hg hm ?_ hdb)
  exact PySem.W.callWith_K0 I.kIn hk (run_fn (us := []) F hr hb hd hx I .nil h)

/-- o.m(e, ..) -/
theorem pe_meth {pl : Sem Bool} (he : PE X o ta) (c : Cls X.K C) (hm : Meth X.K C m f) (F : FnOk X.prog X.w X.K X.mg X.base CX k f fd ps sp) (hr : Room k X.A) (hb : Binds X.K fd ps ds) (hd : Vals dvs ds) (hx : Passes CX X E) (ha : PA X (e :: es) t)
    (hst : starEach (e :: es) X.env = (false, eval e X.env) :: starEach es X.env := by rfl) (hpl : (backTo pos (starEach es X.env)).any (·.1) = false := by rfl)
    (ht : eval (.Call (.Attribute o m apos) (e :: es) [] pos) X.env = (do
      let ov ← eval o X.env
      standAt apos.atName
      let (f, first) ← holding [ov] (getMethod ov m pl)
      callWith pos f first (backTo pos (starEach (e :: es) X.env)) (backToKw pos (keywordEach [] X.env))) := by rfl) :
    PE X (.Call (.Attribute o m apos) (e :: es) [] pos) (tMeth C m sp dvs E ta t) := by
  intro pins s σ H Q I h
  refine PySem.W.methodCall_KW (pl := pl) (thn (he pins s σ H _ I h) fun u s1 ⟨x, H1, I1, rx, a, dx, fs, ex, ea, l, q⟩ => ?_) ht
  subst ex
  obtain rfl : u = Value.ref a := rx
  refine getmeth_ok I1 ea c hm l ?_
  refine PySem.W.callWith_K (first := [.ref a]) (h₀ := X.base) I.ok.mod.kin hm.kp (thn (ha pos pins s1 σ H1 _ I1 q) fun us s2 ⟨vs, H2, I2, r, q2⟩ => ⟨I2.kIn, ?_⟩) hst hpl
  exact run_fn (us := .ref a :: us) (vs := .ref a :: vs) F hr hb hd hx I2 (.cons rfl r) q2
/-- o.m() -/
theorem pe_meth0 {pl : Sem Bool} (he : PE X o ta) (c : Cls X.K C) (hm : Meth X.K C m f) (F : FnOk X.prog X.w X.K X.mg X.base CX k f fd ps sp) (hr : Room k X.A) (hb : Binds X.K fd ps ds) (hd : Vals dvs ds) (hx : Passes CX X E)
    (ht : eval (.Call (.Attribute o m apos) [] [] pos) X.env = (do
      let ov ← eval o X.env
      standAt apos.atName
      let (f, first) ← holding [ov] (getMethod ov m pl)
      callWith pos f first (backTo pos (starEach [] X.env)) (backToKw pos (keywordEach [] X.env))) := by rfl) :
    PE X (.Call (.Attribute o m apos) [] [] pos) (tMeth C m sp dvs E ta tNil) := by
  intro pins s σ H Q I h
  refine PySem.W.methodCall_KW (pl := pl) (thn (he pins s σ H _ I h) fun u s1 ⟨x, H1, I1, rx, a, dx, fs, ex, ea, l, q⟩ => ?_) ht
  subst ex
  obtain rfl : u = Value.ref a := rx
  refine getmeth_ok I1 ea c hm l ?_
  exact PySem.W.callWith_K0 (first := [.ref a]) I1.kIn hm.kp (run_fn (us := [.ref a]) (vs := [.ref a]) F hr hb hd hx I1 (.cons rfl .nil) q)

/-- what a class must have to be made -/
structure Mk (K : PySem.W.Frag) (C f : Addr) : Prop where
  makes : PySem.W.makesIn K C = true
  init : PySem.W.findIn K (.ref C) "__init__" = some (some (.ref f))
  fn : PySem.W.isFn K (.ref f) = true
  kp : PySem.W.keepIn K (.ref C) = true

theorem run_make {pins : List (Addr × Obj)} {σ : St} {H : Hp} {s : Shared} {Q : VK} {us : List Value} {vs : List V} (M : Mk X.K C f) (F : FnOk X.prog X.w X.K X.mg X.base CX k f fd ps sp) (hr : Room (k + 1) X.A) (hb : Binds X.K fd ps ds) (hd : Vals dvs ds)
    (hx : Passes CX X E) (I : Inv X pins σ H s) (r : Vals vs us)
    (h : ∀ x dx, H x = none → H dx = none → dx ≠ x → sp (.ref x :: (vs ++ dvs)) (upd (upd H dx (.own x)) x (.ins C dx [])) (fun v H2 => v = .non ∧ Q (.ref x) H2) E) :
    wpAny (model X.prog X.w) X.A (call (.ref C) us) (EP X pins σ Q) X.xe s := by
  have hq := h (s.heap.objs.size + 1) s.heap.objs.size (I.hok.fresh (Nat.le_succ _)) (I.hok.fresh (Nat.le_refl _)) (Nat.ne_of_lt (Nat.lt_succ_self _))
  have I2 := Inv.made (C := C) I
  have r2 : Vals (V.ref (s.heap.objs.size + 1) :: (vs ++ dvs)) (Value.ref (s.heap.objs.size + 1) :: (us ++ ds)) := .cons rfl (r.append hd)
  have hl : (Value.ref (s.heap.objs.size + 1) :: us ++ ds).length = ps.length := by
    have e := r2.length
    rw [F.len _ _ _ _ hq] at e
    exact e.symm
  refine wpAny_call (make_map (f := f) I.kIn M.makes M.init (beq_iff_eq.mp M.fn) (codeAny_mono (F.run _ X.stack _ _ ⟨Value.ref (s.heap.objs.size + 1) :: us, []⟩ (Value.ref (s.heap.objs.size + 1) :: (us ++ ds)) _ _ E (hr.make C us [])
    (I2.env0.make C us []) (hb _ (Value.ref (s.heap.objs.size + 1) :: us) I2.kIn hl) r2 hq) fun r s' hq' => ?_))
  cases r with
  | error e => exact hx pins σ _ _ e s' I2 hq'
  | ok fl =>
    cases fl with
    | ret u =>
      obtain ⟨v, H', I3, rv, ev, q3⟩ := I2.after hq'
      subst ev
      exact ⟨rv, ⟨V.ref (s.heap.objs.size + 1), H', I3, rfl, q3⟩⟩
    | next => exact False.elim hq'
    | brk => exact False.elim hq'
    | cont => exact False.elim hq'
theorem pe_make (M : Mk X.K C f) (F : FnOk X.prog X.w X.K X.mg X.base CX k f fd ps sp) (hr : Room (k + 1) X.A) (hg : Gl X x) (hm : X.mg x = some (.ref C)) (hb : Binds X.K fd ps ds) (hd : Vals dvs ds) (hx : Passes CX X E)
    (ha : PA X (e :: es) t) (hdb : (x == ("__debug__" : Str)) = false := by decide) (he : starEach (e :: es) X.env = (false, eval e X.env) :: starEach es X.env := by rfl) (hpl : (backTo pos (starEach es X.env)).any (·.1) = false := by rfl) :
    PE X (.Call (.Name x p) (e :: es) [] pos) (tMake C sp dvs E t) := by
  intro pins s σ H Q I h
  refine wpAny_Call_Name_kw (ld_glob I hg hm ?_ hdb)
  refine PySem.W.callWith_K (h₀ := X.base) I.ok.mod.kin M.kp (thn (ha pos pins s σ H _ I h) fun us s1 ⟨vs, H1, I1, r, q⟩ => ⟨I1.kIn, ?_⟩) he hpl
  exact run_make M F hr hb hd hx I1 r q
theorem pe_make0 (M : Mk X.K C f) (F : FnOk X.prog X.w X.K X.mg X.base CX k f fd ps sp) (hr : Room (k + 1) X.A) (hg : Gl X x) (hm : X.mg x = some (.ref C)) (hb : Binds X.K fd ps ds) (hd : Vals dvs ds) (hx : Passes CX X E)
    (hdb : (x == ("__debug__" : Str)) = false := by decide) : PE X (.Call (.Name x p) [] [] pos) (tMake C sp dvs E tNil) := by
  intro pins s σ H Q I h
  refine wpAny_Call_Name_kw (ld_glob I hg hm ?_ hdb)
  exact PySem.W.callWith_K0 I.kIn M.kp (run_make (us := []) M F hr hb hd hx I .nil h)
end

/-! ### keywords -/
/-- the values of the keywords, from the left -/
def PK (X : Cx) (kws : List Keyword) (t : TA) : Prop :=
  ∀ (pos : Pos) (pins : List (Addr × Obj)) (s : Shared) (σ : St) (H : Hp) (Q : List V → Hp → Prop), Inv X pins σ H s → t σ H Q → wpAny (model X.prog X.w) X.A (evalAll ((backToKw pos (keywordEach kws X.env)).map (·.2))) (AP X pins σ Q) X.xe s
section
variable {X : Cx} {CX : CXT} {k : Nat} {f C : Addr} {fd : FuncData} {ps ks : List Str} {sp : Sp} {E : XK} {x m : Str} {p pos apos kpos : Pos} {e o : Expr} {es : List Expr} {kws : List Keyword} {te ta : TE} {t tk : TA} {nm : Option Str}
theorem pk_nil : PK X [] tNil := fun _ _ _ _ H Q I h => wpAny_evalAll_nil ⟨[], H, I, .nil, h⟩
theorem pk_cons (ha : PE X e te) (hr : PK X kws t) : PK X (⟨nm, e, kpos⟩ :: kws) (tCons te t) := by
  intro pos pins s σ H Q I h
  show wpAny _ _ (evalAll ((do let v ← eval e X.env; standAt pos; pure v) :: (backToKw pos (keywordEach kws X.env)).map (·.2))) _ _ s
  refine wpAny_evalAll_cons (wpAny_bind (thn (ha pins s σ H _ I h) fun u s1 ⟨x, H1, I1, r1, q1⟩ => wpAny_bind (wpAny_standAt (wpAny_pure ?_))))
  exact thn (hr pos pins s1 σ H1 _ I1 q1) fun us s2 ⟨xs, H2, I2, r2, q2⟩ => ⟨x :: xs, H2, I2, .cons r1 r2, q2⟩

/-- how a call with keywords binds: g puts the positional values us and the keywords' values ws (names ks) in the parameters' order, defaults among them -/
structure KBinds (K : PySem.W.Frag) (fd : FuncData) (ps ks : List Str) (g : List Value → List Value → List Value) (gV : List V → List V → List V) : Prop where
  to : ∀ (s : Shared) (us ws : List Value), K.In s.heap → (g us ws).length = ps.length → BindsTo s fd ⟨us, ks.zip ws⟩ (ps.zip (g us ws))
  rel : ∀ {vs : List V} {us : List Value} {zs : List V} {ws : List Value}, Vals vs us → Vals zs ws → Vals (gV vs zs) (g us ws)
def tCallK (sp : Sp) (gV : List V → List V → List V) (E : XK) (t tk : TA) : TE := fun σ H Q => t σ H fun vs H1 => tk σ H1 fun zs H2 => sp (gV vs zs) H2 Q E
variable {g : List Value → List Value → List Value} {gV : List V → List V → List V}
theorem run_fnk {pins : List (Addr × Obj)} {σ : St} {H : Hp} {s : Shared} {Q : VK} {us ws : List Value} {vs zs : List V} (F : FnOk X.prog X.w X.K X.mg X.base CX k f fd ps sp) (hr : Room k X.A) (hb : KBinds X.K fd ps ks g gV) (hx : Passes CX X E)
    (I : Inv X pins σ H s) (r : Vals vs us) (rz : Vals zs ws) (h : sp (gV vs zs) H Q E) : wpAny (model X.prog X.w) X.A (call (.ref f) us (ks.zip ws)) (EP X pins σ Q) X.xe s := by
  have r2 := hb.rel r rz
  have hl : (g us ws).length = ps.length := by rw [← r2.length]; exact F.len _ _ _ _ h
  refine wpAny_call (codeAny_mono (F.run X.A X.stack s H ⟨us, ks.zip ws⟩ (g us ws) (gV vs zs) Q E hr I.env0 (hb.to s us ws I.kIn hl) r2 h) fun r s' hq => ?_)
  cases r with
  | error e => exact hx pins σ H s e s' I hq
  | ok fl =>
    cases fl with
    | ret u => exact I.after hq
    | next => exact False.elim hq
    | brk => exact False.elim hq
    | cont => exact False.elim hq
/-- f(e, .., k = v, ..) -/
theorem pe_callK (F : FnOk X.prog X.w X.K X.mg X.base CX k f fd ps sp) (hr : Room k X.A) (hg : Gl X x) (hm : X.mg x = some (.ref f)) (hk : PySem.W.keepIn X.K (.ref f) = true) (hb : KBinds X.K fd ps ks g gV) (hx : Passes CX X E)
    (ha : PA X (e :: es) t) (hkw : PK X kws tk) (hall : (backToKw pos (keywordEach kws X.env)).all (·.1.isSome) = true := by rfl) (hks : (backToKw pos (keywordEach kws X.env)).filterMap (·.1) = ks := by rfl)
    (hdb : (x == ("__debug__" : Str)) = false := by decide) (he : starEach (e :: es) X.env = (false, eval e X.env) :: starEach es X.env := by rfl)
    (hpl : ((backTo pos (starEach (e :: es) X.env)).any (·.1) || (backToKw pos (keywordEach kws X.env)).any (·.1.isNone)) = false := by rfl) :
    PE X (.Call (.Name x p) (e :: es) kws pos) (tCallK sp gV E t tk) := by
  intro pins s σ H Q I h
  refine wpAny_Call_Name_kw (ld_glob I hg hm ?_ hdb)
  refine PySem.W.callWith_KW (h₀ := X.base) I.ok.mod.kin hk hall (thn (ha pos pins s σ H _ I h) fun us s1 ⟨vs, H1, I1, r, q⟩ => ?_) hpl he
  refine thn (hkw pos pins s1 σ H1 _ I1 q) fun ws s2 ⟨zs, H2, I2, rz, q2⟩ => ⟨I2.kIn, ?_⟩
  rw [hks]
  exact run_fnk F hr hb hx I2 r rz q2
end

/-! ### a def's body keeps its promise -/
/-- names: the parameters first -/
structure FnScope (N P : List Str) (sc : Scope) : Prop where
  kind : sc.kind = .function
  co : sc.isCoroutine = false
  gen : sc.isGenerator = false
  nd : N.Nodup
  pre : N.take P.length = P
  par : ∀ x ∈ P, sc.names.lookup x = some .local ∨ sc.names.lookup x = some .cell
  nofree : ∀ y ∈ sc.names, y.2 ≠ .free

theorem bindL_out {kindOf : Str → Option NameKind} {x : Str} : ∀ {binds : List (Str × Value)} {m : Str → Option Value}, (∀ v, (x, v) ∉ binds) → bindL kindOf binds m x = m x
  | [], _, _ => rfl
  | (n, v) :: r, m, h => by
    unfold bindL
    rw [bindL_out fun w hw => h w (List.mem_cons_of_mem _ hw)]
    split
    · have : x ≠ n := by rintro rfl; exact h v List.mem_cons_self
      simp [this]
    · rfl
theorem bindC_out {kindOf : Str → Option NameKind} {x : Str} : ∀ {binds : List (Str × Value)} {m : Str → Option Value}, (∀ v, (x, v) ∉ binds) → bindC kindOf binds m x = m x
  | [], _, _ => rfl
  | (n, v) :: r, m, h => by
    unfold bindC
    rw [bindC_out fun w hw => h w (List.mem_cons_of_mem _ hw)]
    split
    · rfl
    · have : x ≠ n := by rintro rfl; exact h v List.mem_cons_self
      simp [this]
theorem bindL_get {kindOf : Str → Option NameKind} {x : Str} {v : Value} : ∀ {P : List Str} {vs : List Value} {i : Nat} {m : Str → Option Value}, P.Nodup → P[i]? = some x → vs[i]? = some v → kindOf x = some .local →
    bindL kindOf (P.zip vs) m x = some v
  | [], _, _, _, _, h, _, _ => by simp at h
  | _ :: _, [], _, _, _, _, h, _ => by simp at h
  | p :: P, w :: vs, 0, m, nd, h1, h2, hk => by
    simp at h1 h2; subst h1; subst h2
    show bindL kindOf ((p, w) :: P.zip vs) m p = _
    unfold bindL
    rw [bindL_out fun v hv => (List.nodup_cons.mp nd).1 (List.of_mem_zip hv).1, if_pos hk]
    simp
  | p :: P, w :: vs, i + 1, m, nd, h1, h2, hk => by
    show bindL kindOf ((p, w) :: P.zip vs) m x = _
    unfold bindL
    exact bindL_get (i := i) (List.nodup_cons.mp nd).2 (by simpa using h1) (by simpa using h2) hk
theorem bindC_get {kindOf : Str → Option NameKind} {x : Str} {v : Value} : ∀ {P : List Str} {vs : List Value} {i : Nat} {m : Str → Option Value}, P.Nodup → P[i]? = some x → vs[i]? = some v → kindOf x ≠ some .local →
    bindC kindOf (P.zip vs) m x = some v
  | [], _, _, _, _, h, _, _ => by simp at h
  | _ :: _, [], _, _, _, _, h, _ => by simp at h
  | p :: P, w :: vs, 0, m, nd, h1, h2, hk => by
    simp at h1 h2; subst h1; subst h2
    show bindC kindOf ((p, w) :: P.zip vs) m p = _
    unfold bindC
    rw [bindC_out fun v hv => (List.nodup_cons.mp nd).1 (List.of_mem_zip hv).1, if_neg hk]
    simp
  | p :: P, w :: vs, i + 1, m, nd, h1, h2, hk => by
    show bindC kindOf ((p, w) :: P.zip vs) m x = _
    unfold bindC
    exact bindC_get (i := i) (List.nodup_cons.mp nd).2 (by simpa using h1) (by simpa using h2) hk

/-- the names' values at the entry -/
def start (N : List Str) (vs : List V) : St := vs.map some ++ List.replicate (N.length - vs.length) none

/-- the context of a def's body, at its entry; an exception leaves the frame, then lies as CX says -/
def cxOf (CX : CXT) (P : Program) (w : World) (K : PySem.W.Frag) (mg : Str → Option Value) (base : Heap) (N : List Str) (qual : Str) (scope : Scope) (f : Addr) (cd : Value) (A : Around) (outer : List Env) (s : Shared) (H : Hp) (E : XK) : Cx where
  prog := P
  w := w
  K := K
  mg := mg
  base := base
  A := A.deeper (envOfC qual scope s.heap.objs.size f cd)
  N := N
  s₀ := s
  H₀ := H
  env := envOfC qual scope s.heap.objs.size f cd
  outer := outer
  stack := envOfC qual scope s.heap.objs.size f cd :: outer
  ex := []
  calm := true
  fn := fun _ => true
  pn := []
  xe := fun e s' => wpAny (model P w) (A.deeper (envOfC qual scope s.heap.objs.size f cd)) (leaving (envOfC qual scope s.heap.objs.size f cd) e) (fun _ s'' => CX outer H s E e s'') (fun e' s'' => CX outer H s E e' s'') s'

theorem cell_has {sc : Scope} {n : Nat} {x : Str} (h : sc.names.lookup x = some .cell) : ∃ c, (cellsFrom n sc.names []).lookup x = some c := by
  have q := PySem.W.cellsFrom_some sc.names n [] (.inl h)
  exact Option.isSome_iff_exists.mp q

theorem inv_start {CX : CXT} {P : Program} {w : World} {K : PySem.W.Frag} {mg : Str → Option Value} {base : Heap} {N ps : List Str} {qual : Str} {scope : Scope} {f : Addr} {cd : Value} {A : Around} {outer : List Env} {s s1 : Shared} {H : Hp} {E : XK} {us : List Value} {vs : List V}
    (S : FnScope N ps scope) (hd : A.handled = none) (e0 : Env0 P w K mg base A outer s H) (hl : vs.length = ps.length) (r : Vals vs us)
    (x : InCallC s s.heap.objs.size (bindL (envOfC qual scope s.heap.objs.size f cd).kindOf (ps.zip us) fun _ => none) (cellsFrom (s.heap.objs.size + 1) scope.names []) (bindC (envOfC qual scope s.heap.objs.size f cd).kindOf (ps.zip us) fun _ => none) s1) :
    Inv (cxOf CX P w K mg base N qual scope f cd A outer s H E) [] (start N vs) H s1 := by
  have hpl : ps.length ≤ N.length := by have := congrArg List.length S.pre; rw [List.length_take] at this; omega
  obtain ⟨h1, tk, rfl, hk⟩ := x.done
  have noA : ∀ b : Addr, b ∉ (cxOf CX P w K mg base N qual scope f cd A outer s H E).ex := fun b z => absurd (show b ∈ ([] : List Addr) from z) (by simp)
  refine ⟨⟨e0.mod, S.kind, rfl, rfl, Nat.le_refl _, fun y z c h1 h2 => ?_, fun y hy => ?_, fun y c _ h => ?_, fun _ => hd, Around.frames_deeper e0.frames, .inr ⟨rfl, rfl⟩, fun b z => absurd z (noA b), e0.bs, e0.bsz, fun b _ _ => noA b, fun b z => absurd z (noA b), e0.funs, e0.frf⟩,
    rfl, e0.bare, Un.kept hk, ⟨_, x.toInCall.ns, fun i y v h1 h2 h3 => ?_⟩, fun y c h => ⟨_, x.cell y c h⟩, e0.hok.fresh (Nat.le_refl _), fun y c h => ?_, fun p hp => absurd (show p ∈ ([] : List (Addr × Obj)) from hp) (by simp), e0.hok.kept hk, ?_⟩
  · exact name_of_addr x.apart (PySem.mem_of_lookup h1) (PySem.mem_of_lookup h2)
  · have hy : scope.names.lookup y = some .cell ∨ scope.names.lookup y = some .free := hy
    rcases hy with hy | hy
    · exact cell_has hy
    · exact absurd rfl (S.nofree _ (PySem.mem_of_lookup hy))
  · exact Nat.le_of_lt (x.above y c (PySem.mem_of_lookup h))
  · have hi : i < vs.length := by
      unfold start at h2
      by_cases hi : i < vs.length
      · exact hi
      · rw [List.getElem?_append_right (by simpa using hi)] at h2
        rw [List.getElem?_replicate] at h2
        split at h2 <;> cases h2
    have ha : vs[i]? = some v := by
      unfold start at h2
      rw [List.getElem?_append_left (by simpa using hi), List.getElem?_map] at h2
      cases e : vs[i]? with
      | none => rw [e] at h2; cases h2
      | some a => rw [e] at h2; cases h2; rfl
    obtain ⟨u, hu, rv⟩ := r.get ha
    have hp : ps[i]? = some y := by
      rw [← S.pre, List.getElem?_take_of_lt (by omega)]; exact h1
    have ndP : ps.Nodup := by rw [← S.pre]; exact S.nd.sublist (List.take_sublist _ _)
    refine ⟨u, rv, ?_⟩
    rcases S.par y (List.mem_of_getElem? hp) with k | k
    · exact .inl ⟨k, bindL_get ndP hp hu k⟩
    · obtain ⟨c, e⟩ := cell_has (n := s.heap.objs.size + 1) k
      refine .inr ⟨.inl k, c, e, ?_⟩
      have q := x.cell y c e
      rw [bindC_get ndP hp hu (by show scope.names.lookup y ≠ _; rw [k]; decide)] at q
      exact q
  · exact e0.hok.fresh (Nat.le_of_lt (x.above y c (PySem.mem_of_lookup h)))
  · unfold start
    show _ = N.length
    rw [List.length_append, List.length_map, List.length_replicate]
    omega

/-- THE RULE: a def (or a method) of the text, by its body. The body's reading t is chosen for each entry; it is run at the parameters' values -/
theorem fn_of {CX : CXT} {P : Program} {w : World} {K : PySem.W.Frag} {mg : Str → Option Value} {base : Heap} {k : Nat} {f : Addr} {name qual : Str} {params : Arguments} {body : List Stmt} {scope : Scope} {dV kV doc pm cdv ct oc : Value} {an od : Option Addr}
    {osl : Array (Option Value)} {N ps : List Str} {sp : Sp} (lk : K.lookup f = some ⟨oc, od, .func (PySem.W.fnOf name qual params body scope dV kV doc pm an cdv ct), osl⟩) (hcd : PySem.W.codeIn K cdv qual = true) (S : FnScope N ps scope)
    (len : ∀ vs H Q E, sp vs H Q E → vs.length = ps.length)
    (hbody : ∀ (A : Around) (outer : List Env) (s : Shared) (H : Hp) (vs : List V) (Q : VK) (E : XK), Room k (A.deeper (envOfC qual scope s.heap.objs.size f cdv)) → sp vs H Q E →
      ∃ t, PSs (cxOf CX P w K mg base N qual scope f cdv A outer s H E) body t ∧ t { nx := fun _ H' => Q .non H', rt := Q } (start N vs) H) :
    FnOk P w K mg base CX (k + 1) f (PySem.W.fnOf name qual params body scope dV kV doc pm an cdv ct) ps sp := by
  refine ⟨len, fun A outer s H args us vs Q E hr e0 hb r hsp => ?_⟩
  have hl := len _ _ _ _ hsp
  have KX : K.In s.heap := e0.mod.kin.keeps fun b o e => (e0.bs b o e).1
  have lim : s.heap.NoLimit := e0.mod.nolimit.keeps fun b o e => (e0.bs b o e).1
  have hkind : ∀ y ∈ ps.zip us, scope.names.lookup y.1 = some .local ∨ (scope.names.lookup y.1 = some .cell ∧ ((cellsFrom (s.heap.objs.size + 1) scope.names []).lookup y.1).isSome = true) := fun ⟨n, v⟩ hy => by
    rcases S.par n (List.of_mem_zip hy).1 with q | q
    · exact .inl q
    · exact .inr ⟨q, PySem.W.cellsFrom_some _ _ _ (.inl q)⟩
  refine codeAny_call_function hr.depth (KX _ _ lk) rfl S.co S.gen rfl (PySem.W.codeRec_of KX hcd) (hb _ _ _ _ ?_)
  refine wpAny_newFunctionEnv_cells S.kind hkind fun env he s1 x => ?_
  subst he
  refine ⟨lim.keeps x.toInCall.keep, codeAny_func ?_⟩
  obtain ⟨t, ht, hq⟩ := hbody A outer s H vs Q E (hr.deeper _) hsp
  have I : Inv (cxOf CX P w K mg base N qual scope f cdv A outer s H E) [] (start N vs) H s1 := inv_start S hr.hd e0 hl r x
  refine wpAny_mono (ht [] s1 (start N vs) H _ I hq) (fun fl s' hs => ?_) fun e s' hs => hs
  have fin : ∀ {σ' : St} {H' : Hp} {v : V} {u : Value}, Inv (cxOf CX P w K mg base N qual scope f cdv A outer s H E) [] σ' H' s' → RelV v u → Q v H' → CE outer P w H s Q u s' :=
    fun {σ' H' v u} J rv q => ⟨v, H', J.os, J.bare, J.base, J.hok, rv, q⟩
  cases fl with
  | ret u =>
    obtain ⟨v, σ', H', J, rv, q⟩ := hs
    exact fin J rv q
  | next =>
    obtain ⟨σ', H', J, q⟩ := hs
    exact fin (v := V.non) (u := Value.none) J rfl q
  | brk =>
    obtain ⟨_, _, _, q⟩ := hs
    exact False.elim q
  | cont =>
    obtain ⟨_, _, _, q⟩ := hs
    exact False.elim q
end L2

namespace L2
open PySem PySem.Spec PyProof.Rows
section
variable {X : Cx} {x : Str} {p pos : Pos} {e : Expr} {es : List Expr} {t : TA} {id T : String} {r : List V → Hp → VK → Prop}

def tCB (r : List V → Hp → VK → Prop) (t : TA) : TE := fun σ H Q => t σ H fun vs H1 => r vs H1 Q
/-- f(e, ..), f a built-in function -/
theorem pe_callB (hc : CallR X (.builtin id) r) (hg : Gl X x) (hm : X.mg x = none) (hv : bootBuiltins x = some (.builtin id)) (ha : PA X (e :: es) t) (hn : x ≠ "__name__" := by decide) (hdb : (x == ("__debug__" : Str)) = false := by decide)
    (he : starEach (e :: es) X.env = (false, eval e X.env) :: starEach es X.env := by rfl) (hpl : (backTo pos (starEach es X.env)).any (·.1) = false := by rfl) : PE X (.Call (.Name x p) (e :: es) [] pos) (tCB r t) := by
  intro pins s σ H Q I h
  refine wpAny_Call_Name_kw (ld_blt I hg hm hv ?_ hn hdb)
  exact PyProof.Rows.callWith_builtin1 (thn (ha pos pins s σ H _ I h) fun us s1 ⟨vs, H1, I1, r1, q1⟩ => hc pins s1 σ H1 vs us Q I1 r1 q1) he hpl
/-- T(e, ..), T a built-in type -/
theorem pe_callTy (hc : CallR X (.type T) r) (hg : Gl X x) (hm : X.mg x = none) (hv : bootBuiltins x = some (.type T)) (ha : PA X (e :: es) t) (hn : x ≠ "__name__" := by decide) (hdb : (x == ("__debug__" : Str)) = false := by decide)
    (he : starEach (e :: es) X.env = (false, eval e X.env) :: starEach es X.env := by rfl) (hpl : (backTo pos (starEach es X.env)).any (·.1) = false := by rfl) : PE X (.Call (.Name x p) (e :: es) [] pos) (tCB r t) := by
  intro pins s σ H Q I h
  refine wpAny_Call_Name_kw (ld_blt I hg hm hv ?_ hn hdb)
  exact PyProof.Rows.callWith_type1 (thn (ha pos pins s σ H _ I h) fun us s1 ⟨vs, H1, I1, r1, q1⟩ => hc pins s1 σ H1 vs us Q I1 r1 q1) he hpl
/-- T() -/
theorem pe_callTy0 (hc : CallR X (.type T) r) (hg : Gl X x) (hm : X.mg x = none) (hv : bootBuiltins x = some (.type T)) (hn : x ≠ "__name__" := by decide) (hdb : (x == ("__debug__" : Str)) = false := by decide) :
    PE X (.Call (.Name x p) [] [] pos) (tCB r tNil) := by
  intro pins s σ H Q I h
  refine wpAny_Call_Name_kw (ld_blt I hg hm hv ?_ hn hdb)
  exact PyProof.Rows.callWith_type0 (hc pins s σ H [] [] Q I .nil h)
end
end L2

namespace HT
open PySem PyProof.Rows

/-- t < u of tuples of ints -/
def lexLt : List Int → List Int → Bool
  | [], [] => false
  | [], _ :: _ => true
  | _ :: _, [] => false
  | x :: xs, y :: ys => if x = y then lexLt xs ys else decide (x < y)
theorem lexLt_cons (x y : Int) (xs ys : List Int) : lexLt (x :: xs) (y :: ys) = if x = y then lexLt xs ys else decide (x < y) := rfl
theorem lexLt_nil_nil : lexLt [] [] = false := rfl
theorem lexLt_nil_cons (y : Int) (ys : List Int) : lexLt [] (y :: ys) = true := rfl
theorem lexLt_cons_nil (x : Int) (xs : List Int) : lexLt (x :: xs) [] = false := rfl

theorem eqAt_int (A : Around) (s : Shared) (a : Int) (t : Tok) (c : Int) (u : Tok) : ∃ e, SeqAt.EqAt A s (.int a t) (.int c u) e ∧ (e = true ↔ a = c) :=
  ⟨(a == c), SeqAt.EqAt.int_int a t c u, by simp⟩
theorem rcLt_int (A : Around) (s : Shared) (a : Int) (t : Tok) (c : Int) (u : Tok) (prog : Program) (w : World) (E : Value → Shared → Prop) (Q : Value → Shared → Prop) (h : Q (.bool (decide (a < c))) s) :
    wpAny (model prog w) A (richCompare .Lt (.int a t) (.int c u)) Q E s :=
  (PyProof.Rows.lt_int h : wpAny (model prog w) A (compareOp .Lt (.int a t) (.int c u)) Q E s)

section
open PySem.SeqAt
open PySem.AutoSeq1 (wpAny_loadPart')
open PySem.MeetsSeq PySem.MeetsSeq2 PySem.MeetsSeq3

theorem tuple_lt_ints (l b : Addr) (items items2 : Array Value) (n n2 : Nat) (dd dd2 : Option Addr) (sl sl2 : Array (Option Value)) (ns ms : List Int) (hi : IntsAre items.toList ns) (hj : IntsAre items2.toList ms) :
    Meets (Builtin.«tuple.__lt__» ⟨[.ref l, .ref b], []⟩)
      (fun _ R s => s.heap.get? l = some { cls := .type "tuple", dict := dd, data := .seq items n, slots := sl } ∧ s.heap.get? b = some { cls := .type "tuple", dict := dd2, data := .seq items2 n2, slots := sl2 } ∧
        R (.ok (.ret (.bool (lexLt ns ms)))) s) :=
  .of_wp fun prog w A R s h => by
    obtain ⟨hp, g, d, tk, os⟩ := s; obtain ⟨hl, hb, h⟩ := h
    have f2 := AutoSeq1.sub_tuple_tuple
    have z1 : items.size = ns.length := by rw [← hi.length]; simp
    have z2 : items2.size = ms.length := by rw [← hj.length]; simp
    wp_walk using wpAny_loadPart' hl, wpAny_loadPart' hb, wpAny_forIn_list _ (fun rest b s' => b.1 = none ∧ s' = ⟨hp, g, d, tk, os⟩ ∧ ∃ (vs ws : List Value) (ns' ms' : List Int), rest = vs.zip ws ∧
      IntsAre vs ns' ∧ IntsAre ws ms' ∧ ns'.length + items2.size = ms'.length + items.size ∧ R (.ok (.ret (.bool (lexLt ns' ms')))) ⟨hp, g, d, tk, os⟩) _
    case turn =>
      rintro ⟨y, x⟩ rest b s' ⟨hb', rfl, vs, ws, ns', ms', hz, hvi, hwi, hlen, hR⟩
      cases hvi with
      | nil => rw [List.zip_nil_left] at hz; cases hz
      | cons a t hvi' =>
        cases hwi with
        | nil => rw [List.zip_nil_right] at hz; cases hz
        | cons c u hwi' =>
          rw [List.zip_cons_cons] at hz
          injection hz with hyx hrest
          injection hyx with hy hx
          subst hy hx
          rw [lexLt_cons] at hR
          simp only [List.length_cons] at hlen
          obtain ⟨e, he, hiff⟩ := eqAt_int A.in1 ⟨hp, g, d, tk, os⟩ a t c u
          refine wpAny_bind (he prog w _ _ ?_)
          cases e with
          | true =>
            rw [if_pos (hiff.mp rfl)] at hR
            wp_walk
            exact ⟨rfl, rfl, _, _, _, _, hrest, hvi', hwi', by omega, hR⟩
          | false =>
            rw [if_neg (fun q => absurd (hiff.mpr q) Bool.false_ne_true)] at hR
            have hri := rcLt_int A.in1 ⟨hp, g, d, tk, os⟩ a t c u prog w
            wp_walk using hri
            exact ⟨_, rfl, by simpa using hR⟩
    case fin =>
      rintro ⟨b1, b2⟩ s' ⟨hb', rfl, vs, ws, ns', ms', hz, hvi, hwi, hlen, hR⟩
      simp only at hb'
      subst hb'
      have hv : lexLt ns' ms' = decide (items.size < items2.size) := by
        cases hvi with
        | nil =>
          cases hwi with
          | nil =>
            simp only [List.length_nil] at hlen
            rw [lexLt_nil_nil]
            exact (decide_eq_false (by omega)).symm
          | cons c u hw =>
            simp only [List.length_nil, List.length_cons] at hlen
            rw [lexLt_nil_cons]
            exact (decide_eq_true (by omega)).symm
        | cons a t hv =>
          cases hwi with
          | nil =>
            simp only [List.length_nil, List.length_cons] at hlen
            rw [lexLt_cons_nil]
            exact (decide_eq_false (by omega)).symm
          | cons c u hw =>
            rw [List.zip_cons_cons] at hz
            cases hz
      rw [hv] at hR
      wp_walk
      exact ⟨_, rfl, by simpa [Builtin.Tuple.tupleCompareSizes] using hR⟩
    case h =>
      exact ⟨rfl, rfl, items.toList, items2.toList, ns, ms, rfl, hi, hj, by omega, h⟩
end

section
variable {prog : Program} {w : World} {A : Around} {E : Value → Shared → Prop} {s : Shared}

theorem lt_tupInts {l b : Addr} {items items2 : Array Value} {ns ms : List Int} {Q : Value → Shared → Prop} (hl : IsTup s.heap l items) (hb : IsTup s.heap b items2) (hi : IntsAre items.toList ns) (hj : IntsAre items2.toList ms)
    (hu : A.units < cLine) (h : Q (.bool (lexLt ns ms)) s) : wpAny (model prog w) A (compareOp .Lt (.ref l) (.ref b)) Q E s := by
  obtain ⟨⟨cls, dd, data, sl⟩, ho, hc, n, hd⟩ := id hl
  obtain ⟨⟨cls2, dd2, data2, sl2⟩, ho2, hc2, n2, hd2⟩ := id hb
  simp only at hc hd hc2 hd2
  subst hc hd hc2 hd2
  exact richCompare_meets_room (op := .Lt) ⟨_, ho, rfl⟩ ⟨_, ho2, rfl⟩ PySem.F.slot_tuple_lt PySem.F.entry_tuple_lt (PySem.F.args_tuple_lt_2 _ _) (tuple_lt_ints l b items items2 n n2 dd dd2 sl sl2 ns ms hi hj)
    ⟨ho, ho2, show Value.bool (lexLt ns ms) ≠ Value.notImplemented ∧ Q (.bool (lexLt ns ms)) s from ⟨(fun x => nomatch x), h⟩⟩ hu

/-- t + u, t not empty -/
theorem cat_tup {t b : Addr} {vs ws : List Value} {Q : Value → Shared → Prop} (ht : IsTup s.heap t vs.toArray) (hb : IsTup s.heap b ws.toArray) (hv : vs ≠ [])
    (h1 : ws = [] → Q (.ref t) s) (h2 : ws ≠ [] → Q (.ref s.heap.objs.size) { s with heap := s.heap.push { cls := .type "tuple", data := .seq (vs ++ ws).toArray } })
    (hsz : vs.length + ws.length ≤ sizeLine) : wpAny (model prog w) A (binaryOp .Add (.ref t) (.ref b)) Q E s := by
  obtain ⟨⟨cls, dd, data, sl⟩, ho, hc, n, hd⟩ := id ht
  obtain ⟨⟨cls2, dd2, data2, sl2⟩, ho2, hc2, n2, hd2⟩ := id hb
  simp only at hc hd hc2 hd2
  subst hc hd hc2 hd2
  have e : vs.toArray ++ ws.toArray = (vs ++ ws).toArray := by simp
  by_cases hw : ws = []
  · exact concat_meets ⟨_, ho, rfl⟩ ⟨_, ho2, rfl⟩ noFill_tuple_add seq_tuple_add PySem.F.slot_tuple_add PySem.F.entry_tuple_add (PySem.F.args_tuple_add_2 _ _)
      (tuple_addW1 t b vs.toArray ws.toArray n n2 dd dd2 sl sl2 (by simpa using hv) (by simp [hw])) ⟨ho, ho2, h1 hw⟩
  · refine concat_meets ⟨_, ho, rfl⟩ ⟨_, ho2, rfl⟩ noFill_tuple_add seq_tuple_add PySem.F.slot_tuple_add PySem.F.entry_tuple_add (PySem.F.args_tuple_add_2 _ _)
      (tuple_addW2 t b vs.toArray ws.toArray n n2 dd dd2 sl sl2 (by simpa using hv) (by simpa using hw) (by rw [List.size_toArray, List.size_toArray]; exact hsz)) ⟨ho, ho2, ?_⟩
    rw [e]
    exact h2 hw

/-! ### t[a:b], not the whole -/
/-- a slice's bound as a place among n (d where it is left out) -/
def sIx (n d : Nat) : Option Int → Nat
  | none => d
  | some v => if v < 0 then (v + (n : Int)).toNat else min v.toNat n
theorem sIx_none (n d : Nat) : sIx n d none = d := rfl
theorem sIx_nat (n d k : Nat) : sIx n d (some (k : Int)) = min k n := by
  show (if (k : Int) < 0 then ((k : Int) + (n : Int)).toNat else min (k : Int).toNat n) = min k n
  rw [if_neg (by omega), Int.toNat_natCast]
theorem sIx_le (n d : Nat) (hd : d ≤ n) (o : Option Int) : sIx n d o ≤ n := by
  cases o with
  | none => exact hd
  | some v =>
    show (if v < 0 then (v + (n : Int)).toNat else min v.toNat n) ≤ n
    by_cases hv : v < 0
    · rw [if_pos hv]; omega
    · rw [if_neg hv]; exact Nat.min_le_right _ _
theorem clip_eq (v : Int) (n d : Nat) : (if v < 0 then max (v + (n : Int)) 0 else min v (n : Int)) = ((sIx n d (some v) : Nat) : Int) := by
  show (if v < 0 then max (v + (n : Int)) 0 else min v (n : Int)) = (((if v < 0 then (v + (n : Int)).toNat else min v.toNat n) : Nat) : Int)
  by_cases hv : v < 0
  · simp only [if_pos hv]; omega
  · simp only [if_neg hv]; omega
theorem adjust_gen (lo hi : Option Int) (n : Nat) : Builtin.Slice.sliceAdjust lo hi 1 (n : Int) = (((sIx n 0 lo : Nat) : Int), ((sIx n n hi : Nat) : Int)) := by
  have h1 : ¬ ((1 : Int) < 0) := by omega
  unfold Builtin.Slice.sliceAdjust
  simp only [h1, if_false]
  refine Prod.ext ?_ ?_
  · cases lo with
    | none => rfl
    | some v => exact clip_eq v n 0
  · cases hi with
    | none => rfl
    | some v => exact clip_eq v n n
theorem places_gen (i j : Nat) : Builtin.Slice.slicePlaces (i : Int) (j : Int) 1 = j - i := by
  unfold Builtin.Slice.slicePlaces
  have h1 : (1 : Int) > 0 := by omega
  simp only [h1, if_true, Int.ediv_one]
  split <;> omega
theorem slicePart_ {v : Value} {o : Option Int} {Q : Option Int → Shared → Prop} (p : IsPart v o) (h : Q o s) : wpAny (model prog w) A (Builtin.Slice.slicePartIndex v) Q E s := by
  cases p with
  | none => exact slicePart_none h
  | int i t => exact slicePart_int h
theorem sliceApplied_gen {sl : Addr} {vl vu : Value} {lo hi : Option Int} {n : Nat} {Q : Int × Int × Nat → Shared → Prop} (hs : s.heap.IsSliceOf sl vl vu .none) (pl : IsPart vl lo) (pu : IsPart vu hi)
    (h : Q (((sIx n 0 lo : Nat) : Int), 1, sIx n n hi - sIx n 0 lo) s) : wpAny (model prog w) A (Builtin.Slice.sliceApplied (.ref sl) (pure (n : Int))) Q E s := by
  obtain ⟨os, hos, hcs, hds⟩ := id hs
  unfold Builtin.Slice.sliceApplied Builtin.Slice.sliceFields
  refine wpAny_bind (wpAny_bind (wpAny_field hos hds (x := vl) rfl (wpAny_bind (wpAny_field hos hds (x := vu) rfl (wpAny_bind (wpAny_field hos hds (x := .none) rfl (wpAny_pure ?_)))))))
  refine wpAny_bind (slicePart_none ?_)
  show wpAny _ _ (if ((1 : Int) == 0) = true then _ else _) _ _ s
  rw [if_neg (by decide)]
  refine wpAny_bind (slicePart_ pl (wpAny_bind (slicePart_ pu (wpAny_bind (wpAny_pure ?_)))))
  show wpAny _ _ (match Builtin.Slice.sliceAdjust lo hi 1 (n : Int) with | (lo, hi) => pure (lo, (1 : Int), Builtin.Slice.slicePlaces lo hi 1)) _ _ s
  rw [adjust_gen lo hi n]
  show wpAny _ _ (pure (((sIx n 0 lo : Nat) : Int), (1 : Int), Builtin.Slice.slicePlaces ((sIx n 0 lo : Nat) : Int) ((sIx n n hi : Nat) : Int) 1)) _ _ s
  rw [places_gen]
  exact wpAny_pure h
theorem pick_gen (xs : Array Value) (i k : Nat) : ((List.range k).filterMap fun (m : Nat) => xs[((i : Int) + (m : Int) * 1).toNat]?).toArray = ((xs.toList.drop i).take k).toArray := by
  have e : (fun (m : Nat) => xs[((i : Int) + (m : Int) * 1).toNat]?) = fun m => xs[i + m]? := by
    funext m
    have : ((i : Int) + (m : Int) * 1).toNat = i + m := by omega
    rw [this]
  rw [e]
  have := pick_run xs i k
  rw [List.filterMap_map] at this
  have e2 : ((fun x => xs[x]?) ∘ fun x => i + x) = fun m => xs[i + m]? := rfl
  rw [e2] at this
  rw [this]

theorem getItem_tuple_cut {t sl : Addr} {items : Array Value} {vl vu : Value} {lo hi : Option Int} {Q : Value → Shared → Prop} (ht : IsTup s.heap t items) (hs : s.heap.IsSliceOf sl vl vu .none) (pl : IsPart vl lo) (pu : IsPart vu hi)
    (hw : ¬ (sIx items.size 0 lo = 0 ∧ sIx items.size items.size hi = items.size))
    (h : Q (.ref s.heap.objs.size) { s with heap := s.heap.push { cls := .type "tuple", data := .seq ((items.toList.drop (sIx items.size 0 lo)).take (sIx items.size items.size hi - sIx items.size 0 lo)).toArray } })
    (hsz : items.size ≤ sizeLine) : wpAny (model prog w) A (getItem (.ref t) (.ref sl)) Q E s := by
  have htake : sizeOk (.seq ((items.toList.drop (sIx items.size 0 lo)).take (sIx items.size items.size hi - sIx items.size 0 lo)).toArray) := by
    show ((items.toList.drop (sIx items.size 0 lo)).take (sIx items.size items.size hi - sIx items.size 0 lo)).toArray.size ≤ sizeLine
    rw [List.size_toArray, List.length_take, List.length_drop, Array.length_toList]
    omega
  have hj : sIx items.size items.size hi ≤ items.size := sIx_le _ _ (Nat.le_refl _) hi
  obtain ⟨os, hos, hcs, hds⟩ := id hs
  have hTs : s.TypeIs (.ref sl) "slice" := ⟨os, hos, hcs⟩
  unfold getItem
  try with_reducible refine wpAny_holding ?_
  first | refine wpAny_bind (wpAny_pure ?_) | skip
  refine wpAny_bind (wpAny_sequenceKey ht.typeIs (by decide) ?_)
  refine wpAny_bind (wpAny_callSpecial?_slot (name := Str.ofString "__getitem__") ht.typeIs PyProof.Rows.slot_tuple_getitem
    (wpAny_call_entry PyProof.Rows.slot_tuple_getitem ht.typeIs entry_tuple_getitem ?_ (args_tuple_getitem _ _)))
  show wpAny _ _ (Builtin.Tuple.tupleItemsOf (.ref t) >>= _) _ _ s
  refine wpAny_bind (tupleItemsOf_ ht ?_)
  refine wpAny_bind (wpAny_typeOf hTs ?_)
  rw [if_pos (by decide)]
  refine wpAny_bind (sliceApplied_gen hs pl pu ?_)
  have hno : ¬ ((((sIx items.size 0 lo : Nat) : Int) == 0 && (1 : Int) == 1 && (sIx items.size items.size hi - sIx items.size 0 lo) == items.size) = true) := by
    intro q
    rw [Bool.and_eq_true, Bool.and_eq_true] at q
    have q1 : ((sIx items.size 0 lo : Nat) : Int) = 0 := eq_of_beq q.1.1
    have q2 : sIx items.size items.size hi - sIx items.size 0 lo = items.size := eq_of_beq q.2
    exact hw ⟨by omega, by omega⟩
  show wpAny _ _ (if (((sIx items.size 0 lo : Nat) : Int) == 0 && (1 : Int) == 1 && (sIx items.size items.size hi - sIx items.size 0 lo) == items.size) = true then _ else _) _ _ s
  rw [if_neg hno, pick_gen]
  first
    | exact wpAny_bind (m := Builtin.Tuple.tupleExact _) (wpAny_newObj_type (wpAny_pure ⟨_, rfl, wpAny_pure h⟩) htake)
    | exact wpAny_bind (m := Builtin.Tuple.tupleExact _) (wpAny_newObj_type (wpAny_bind (wpAny_pure (wpAny_pure ⟨_, rfl, wpAny_pure h⟩))) htake)
    | exact wpAny_bind (wpAny_bind (m := Builtin.Tuple.tupleExact _) (wpAny_newObj_type (wpAny_pure (wpAny_pure ⟨_, rfl, wpAny_pure h⟩)) htake))
    | exact wpAny_bind (wpAny_bind (m := Builtin.Tuple.tupleExact _) (wpAny_newObj_type (wpAny_pure ⟨_, rfl, wpAny_pure h⟩) htake))
end
end HT

namespace L2
open PySem PySem.Spec PyProof.Rows

/-! ### the parts of a slice -/
abbrev TO := St → Hp → (Option Int → Hp → Prop) → Prop
/-- a slice's part (left out, or an int) -/
def PO (X : Cx) (e : Option Expr) (t : TO) : Prop :=
  ∀ (pins : List (Addr × Obj)) (s : Shared) (σ : St) (H : Hp) (Q : Option Int → Hp → Prop), Inv X pins σ H s → t σ H Q →
    wpAny (model X.prog X.w) X.A (evalPart e X.env) (fun u s' => ∃ o H', Inv X pins σ H' s' ∧ IsPart u o ∧ Q o H') X.xe s
def tNoPart : TO := fun _ H Q => Q none H
def tPart (t : TE) : TO := fun σ H Q => t σ H fun x H1 => ∃ i, x = .int i ∧ Q (some i) H1

theorem intsAre_of {ns : List Int} : ∀ {us : List Value}, Vals (ns.map V.int) us → IntsAre us ns := by
  induction ns with
  | nil => intro us r; rw [List.map_nil] at r; cases r; exact .nil
  | cons n ns ih =>
    intro us r
    rw [List.map_cons] at r
    cases r with
    | cons r1 r2 =>
      obtain ⟨t, e⟩ := r1
      subst e
      exact .cons n t (ih r2)

section
variable {X : Cx} {e : Expr} {te : TE} {lo hi : Option Expr} {tl th : TO} {pos p2 : Pos}

theorem po_none : PO X none tNoPart := by
  intro pins s σ H Q I h
  rw [evalPart_none]
  exact wpAny_pure ⟨none, H, I, .none, h⟩
theorem po_some (h : PE X e te) : PO X (some e) (tPart te) := by
  intro pins s σ H Q I hw
  rw [evalPart_some]
  refine thn (h pins s σ H _ I hw) fun u s1 ⟨x, H1, I1, r1, q1⟩ => ?_
  obtain ⟨i, rfl, q⟩ := q1
  obtain ⟨t, rfl⟩ := r1
  exact ⟨some i, H1, I1, .int i t, q⟩

/-- what a slice of a value is, by values: the slice object stands at sl -/
def SlR (X : Cx) (r : V → Option Int → Option Int → Hp → VK → Prop) : Prop :=
  ∀ (pins : List (Addr × Obj)) (s : Shared) (σ : St) (H : Hp) (x : V) (v vl vu : Value) (lo hi : Option Int) (sl : Addr) (Q : VK), Inv X pins σ H s → RelV x v → s.heap.IsSliceOf sl vl vu .none → IsPart vl lo → IsPart vu hi → r x lo hi H Q →
    ∃ T id, typeLookup (.type T) "__getitem__" = pure (some (.builtin id)) ∧ s.TypeIs v T ∧ wpAny (model X.prog X.w) X.A (getItem v (.ref sl)) (EP X pins σ Q) X.xe s
theorem SlR.or {r r' : V → Option Int → Option Int → Hp → VK → Prop} (h : SlR X r) (h' : SlR X r') : SlR X (fun x lo hi H Q => r x lo hi H Q ∨ r' x lo hi H Q) := by
  intro pins s σ H x v vl vu lo hi sl Q I rx hs pl pu q
  rcases q with q | q
  · exact h pins s σ H x v vl vu lo hi sl Q I rx hs pl pu q
  · exact h' pins s σ H x v vl vu lo hi sl Q I rx hs pl pu q
def tSl (r : V → Option Int → Option Int → Hp → VK → Prop) (te : TE) (tl th : TO) : TE := fun σ H Q => te σ H fun x H1 => tl σ H1 fun l H2 => th σ H2 fun u H3 => r x l u H3 Q
/-- a[lo:hi], any a -/
theorem pe_slice {r : V → Option Int → Option Int → Hp → VK → Prop} (hr : SlR X r) (he : PE X e te) (hl : PO X lo tl) (hu : PO X hi th) : PE X (.Subscript e (.Slice lo hi none p2) pos) (tSl r te tl th) := by
  intro pins s σ H Q I h
  refine Subscript_ (thn (he pins s σ H _ I h) fun v s1 ⟨x, H1, I1, r1, q1⟩ => ?_)
  refine wpAny_Slice (thn (hl pins s1 σ H1 _ I1 q1) fun vl s2 ⟨l, H2, I2, pl, q2⟩ => thn (hu pins s2 σ H2 _ I2 q2) fun vu s3 ⟨u, H3, I3, pu, q3⟩ => ?_)
  rw [evalPart_none]
  refine wpAny_pure ?_
  have I4 : Inv X pins σ H3 { s3 with heap := s3.heap.push { cls := .type "slice", data := .fields #[vl, vu, .none] } } := I3.kept (t' := s3.toks) fun b ob q => Heap.get?_push_of_some _ q
  obtain ⟨T, id, hT, ht, hg⟩ := hr pins { s3 with heap := s3.heap.push { cls := .type "slice", data := .fields #[vl, vu, .none] } } σ H3 x v vl vu l u s3.heap.objs.size Q I4 r1 (Heap.IsSliceOf.new ..) pl pu q3
  show wpAny (model X.prog X.w) X.A (subscriptTail e (.Slice lo hi none p2) v (.ref s3.heap.objs.size)) (EP X pins σ Q) X.xe { s3 with heap := s3.heap.push { cls := .type "slice", data := .fields #[vl, vu, .none] } }
  exact tail_any (ops := [.ref s3.heap.objs.size, v]) ht hT hg (by with_unfolding_all rfl)

/-- the items of xs[lo:hi] -/
def cutV (xs : List V) (lo hi : Option Int) : List V := (xs.drop (HT.sIx xs.length 0 lo)).take (HT.sIx xs.length xs.length hi - HT.sIx xs.length 0 lo)
theorem cutV_length (xs : List V) (lo hi : Option Int) : (cutV xs lo hi).length ≤ xs.length := by
  unfold cutV
  rw [List.length_take, List.length_drop]
  omega
/-- t[lo:hi], not the whole of it (the whole would be t itself) -/
def rSlT (K : PySem.W.Frag) : V → Option Int → Option Int → Hp → VK → Prop := fun x lo hi H Q => ∃ a xs, x = .ref a ∧ SqT K H a xs ∧
  ¬ (HT.sIx xs.length 0 lo = 0 ∧ HT.sIx xs.length xs.length hi = xs.length) ∧ ∀ p, H p = none → Q (.ref p) (upd H p (.tup (cutV xs lo hi)))
theorem sl_tup : SlR X (rSlT X.K) := by
  intro pins s σ H x v vl vu lo hi sl Q I rx hs pl pu h
  obtain ⟨a, xs, rfl, hx, hw, q⟩ := h
  cases rx
  obtain ⟨its, r, ht, hz⟩ := I.tuple hx
  have hlen : its.toArray.size = xs.length := by rw [List.size_toArray]; exact r.length.symm
  refine ⟨"tuple", _, PyProof.Rows.slot_tuple_getitem.lookup, ht.typeIs, ?_⟩
  refine HT.getItem_tuple_cut ht hs pl pu (by rw [hlen]; exact hw) ?_ (by rw [hlen]; exact hz)
  rw [hlen]
  refine ⟨.ref s.heap.objs.size, _, I.laid (t' := s.toks) (o := .tup (cutV xs lo hi)) (fun b ob q => Heap.get?_push_of_some _ q) (Nat.le_refl _) ?_, rfl, q _ (I.hok.fresh (Nat.le_refl _))⟩
  exact ⟨Nat.le_trans (cutV_length xs lo hi) hz, _, (r.drop (HT.sIx xs.length 0 lo)).take (HT.sIx xs.length xs.length hi - HT.sIx xs.length 0 lo), IsTup.new _ _⟩

/-! ### t < u, t + u -/
def rLtT (K : PySem.W.Frag) : R2 := fun x y H Q => ∃ a b ns ms, x = .ref a ∧ y = .ref b ∧ SqT K H a (ns.map V.int) ∧ SqT K H b (ms.map V.int) ∧ Q (.bl (HT.lexLt ns ms)) H
theorem op_ltT (hu : X.A.units < cLine) : OpR X (compareOp .Lt) (rLtT X.K) := by
  intro pins s σ H x y v u Q I rx ry h
  obtain ⟨a, b, ns, ms, rfl, rfl, ha, hb, q⟩ := h
  cases rx
  cases ry
  obtain ⟨its, r1, p1, _⟩ := I.tuple ha
  obtain ⟨its2, r2, p2, _⟩ := I.tuple hb
  have i1 : IntsAre its.toArray.toList ns := intsAre_of r1
  have i2 : IntsAre its2.toArray.toList ms := intsAre_of r2
  exact HT.lt_tupInts p1 p2 i1 i2 hu ⟨.bl (HT.lexLt ns ms), H, I, rfl, q⟩
/-- t + u, t not empty: u empty gives t itself -/
def rCatT (K : PySem.W.Frag) : R2 := fun x y H Q => ∃ a b xs ys, x = .ref a ∧ y = .ref b ∧ SqT K H a xs ∧ SqT K H b ys ∧ xs ≠ [] ∧ xs.length + ys.length ≤ sizeLine ∧
  (ys = [] → Q (.ref a) H) ∧ (ys ≠ [] → ∀ p, H p = none → Q (.ref p) (upd H p (.tup (xs ++ ys))))
theorem Vals.nil_iff {xs : List V} {us : List Value} (r : Vals xs us) : us = [] ↔ xs = [] := by
  cases r with
  | nil => simp
  | cons _ _ => simp
theorem op_catT : OpR X (binaryOp .Add) (rCatT X.K) := by
  intro pins s σ H x y v u Q I rx ry h
  obtain ⟨a, b, xs, ys, rfl, rfl, ha, hb, hx, hz, q1, q2⟩ := h
  cases rx
  cases ry
  obtain ⟨its, r1, p1, _⟩ := I.tuple ha
  obtain ⟨its2, r2, p2, _⟩ := I.tuple hb
  refine HT.cat_tup p1 p2 (fun z => hx (r1.nil_iff.mp z)) (fun z => ⟨.ref a, H, I, rfl, q1 (r2.nil_iff.mp z)⟩) (fun z => ?_) (by rw [← r1.length, ← r2.length]; exact hz)
  refine ⟨.ref s.heap.objs.size, _, I.laid (t' := s.toks) (o := .tup (xs ++ ys)) (fun b ob q => Heap.get?_push_of_some _ q) (Nat.le_refl _) ?_, rfl, q2 (fun w => z (r2.nil_iff.mpr w)) _ (I.hok.fresh (Nat.le_refl _))⟩
  exact ⟨by rw [List.length_append]; exact hz, _, r1.append r2, IsTup.new _ _⟩
/-- tuple(t) -/
theorem call_tupleT : CallR X (.type "tuple") (fun xs H Q => ∃ a ys, xs = [.ref a] ∧ SqT X.K H a ys ∧ Q (.ref a) H) := by
  intro pins s σ H xs us Q I r h
  obtain ⟨a, ys, rfl, ha, q⟩ := h
  obtain ⟨u, rfl, ru⟩ := vals1 r
  cases ru
  obtain ⟨its, _, p1, _⟩ := I.tuple ha
  exact call_tuple_same (items := its.toArray) p1 ⟨.ref a, H, I, rfl, q⟩
end
end L2

namespace L2
open PySem PySem.Spec PyProof.Rows

/-! ### places -/
/-- the place that an index of any sign means -/
def ixN (n : Nat) (i : Int) : Option Nat := if 0 ≤ i then (if i < n then some i.toNat else none) else if -(n : Int) ≤ i then some (i + n).toNat else none
def atI {α : Type} (xs : List α) (i : Int) : Option α := (ixN xs.length i).bind fun j => xs[j]?
theorem ixN_seq {n : Nat} {i : Int} {j : Nat} (h : ixN n i = some j) : seqIndex? i n = some j ∧ j < n ∧ -(n : Int) ≤ i ∧ i < n := by
  unfold ixN at h
  by_cases h0 : 0 ≤ i
  · rw [if_pos h0] at h
    by_cases h1 : i < n
    · rw [if_pos h1] at h
      have e : i.toNat = j := Option.some.inj h
      exact ⟨by rw [seqIndex_of h0 h1, e], by omega, by omega, h1⟩
    · rw [if_neg h1] at h; cases h
  · rw [if_neg h0] at h
    by_cases h1 : -(n : Int) ≤ i
    · rw [if_pos h1] at h
      have e : (i + n).toNat = j := Option.some.inj h
      exact ⟨by rw [seqIndex_neg (by omega) h1, e], by omega, h1, by omega⟩
    · rw [if_neg h1] at h; cases h
theorem atI_get {α : Type} {xs : List α} {i : Int} {v : α} (h : atI xs i = some v) : ∃ j, seqIndex? i xs.length = some j ∧ xs[j]? = some v ∧ j < xs.length ∧ -(xs.length : Int) ≤ i ∧ i < xs.length := by
  unfold atI at h
  cases e : ixN xs.length i with
  | none => rw [e] at h; cases h
  | some j =>
    rw [e] at h
    obtain ⟨h1, h2, h3, h4⟩ := ixN_seq e
    exact ⟨j, h1, h, h2, h3, h4⟩
theorem atI_nat {α : Type} {xs : List α} {j : Nat} {v : α} (h : xs[j]? = some v) : atI xs (j : Int) = some v := by
  have hj : j < xs.length := (List.getElem?_eq_some_iff.mp h).1
  have e : ixN xs.length (j : Int) = some j := by
    unfold ixN
    rw [if_pos (by omega), if_pos (by omega)]; simp
  unfold atI; rw [e]; exact h
theorem atI_last {α : Type} (xs : List α) (v : α) : atI (xs ++ [v]) (-1) = some v := by
  have hl : (xs ++ [v]).length = xs.length + 1 := by simp
  have e : ixN (xs ++ [v]).length (-1) = some xs.length := by
    unfold ixN
    rw [hl, if_neg (by decide), if_pos (by omega)]
    congr 1
    omega
  unfold atI
  rw [e]
  show (xs ++ [v])[xs.length]? = some v
  simp

/-! ### what may be subscripted -/
/-- what stands as an index of a plain subscript -/
def PlainIx (b : Expr) : Prop := ∀ o i, subscripted b false o i = operate [o, i] (getItem o i)
/-- a subscript by values -/
def IxR (X : Cx) (r : R2) : Prop :=
  ∀ (value slice : Expr) (pins : List (Addr × Obj)) (s : Shared) (σ : St) (H : Hp) (x y : V) (v u : Value) (Q : VK), Inv X pins σ H s → RelV x v → RelV y u → r x y H Q →
    subscripted slice false v u = operate [v, u] (getItem v u) → wpAny (model X.prog X.w) X.A (subscriptTail value slice v u) (EP X pins σ Q) X.xe s
/-- a call of a builtin's method by values: the receiver, the arguments -/
def MtR (X : Cx) (id : String) (r : V → List V → Hp → VK → Prop) : Prop :=
  ∀ (pins : List (Addr × Obj)) (s : Shared) (σ : St) (H : Hp) (x : V) (xs : List V) (v : Value) (us : List Value) (Q : VK), Inv X pins σ H s → RelV x v → Vals xs us → r x xs H Q →
    wpAny (model X.prog X.w) X.A (call (.builtin id) (v :: us)) (EP X pins σ Q) X.xe s
section
variable {X : Cx} {a b : Expr} {ta tb : TE} {pos : Pos}
theorem IxR.or {r r' : R2} (h : IxR X r) (h' : IxR X r') : IxR X (fun x y H Q => r x y H Q ∨ r' x y H Q) := by
  intro value slice pins s σ H x y v u Q I rx ry q hs
  rcases q with q | q
  · exact h value slice pins s σ H x y v u Q I rx ry q hs
  · exact h' value slice pins s σ H x y v u Q I rx ry q hs
theorem MtR.or {id : String} {r r' : V → List V → Hp → VK → Prop} (h : MtR X id r) (h' : MtR X id r') : MtR X id (fun x xs H Q => r x xs H Q ∨ r' x xs H Q) := by
  intro pins s σ H x xs v us Q I rx rs q
  rcases q with q | q
  · exact h pins s σ H x xs v us Q I rx rs q
  · exact h' pins s σ H x xs v us Q I rx rs q
/-- a[b] -/
theorem pe_ix {r : R2} (hr : IxR X r) (ha : PE X a ta) (hb : PE X b tb) (hs : PlainIx b) : PE X (.Subscript a b pos) (tOp r ta tb) := by
  intro pins s σ H Q I h
  exact Subscript_ (binT ha hb I h fun v u s2 x y H2 I2 rx ry q => hr a b pins s2 σ H2 x y v u Q I2 rx ry q (hs _ _))

def rIxL (K : PySem.W.Frag) : R2 := fun x y H Q => ∃ p xs i v, x = .ref p ∧ y = .int i ∧ SqL K H p xs ∧ atI xs i = some v ∧ Q v H
def rIxT (K : PySem.W.Frag) : R2 := fun x y H Q => ∃ p xs i v, x = .ref p ∧ y = .int i ∧ SqT K H p xs ∧ atI xs i = some v ∧ Q v H
def rIxS : R2 := fun x y H Q => ∃ z i c, x = .str z ∧ y = .int i ∧ z.length ≤ sizeLine ∧ atI z.cps.toList i = some c ∧ Q (.str ⟨#[c]⟩) H
theorem ix_list : IxR X (rIxL X.K) := by
  intro value slice pins s σ H x y v u Q I rx ry h hs
  obtain ⟨p, xs, i, z, rfl, rfl, hq, he, q⟩ := h
  cases rx
  obtain ⟨t, rfl⟩ := ry
  obtain ⟨its, r, pl, hz⟩ := I.list hq
  obtain ⟨j, h1, h2, h3, h4, h5⟩ := atI_get he
  obtain ⟨w, ew, rw'⟩ := r.get h2
  have hl := r.length
  have hn := line63
  have fin : EP X pins σ Q w s := ⟨z, H, I, rw', q⟩
  by_cases h0 : 0 ≤ i
  · have hj : i.toNat = j := by
      rw [seqIndex_of h0 h5] at h1
      exact Option.some.inj h1
    exact item_listR pl.isList h0 (by omega) (by rw [hj]; simpa using ew) fin hs
  · have hj : (i + (its.toArray.size : Int)).toNat = j := by
      rw [seqIndex_neg (by omega) h4] at h1
      rw [List.size_toArray, ← hl]
      exact Option.some.inj h1
    exact subscriptTail_builtinR (x := w) pl.isList.typeIs slot_list_getitem.lookup
      (wpAny_getItem_list_neg (Q := fun r s' => r = w ∧ EP X pins σ Q r s') pl.isList (by omega) (by rw [List.size_toArray] <;> omega) (by omega) (by rw [hj]; simpa using ew) ⟨rfl, fin⟩) hs
theorem ix_tup : IxR X (rIxT X.K) := by
  intro value slice pins s σ H x y v u Q I rx ry h hs
  obtain ⟨p, xs, i, z, rfl, rfl, hq, he, q⟩ := h
  cases rx
  obtain ⟨t, rfl⟩ := ry
  obtain ⟨its, r, pl, hz⟩ := I.tuple hq
  obtain ⟨j, h1, h2, h3, h4, h5⟩ := atI_get he
  obtain ⟨w, ew, rw'⟩ := r.get h2
  have hl := r.length
  have hn := line63
  have fin : EP X pins σ Q w s := ⟨z, H, I, rw', q⟩
  exact subscriptTail_builtinR (x := w) pl.typeIs slot_tuple_getitem.lookup
    (getItem_tuple (j := j) (Q := fun r s' => r = w ∧ EP X pins σ Q r s') pl (by omega) (by omega) (by rw [List.size_toArray, ← hl]; exact h1) (by simpa using ew) ⟨rfl, fin⟩) hs
theorem ix_str : IxR X rIxS := by
  intro value slice pins s σ H x y v u Q I rx ry h hs
  obtain ⟨z, i, c, rfl, rfl, hz, he, q⟩ := h
  obtain ⟨t, rfl⟩ := rx
  obtain ⟨t', rfl⟩ := ry
  obtain ⟨j, h1, h2, h3, h4, h5⟩ := atI_get he
  have hl : z.cps.toList.length = z.length := by simp [Str.length]
  rw [hl] at h1 h4 h5
  have hn := line63
  exact tail_any (typeIs_str s z t) slot_str_getitem.lookup (getItem_str (c := c) (by
    have e1 : decide (i < -(2 ^ 63 : Int)) = false := decide_eq_false (by omega)
    have e2 : decide (i ≥ 2 ^ 63) = false := decide_eq_false (by omega)
    rw [e1, e2, Bool.or_false]) (by rw [h1]; simpa using h2) ⟨.str ⟨#[c]⟩, H, I.tok _, ⟨_, rfl⟩, q⟩) hs
/-- list, tuple or str -/
def rIx (K : PySem.W.Frag) : R2 := fun x y H Q => rIxL K x y H Q ∨ rIxT K x y H Q ∨ rIxS x y H Q
theorem ix_seq : IxR X (rIx X.K) := ix_list.or (ix_tup.or ix_str)

/-! ### xs[i] = v, any sign -/
/-- the list's object behind a store -/
theorem mapSeq_set (its : List Value) (n j : Nat) (u : Value) : Obj.mapSeq (·.setIfInBounds j u) { cls := .type "list", data := .seq its.toArray n } = { cls := .type "list", data := .seq (its.set j u).toArray n } := by
  simp [Obj.mapSeq]
theorem Inv.lst {pins : List (Addr × Obj)} {σ : St} {H : Hp} {s : Shared} {p : Addr} {xs : List V} (I : Inv X pins σ H s) (h : H p = some (.lst xs)) :
    ∃ (its : List Value) (n : Nat), Vals xs its ∧ s.heap.get? p = some { cls := .type "list", data := .seq its.toArray n } ∧ xs.length ≤ sizeLine := by
  obtain ⟨z, its, n, r, e⟩ := I.hok p _ h
  exact ⟨its, n, r, e, z⟩
/-- the list at p is written by an update of its object -/
theorem Inv.lstUpd {pins : List (Addr × Obj)} {σ : St} {H : Hp} {s : Shared} {p : Addr} {xs ys : List V} {its its' : List Value} {n n' : Nat} {f : Obj → Obj} (I : Inv X pins σ H s) (h : H p = some (.lst xs))
    (ho : s.heap.get? p = some { cls := .type "list", data := .seq its.toArray n }) (hf : f { cls := .type "list", data := .seq its.toArray n } = { cls := .type "list", data := .seq its'.toArray n' }) (r : Vals ys its') (hz : ys.length ≤ sizeLine) (t : Nat) :
    Inv X pins σ (upd H p (.lst ys)) { s with heap := s.heap.update p f, toks := t } := by
  have e : (s.heap.update p f).get? p = some { cls := .type "list", data := .seq its'.toArray n' } := by
    rw [Heap.get?_update_self f ho (by rw [hf] <;> rfl), hf]
  refine I.write (x := p) (e := p) (by rw [h]; trivial) (.inl rfl) (fun b u hb q => (Heap.get?_update_other _ _ (Ne.symm hb)).trans q) ⟨_, e⟩ ?_
  exact ⟨hz, its', n', r, e⟩
def rSetL : V → V → V → Hp → (Hp → Prop) → Prop := fun o i v H Q => ∃ p xs k j, o = .ref p ∧ i = .int k ∧ H p = some (.lst xs) ∧ ixN xs.length k = some j ∧ Q (upd H p (.lst (xs.set j v)))
theorem set_list : PSet X rSetL := by
  intro pins s σ H o i v ov iv u Q I ro ri rv h
  obtain ⟨p, xs, k, j, rfl, rfl, hp, hj, q⟩ := h
  cases ro
  obtain ⟨t, rfl⟩ := ri
  obtain ⟨its, n, r, ho, hz⟩ := I.lst hp
  obtain ⟨h1, h2, h3, h4⟩ := ixN_seq hj
  have hl := r.length
  have hn := line63
  have I' : Inv X pins σ (upd H p (.lst (xs.set j v))) { s with heap := s.heap.update p (Obj.mapSeq (·.setIfInBounds j u)) } :=
    I.lstUpd hp ho (mapSeq_set its n j u) (r.set rv j) (by rw [List.length_set]; exact hz) s.toks
  by_cases h0 : 0 ≤ k
  · have hk : k.toNat = j := by
      rw [seqIndex_of h0 h4] at h1
      exact Option.some.inj h1
    exact PySem.W.ki_setAt ho h0 (by omega) (by rw [List.size_toArray, ← hl]; exact h4) (by rw [hk]; exact ⟨_, I', q⟩)
  · have hk : (k + (its.toArray.size : Int)).toNat = j := by
      rw [seqIndex_neg (by omega) h3] at h1
      rw [List.size_toArray, ← hl]
      exact Option.some.inj h1
    exact PySem.W.ki_setBack ho (by omega) (by rw [List.size_toArray, ← hl]; exact h3) (by omega) (by rw [hk]; exact ⟨_, I', q⟩)

/-! ### slices -/
theorem slice_bounds (lo hi : Option Int) (n : Nat) : (sliceBounds lo hi none n).1 = ((HT.sIx n 0 lo : Nat) : Int) ∧ (sliceBounds lo hi none n).2.1 = ((HT.sIx n n hi : Nat) : Int) ∧ (sliceBounds lo hi none n).2.2 = 1 := by
  refine ⟨?_, ?_, rfl⟩
  · cases lo with
    | none => simp [sliceBounds, HT.sIx]
    | some i =>
      simp only [sliceBounds, HT.sIx, Option.getD_none, show (1 : Int) > 0 by decide, if_true]
      by_cases h : i < 0
      · simp only [h, if_true] <;> omega
      · simp only [h, if_false] <;> omega
  · cases hi with
    | none => simp [sliceBounds, HT.sIx]
    | some i =>
      simp only [sliceBounds, HT.sIx, Option.getD_none, show (1 : Int) > 0 by decide, if_true]
      by_cases h : i < 0
      · simp only [h, if_true] <;> omega
      · simp only [h, if_false] <;> omega
theorem slicePick_cut (its : List Value) (lo hi : Option Int) : slicePick its.toArray lo hi none = ((its.drop (HT.sIx its.length 0 lo)).take (HT.sIx its.length its.length hi - HT.sIx its.length 0 lo)).toArray := by
  obtain ⟨h1, h2, h3⟩ := slice_bounds lo hi its.toArray.size
  unfold slicePick
  rw [h1, h2, h3]
  simp only [sliceRange_one, pick_run, List.size_toArray] <;> rfl
/-- xs[lo:hi] of a list: a new list -/
def rSlL (K : PySem.W.Frag) : V → Option Int → Option Int → Hp → VK → Prop := fun x lo hi H Q => ∃ a xs, x = .ref a ∧ SqL K H a xs ∧ ∀ p, H p = none → Q (.ref p) (upd H p (.lst (cutV xs lo hi)))
theorem sl_list : SlR X (rSlL X.K) := by
  intro pins s σ H x v vl vu lo hi sl Q I rx hs pl pu h
  obtain ⟨a, xs, rfl, hx, q⟩ := h
  cases rx
  obtain ⟨its, r, ht, hz⟩ := I.list hx
  have hlen := r.length
  refine ⟨"list", _, slot_list_getitem.lookup, ht.isList.typeIs, ?_⟩
  refine wpAny_getItem_list_slice ht.isList hs pl pu .none (by simp) ?_ (by rw [List.size_toArray] <;> omega)
  rw [slicePick_cut, ← hlen]
  refine ⟨.ref s.heap.objs.size, _, I.laid (t' := s.toks) (o := .lst (cutV xs lo hi)) (fun b ob q => Heap.get?_push_of_some _ q) (Nat.le_refl _) ?_, rfl, q _ (I.hok.fresh (Nat.le_refl _))⟩
  exact ⟨Nat.le_trans (cutV_length xs lo hi) hz, _, 0, (r.drop (HT.sIx xs.length 0 lo)).take (HT.sIx xs.length xs.length hi - HT.sIx xs.length 0 lo), Heap.get?_push_size _ rfl⟩

/-! ### in, not in: flat items -/
def flatV : V → Bool
  | .non => true
  | .bl _ => true
  | .int _ => true
  | .str _ => true
  | _ => false
/-- == of flat values -/
def eqV : V → V → Bool
  | .non, .non => true
  | .bl a, .bl b => a == b
  | .bl a, .int b => (if a then 1 else 0) == b
  | .int a, .bl b => a == (if b then 1 else 0)
  | .int a, .int b => a == b
  | .str a, .str b => a == b
  | _, _ => false
theorem eqAt_V {A : Around} {s : Shared} {y x : V} {u v : Value} (ry : RelV y u) (rx : RelV x v) (fy : flatV y = true) (fx : flatV x = true) : SeqAt.EqAt A s u v (eqV y x) := by
  cases y with
  | non =>
    cases ry
    cases x with
    | non => cases rx; exact SeqAt.EqAt.same _
    | bl b => cases rx; exact SeqAt.EqAt.none_bool b
    | int b => obtain ⟨t, rfl⟩ := rx; exact SeqAt.EqAt.none_int b t
    | str b => obtain ⟨t, rfl⟩ := rx; exact SeqAt.EqAt.none_str b t
    | _ => exact absurd (show false = true from fx) Bool.false_ne_true
  | bl a =>
    cases ry
    cases x with
    | non => cases rx; exact SeqAt.EqAt.bool_none a
    | bl b => cases rx; exact SeqAt.EqAt.bool_bool a b
    | int b => obtain ⟨t, rfl⟩ := rx; exact SeqAt.EqAt.bool_int a b t
    | str b => obtain ⟨t, rfl⟩ := rx; exact SeqAt.EqAt.bool_str a b t
    | _ => exact absurd (show false = true from fx) Bool.false_ne_true
  | int a =>
    obtain ⟨t', rfl⟩ := ry
    cases x with
    | non => cases rx; exact SeqAt.EqAt.int_none a t'
    | bl b => cases rx; exact SeqAt.EqAt.int_bool a t' b
    | int b => obtain ⟨t, rfl⟩ := rx; exact SeqAt.EqAt.int_int a t' b t
    | str b => obtain ⟨t, rfl⟩ := rx; exact SeqAt.EqAt.int_str a t' b t
    | _ => exact absurd (show false = true from fx) Bool.false_ne_true
  | str a =>
    obtain ⟨t', rfl⟩ := ry
    cases x with
    | non => cases rx; exact SeqAt.EqAt.str_none a t'
    | bl b => cases rx; exact SeqAt.EqAt.str_bool a t' b
    | int b => obtain ⟨t, rfl⟩ := rx; exact SeqAt.EqAt.str_int a t' b t
    | str b => obtain ⟨t, rfl⟩ := rx; exact SeqAt.EqAt.str_str a t' b t
    | _ => exact absurd (show false = true from fx) Bool.false_ne_true
  | _ => exact absurd (show false = true from fy) Bool.false_ne_true
/-- the items' answers, read off the values (a value's own answer does not lean on its token) -/
def eqU (x : V) (u : Value) : Bool := match u with
  | .none => eqV .non x
  | .bool b => eqV (.bl b) x
  | .int i _ => eqV (.int i) x
  | .str z _ => eqV (.str z) x
  | _ => false
theorem eqU_of {x y : V} {u : Value} (r : RelV y u) (f : flatV y = true) : eqU x u = eqV y x := by
  cases y with
  | non => cases r; rfl
  | bl b => cases r; rfl
  | int i => obtain ⟨t, rfl⟩ := r; rfl
  | str z => obtain ⟨t, rfl⟩ := r; rfl
  | _ => exact absurd (show false = true from f) Bool.false_ne_true
theorem any_eqU {x : V} : ∀ {xs : List V} {us : List Value}, Vals xs us → xs.all flatV = true → us.any (eqU x) = xs.any fun y => eqV y x
  | _, _, .nil, _ => rfl
  | y :: xs, u :: us, .cons r t, f => by
    rw [List.all_cons, Bool.and_eq_true] at f
    rw [List.any_cons, List.any_cons, eqU_of r f.1, any_eqU t f.2]
theorem mem_eqAt {A : Around} {s : Shared} {x : V} {v : Value} (rx : RelV x v) (fx : flatV x = true) : ∀ {xs : List V} {us : List Value}, Vals xs us → xs.all flatV = true → ∀ u ∈ us, SeqAt.EqAt A s u v (eqU x u)
  | _, _, .nil, _ => fun u hu => by cases hu
  | y :: xs, u :: us, .cons r t, f => fun u' hu => by
    rw [List.all_cons, Bool.and_eq_true] at f
    rcases List.mem_cons.mp hu with rfl | hu
    · rw [eqU_of r f.1]; exact eqAt_V r rx f.1 fx
    · exact mem_eqAt rx fx t f.2 u' hu
def inV (x : V) (xs : List V) : Bool := xs.any fun y => eqV y x
/-- x in a list or tuple of flat items -/
def rIn (K : PySem.W.Frag) (neg : Bool) : R2 := fun x y H Q => ∃ p xs, y = .ref p ∧ (SqL K H p xs ∨ SqT K H p xs) ∧ flatV x = true ∧ xs.all flatV = true ∧ Q (.bl (if neg then !inV x xs else inV x xs)) H
theorem op_in_seq : OpR X (compareOp .In) (rIn X.K false) := by
  intro pins s σ H x y v u Q I rx ry h
  obtain ⟨p, xs, rfl, hq, fx, fs, q⟩ := h
  cases ry
  rcases hq with hq | hq
  · obtain ⟨its, r, pl, hz⟩ := I.list hq
    refine SeqAt.in_listAt (eqU x) pl.isList (fun w hw => mem_eqAt rx fx r fs w (by simpa using hw)) ⟨.bl _, H, I, rfl, ?_⟩
    rw [show its.toArray.any (eqU x) = its.any (eqU x) by simp, any_eqU r fs]
    exact q
  · obtain ⟨its, r, pl, hz⟩ := I.tuple hq
    refine SeqAt.in_tupleAt (eqU x) pl (fun w hw => mem_eqAt rx fx r fs w (by simpa using hw)) ⟨.bl _, H, I, rfl, ?_⟩
    rw [show its.toArray.any (eqU x) = its.any (eqU x) by simp, any_eqU r fs]
    exact q
theorem op_notIn_seq : OpR X (compareOp .NotIn) (rIn X.K true) := by
  intro pins s σ H x y v u Q I rx ry h
  obtain ⟨p, xs, rfl, hq, fx, fs, q⟩ := h
  cases ry
  rcases hq with hq | hq
  · obtain ⟨its, r, pl, hz⟩ := I.list hq
    refine SeqAt.notIn_listAt (eqU x) pl.isList (fun w hw => mem_eqAt rx fx r fs w (by simpa using hw)) ⟨.bl _, H, I, rfl, ?_⟩
    rw [show its.toArray.any (eqU x) = its.any (eqU x) by simp, any_eqU r fs]
    exact q
  · obtain ⟨its, r, pl, hz⟩ := I.tuple hq
    refine SeqAt.notIn_tupleAt (eqU x) pl (fun w hw => mem_eqAt rx fx r fs w (by simpa using hw)) ⟨.bl _, H, I, rfl, ?_⟩
    rw [show its.toArray.any (eqU x) = its.any (eqU x) by simp, any_eqU r fs]
    exact q
theorem op_notIn_str : OpR X (compareOp .NotIn) (fun x y H Q => ∃ i j, x = .str i ∧ y = .str j ∧ Q (.bl (!(!(Builtin.Str.occurrences j i 0 j.length 1).isEmpty))) H) := by
  intro pins s σ H x y v u Q I rx ry h
  obtain ⟨i, j, rfl, rfl, q⟩ := h
  obtain ⟨t, rfl⟩ := rx
  obtain ⟨t', rfl⟩ := ry
  exact notIn_str ⟨.bl _, H, I, rfl, q⟩

/-! ### len, list(x), tuple(x) of any list or tuple that is read -/
theorem call_len_seq : CallR X (.builtin "len") (fun xs H Q => ∃ p ys, xs = [.ref p] ∧ (SqL X.K H p ys ∨ SqT X.K H p ys) ∧ Q (.int ys.length) H) := by
  intro pins s σ H xs us Q I r h
  obtain ⟨p, ys, rfl, hq, q⟩ := h
  obtain ⟨u, rfl, rx⟩ := vals1 r
  cases rx
  have hn := line63
  rcases hq with hq | hq
  · obtain ⟨its, r', pl, hz⟩ := I.list hq
    have hlen := r'.length
    exact Calls.call_len_list pl.isList (by simp only [List.size_toArray] <;> omega) ⟨.int ys.length, H, I.tok _, ⟨s.toks + 1, by rw [List.size_toArray, hlen]⟩, q⟩
  · obtain ⟨its, r', pl, hz⟩ := I.tuple hq
    have hlen := r'.length
    exact len_tuple pl (by simp only [List.size_toArray] <;> omega) ⟨.int ys.length, H, I.tok _, ⟨s.toks + 1, by rw [List.size_toArray, hlen]⟩, q⟩
theorem call_len_str : CallR X (.builtin "len") (fun xs H Q => ∃ z, xs = [.str z] ∧ z.length ≤ sizeLine ∧ Q (.int z.length) H) := by
  intro pins s σ H xs us Q I r h
  obtain ⟨z, rfl, hz, q⟩ := h
  obtain ⟨u, rfl, t, rfl⟩ := vals1 r
  have hn := line63
  exact len_str (by omega) ⟨.int z.length, H, I.tok _, ⟨_, rfl⟩, q⟩
theorem CallR.or {f : Value} {r r' : List V → Hp → VK → Prop} (h : CallR X f r) (h' : CallR X f r') : CallR X f (fun xs H Q => r xs H Q ∨ r' xs H Q) := by
  intro pins s σ H xs us Q I rs q
  rcases q with q | q
  · exact h pins s σ H xs us Q I rs q
  · exact h' pins s σ H xs us Q I rs q
theorem call_list_of : CallR X (.type "list") (fun xs H Q => ∃ p ys, xs = [.ref p] ∧ (SqL X.K H p ys ∨ SqT X.K H p ys) ∧ ∀ l, H l = none → Q (.ref l) (upd H l (.lst ys))) := by
  intro pins s σ H xs us Q I r h
  obtain ⟨p, ys, rfl, hq, q⟩ := h
  obtain ⟨u, rfl, rx⟩ := vals1 r
  cases rx
  have fin : ∀ (its : List Value), Vals ys its → ys.length ≤ sizeLine → ∀ (h' : Heap) (c' : Nat), (∀ b o', s.heap.get? b = some o' → h'.get? b = some o') →
      h'.get? s.heap.objs.size = some { cls := .type "list", dict := none, data := .seq its.toArray c', slots := #[] } → EP X pins σ Q (.ref s.heap.objs.size) { s with heap := h' } := fun its r' hz h' c' kp e =>
    ⟨.ref s.heap.objs.size, _, I.laid (t' := s.toks) kp (Nat.le_refl _) (show ObjOk X.prog X.w _ h' _ (.lst ys) from ⟨hz, its, c', r', e⟩), rfl, q _ (I.hok.fresh (Nat.le_refl _))⟩
  rcases hq with hq | hq
  · obtain ⟨its, r', pl, hz⟩ := I.list hq
    have hlen := r'.length
    obtain ⟨o, ho, hc, n, hd⟩ := pl.isList
    exact call_list_seq p (.inl rfl) ho hc hd (fun h' c' kp e => fin its r' hz h' c' kp e) (by simp only [List.size_toArray] <;> omega)
  · obtain ⟨its, r', pl, hz⟩ := I.tuple hq
    have hlen := r'.length
    obtain ⟨o, ho, hc, n, hd⟩ := pl
    exact call_list_seq p (.inr rfl) ho hc hd (fun h' c' kp e => fin its r' hz h' c' kp e) (by simp only [List.size_toArray] <;> omega)
theorem call_tuple_of : CallR X (.type "tuple") (fun xs H Q => ∃ p ys, xs = [.ref p] ∧ ((SqL X.K H p ys ∧ ∀ l, H l = none → Q (.ref l) (upd H l (.tup ys))) ∨ (SqT X.K H p ys ∧ Q (.ref p) H))) := by
  intro pins s σ H xs us Q I r h
  obtain ⟨p, ys, rfl, h⟩ := h
  obtain ⟨u, rfl, rx⟩ := vals1 r
  cases rx
  rcases h with ⟨hq, q⟩ | ⟨hq, q⟩
  · obtain ⟨its, r', pl, hz⟩ := I.list hq
    have hlen := r'.length
    refine call_tuple_list pl.isList (fun h' kp => ?_) (by simp only [List.size_toArray] <;> omega)
    have I1 : Inv X pins σ H { s with heap := h' } := I.kept (t' := s.toks) kp
    have I2 : Inv X pins σ (upd H h'.objs.size (.tup ys)) { s with heap := h'.push { cls := .type "tuple", data := .seq its.toArray } } :=
      I1.laid (t' := s.toks) (fun b o e => Heap.get?_push_of_some _ e) (Nat.le_refl _) (show ObjOk X.prog X.w _ _ _ (.tup ys) from ⟨hz, its, r', IsTup.new _ _⟩)
    exact ⟨.ref h'.objs.size, _, I2, rfl, q _ (I1.hok.fresh (Nat.le_refl _))⟩
  · obtain ⟨its, r', pl, hz⟩ := I.tuple hq
    exact call_tuple_same pl ⟨.ref p, H, I, rfl, q⟩

/-! ### the call of a builtin's method: o.m(..) -/
/-- the value is of that builtin type -/
def tyV (K : PySem.W.Frag) (T : String) (x : V) (H : Hp) : Prop := match x with
  | .str _ => T = "str"
  | .int _ => T = "int"
  | .ref p => (T = "list" ∧ ∃ xs, SqL K H p xs) ∨ (T = "tuple" ∧ ∃ o, K.lookup p = some o ∧ o.cls = .type "tuple" ∧ o.dict = none) ∨
      (T = "dict" ∧ ((∃ kvs, H p = some (.dK kvs)) ∨ ∃ kvs, H p = some (.dT kvs))) ∨ (T = "set" ∧ ∃ S n, H p = some (.set S n))
  | _ => False
theorem tyV_is {pins : List (Addr × Obj)} {σ : St} {H : Hp} {s : Shared} {T : String} {x : V} {v : Value} (I : Inv X pins σ H s) (r : RelV x v) (ty : tyV X.K T x H) :
    s.TypeIs v T ∧ ∀ a, v = .ref a → ∃ ob, s.heap.get? a = some ob ∧ ob.dict = none := by
  cases x with
  | str z =>
    obtain ⟨t, rfl⟩ := r
    cases (show T = "str" from ty)
    exact ⟨typeIs_str s z t, fun _ e => nomatch e⟩
  | int i =>
    obtain ⟨t, rfl⟩ := r
    cases (show T = "int" from ty)
    exact ⟨typeIs_int s i t, fun _ e => nomatch e⟩
  | ref p =>
    cases r
    rcases ty with ⟨rfl, xs, hq⟩ | ⟨rfl, o, hk, hc, hd⟩ | ⟨rfl, hk⟩ | ⟨rfl, S, n, hk⟩
    · obtain ⟨its, _, pl, _⟩ := I.list hq
      refine ⟨pl.isList.typeIs, fun a e => ?_⟩
      cases e
      obtain ⟨o, n, e, c, hd, _⟩ := pl
      exact ⟨o, e, hd⟩
    · refine ⟨⟨o, I.kIn p o hk, hc⟩, fun a e => ?_⟩
      cases e
      exact ⟨o, I.kIn _ o hk, hd⟩
    · have z : ∃ o, s.heap.get? p = some o ∧ o.ExactDict := by
        rcases hk with ⟨kvs, hk⟩ | ⟨kvs, hk⟩
        · obtain ⟨_, _, _, _, o, _, _, e, ex, _⟩ := I.hok p _ hk
          exact ⟨o, e, ex⟩
        · obtain ⟨_, _, _, _, o, _, _, e, ex, _⟩ := I.hok p _ hk
          exact ⟨o, e, ex⟩
      obtain ⟨o, e, ex⟩ := z
      refine ⟨⟨o, e, ex.1⟩, fun a e2 => ?_⟩
      cases e2
      exact ⟨o, e, ex.2.1⟩
    · obtain ⟨o, _, _, _, e, ex, _⟩ := I.hok p _ hk
      refine ⟨⟨o, e, ex.1⟩, fun a e2 => ?_⟩
      cases e2
      exact ⟨o, e, ex.2.1⟩
  | _ => exact False.elim ty
def tBM0 (K : PySem.W.Frag) (T : String) (r : V → List V → Hp → VK → Prop) (to : TE) : TE := fun σ H Q => to σ H fun x H1 => tyV K T x H1 ∧ r x [] H1 Q
def tBM (K : PySem.W.Frag) (T : String) (r : V → List V → Hp → VK → Prop) (to : TE) (t : TA) : TE := fun σ H Q => to σ H fun x H1 => tyV K T x H1 ∧ t σ H1 fun xs H2 => r x xs H2 Q
variable {o e : Expr} {es : List Expr} {to : TE} {t : TA} {name : Str} {apos cpos : Pos} {T id : String} {r : V → List V → Hp → VK → Prop}
theorem pe_bm0 (pa : PlainAttrs T) (slot : Slot T name id) (hty : typeOf (.builtin id) = pure (.type "method_descriptor")) (hm : MtR X id r) (ho : PE X o to)
    (hbase : attributeBase o name X.env (eval o X.env) = eval o X.env := by rfl) (hline : (apos.endLine == cpos.line) = true := by rfl) : PE X (.Call (.Attribute o name apos) [] [] cpos) (tBM0 X.K T r to) := by
  intro pins s σ H Q I h
  refine wpAny_Call_method0_late hbase hline (thn (ho pins s σ H _ I h) fun v s1 ⟨x, H1, I1, r1, ty, q1⟩ => ?_)
  obtain ⟨h1, h2⟩ := tyV_is I1 r1 ty
  exact ⟨T, id, pa, slot, hty, h1, h2, Calls.callWith_builtin rfl (PySem.evalArgs_none (hm pins s1 σ H1 x [] v [] Q I1 r1 .nil q1))⟩
theorem pe_bm (pa : PlainAttrs T) (slot : Slot T name id) (hty : typeOf (.builtin id) = pure (.type "method_descriptor")) (hm : MtR X id r) (ho : PE X o to) (ha : PA X (e :: es) t)
    (hbase : attributeBase o name X.env (eval o X.env) = eval o X.env := by rfl)
    (hfew : ((backTo cpos (starEach (e :: es) X.env)).all (fun x => !x.1) && (backToKw cpos (keywordEach [] X.env)).all (fun x => x.1.isSome)
      && decide ((e :: es).length + ([] : List Keyword).length + (if ([] : List Keyword).isEmpty then 0 else 1) < 30)) = true := by rfl)
    (hline : (apos.endLine == cpos.line) = true := by rfl) (hs : starEach (e :: es) X.env = (false, eval e X.env) :: starEach es X.env := by rfl) (hplain : (backTo cpos (starEach es X.env)).any (·.1) = false := by rfl) :
    PE X (.Call (.Attribute o name apos) (e :: es) [] cpos) (tBM X.K T r to t) := by
  intro pins s σ H Q I h
  refine wpAny_Call_method_late hbase hfew hline rfl (thn (ho pins s σ H _ I h) fun v s1 ⟨x, H1, I1, r1, ty, q1⟩ => ?_)
  obtain ⟨h1, h2⟩ := tyV_is I1 r1 ty
  refine ⟨T, id, pa, slot, hty, h1, h2, ?_⟩
  have hA := ha cpos pins s1 σ H1 _ I1 q1
  rw [hs] at hA ⊢
  refine Calls.callWith_builtin (by show (false || (backTo cpos (starEach es X.env)).any (·.1)) = false; rw [hplain] <;> rfl) (Calls.evalArgs_plain ?_)
  exact thn hA fun us s2 ⟨vs, H2, I2, r2, q2⟩ => hm pins s2 σ H2 x vs v us Q I2 r1 r2 q2
/- xs.append(e), list.index on a module's tuple .. are MtR facts of 06m -/
end
end L2

namespace L2
open PySem PySem.Spec PyProof.Rows

def MtM (X : Cx) (id : String) (r : V → List V → Hp → VK → Prop) : Prop :=
  ∀ (pins : List (Addr × Obj)) (s : Shared) (σ : St) (H : Hp) (x : V) (xs : List V) (v : Value) (us : List Value) (Q : VK), Inv X pins σ H s → RelV x v → Vals xs us → r x xs H Q →
    wpAny (model X.prog X.w) X.A (call (.builtin id) (v :: us)) (EP X pins σ Q) X.xe s

/-! ### lists of values -/
theorem Vals.one : ∀ {x : V} {us : List Value}, Vals [x] us → ∃ u, us = [u] ∧ RelV x u
  | _, _, .cons r .nil => ⟨_, rfl, r⟩
theorem Vals.two : ∀ {x y : V} {us : List Value}, Vals [x, y] us → ∃ u v, us = [u, v] ∧ RelV x u ∧ RelV y v
  | _, _, _, .cons r (.cons q .nil) => ⟨_, _, rfl, r, q⟩
theorem Vals.zero : ∀ {us : List Value}, Vals [] us → us = []
  | _, .nil => rfl
theorem Vals.dropLast {xs : List V} {us : List Value} (h : Vals xs us) : Vals xs.dropLast us.dropLast := by
  induction h with
  | nil => exact .nil
  | cons r t ih =>
    cases t with
    | nil => exact .nil
    | cons q t' => exact .cons r ih
theorem Vals.eraseIdx : ∀ {xs : List V} {us : List Value} (i : Nat), Vals xs us → Vals (xs.eraseIdx i) (us.eraseIdx i)
  | _, _, _, .nil => .nil
  | _, _, 0, .cons _ t => t
  | _, _, i + 1, .cons r t => .cons r (Vals.eraseIdx i t)
theorem Vals.reverse {xs : List V} {us : List Value} (h : Vals xs us) : Vals xs.reverse us.reverse := by
  induction h with
  | nil => exact .nil
  | cons r t ih => rw [List.reverse_cons, List.reverse_cons]; exact Vals.append ih (.cons r .nil)
theorem Vals.rep {xs : List V} {us : List Value} (h : Vals xs us) : ∀ k : Nat, Vals (List.replicate k xs).flatten (List.replicate k us).flatten
  | 0 => .nil
  | k + 1 => by
    rw [List.replicate_succ, List.replicate_succ, List.flatten_cons, List.flatten_cons]
    exact Vals.append h (Vals.rep h k)
theorem erase_last {α : Type} (l : List α) : l.eraseIdx (l.length - 1) = l.dropLast := by
  induction l with
  | nil => rfl
  | cons a r ih =>
    cases r with
    | nil => rfl
    | cons b r =>
      have e : (a :: b :: r).length - 1 = ((b :: r).length - 1) + 1 := by
        have h1 : (a :: b :: r).length = r.length + 2 := rfl
        have h2 : (b :: r).length = r.length + 1 := rfl
        omega
      rw [e, List.eraseIdx_cons_succ, ih]
      all_goals rfl
theorem len_erase {α : Type} : ∀ (l : List α) (i : Nat), (l.eraseIdx i).length ≤ l.length
  | [], _ => Nat.le_refl _
  | _ :: _, 0 => Nat.le_succ _
  | _ :: r, i + 1 => Nat.succ_le_succ (len_erase r i)
theorem foldl_rep (its : List Value) : ∀ (k : Nat) (acc : List Value),
    List.foldl (fun x1 x2 => x1 ++ x2) acc.toArray (List.replicate k its.toArray) = (acc ++ (List.replicate k its).flatten).toArray
  | 0, acc => by simp
  | k + 1, acc => by
    have e : acc.toArray ++ its.toArray = (acc ++ its).toArray := by simp
    have e2 : (acc ++ its) ++ (List.replicate k its).flatten = acc ++ (List.replicate (k + 1) its).flatten := by
      rw [List.replicate_succ, List.flatten_cons, List.append_assoc]
    rw [← e2, ← foldl_rep its k (acc ++ its), ← e, List.replicate_succ, List.foldl_cons]

section
variable {X : Cx} {pins : List (Addr × Obj)} {σ : St} {H : Hp} {s : Shared} {l b : Addr} {xs ys zs : List V}

/-! ### the two steps: a tracked list is rewritten, a new list is laid -/
theorem Inv.lset {its its' : List Value} {n : Nat} {f : Array Value → Array Value} {t' : Nat} (I : Inv X pins σ H s) (hH : H l = some (.lst xs))
    (e : s.heap.get? l = some { cls := .type "list", data := .seq its.toArray n }) (hf : f its.toArray = its'.toArray) (hv : Vals ys its') (hz : ys.length ≤ sizeLine) :
    Inv X pins σ (upd H l (.lst ys)) { s with heap := s.heap.update l (Obj.mapSeq f), toks := t' } := by
  have q := PySem.IsL.update e f
  rw [hf] at q
  refine I.write (x := l) (e := l) (by rw [hH]; exact trivial) (.inl rfl) (fun b' u hb hu => (Heap.get?_update_other s.heap (Obj.mapSeq f) (Ne.symm hb)).trans hu) ⟨_, q⟩ ?_
  exact ⟨hz, its', _, hv, q⟩
theorem Inv.lnew {its : List Value} {t' : Nat} (I : Inv X pins σ H s) (hv : Vals ys its) (hz : ys.length ≤ sizeLine) :
    Inv X pins σ (upd H s.heap.objs.size (.lst ys)) { s with heap := s.heap.push { cls := .type "list", data := .seq its.toArray }, toks := t' } :=
  I.laid (fun _ _ q => Heap.get?_push_of_some _ q) (Nat.le_refl _) ⟨hz, its, 0, hv, Heap.get?_push_size _ rfl⟩
theorem Inv.fresh (I : Inv X pins σ H s) : H s.heap.objs.size = none := I.hok.fresh (Nat.le_refl _)
theorem Inv.lstM (I : Inv X pins σ H s) (hH : H l = some (.lst xs)) : xs.length ≤ sizeLine ∧ ∃ (its : List Value) (n : Nat), Vals xs its ∧ xs.length = its.length ∧ s.heap.get? l = some { cls := .type "list", data := .seq its.toArray n } := by
  obtain ⟨z, its, n, r, e⟩ := I.hok l _ hH
  exact ⟨z, its, n, r, r.length, e⟩

theorem notLongL {n : Nat} (h : n ≤ sizeLine) : Builtin.List.listTooLong n = false := by
  unfold Builtin.List.listTooLong
  exact decide_eq_false (by omega)
end

section
variable {X : Cx}

/-! ### methods -/
def rAppend : V → List V → Hp → VK → Prop := fun x vs H Q => ∃ l xs y, x = .ref l ∧ vs = [y] ∧ H l = some (.lst xs) ∧ xs.length < sizeLine ∧ Q .non (upd H l (.lst (xs ++ [y])))
theorem mt_append : MtM X "list.append" rAppend := by
  intro pins s σ H x vs v us Q I rx rv h
  obtain ⟨l, xs, y, rfl, rfl, hH, hz, q⟩ := h
  cases rx
  obtain ⟨u, rfl, ru⟩ := rv.one
  obtain ⟨z, its, n, r, hl, e⟩ := I.lstM hH
  refine call_meets F.slot_list_append ⟨_, e, rfl⟩ F.entry_list_append (F.args_list_append_2 _ _) (PySem.list_append l its.toArray n u (by rw [List.size_toArray]; omega)) ⟨e, ?_⟩
  refine ⟨.non, _, I.lset (its' := its ++ [u]) hH e (by simp) (r.append (.cons ru .nil)) ?_, rfl, q⟩
  rw [List.length_append, List.length_singleton]
  omega

def rExtend : V → List V → Hp → VK → Prop := fun x vs H Q => ∃ l b xs zs, x = .ref l ∧ vs = [.ref b] ∧ H l = some (.lst xs) ∧ H b = some (.lst zs) ∧ xs.length + zs.length ≤ sizeLine ∧ Q .non (upd H l (.lst (xs ++ zs)))
theorem mt_extend : MtM X "list.extend" rExtend := by
  intro pins s σ H x vs v us Q I rx rv h
  obtain ⟨l, b, xs, zs, rfl, rfl, hH, hB, hz, q⟩ := h
  cases rx
  obtain ⟨u, rfl, ru⟩ := rv.one
  cases ru
  obtain ⟨z, its, n, r, hl, e⟩ := I.lstM hH
  obtain ⟨z2, its2, n2, r2, hl2, e2⟩ := I.lstM hB
  have hsz : its.toArray.size + its2.toArray.size ≤ sizeLine := by rw [List.size_toArray, List.size_toArray]; omega
  have hlong : ¬ (!its.toArray.isEmpty && Builtin.List.listTooLong (its.toArray.size + its2.toArray.size)) = true := by
    rw [notLongL hsz, Bool.and_false]
    exact Bool.false_ne_true
  refine call_meets F.slot_list_extend ⟨_, e, rfl⟩ F.entry_list_extend (F.args_list_extend_2 _ _)
    (AutoSeq1.list_extend_list_list_0 l its.toArray n b its2.toArray n2 hlong (by rw [List.size_toArray]; omega) (by omega)) ⟨e, e2, ?_⟩
  refine ⟨.non, _, I.lset (its' := its ++ its2) hH e (by simp) (r.append r2) ?_, rfl, q⟩
  rw [List.length_append]
  omega

def rPop : V → List V → Hp → VK → Prop := fun x vs H Q => ∃ l xs y, x = .ref l ∧ vs = [] ∧ H l = some (.lst xs) ∧ xs[xs.length - 1]? = some y ∧ Q y (upd H l (.lst xs.dropLast))
theorem mt_pop : MtM X "list.pop" rPop := by
  intro pins s σ H x vs v us Q I rx rv h
  obtain ⟨l, xs, y, rfl, rfl, hH, hy, q⟩ := h
  cases rx
  have hus := rv.zero
  subst hus
  obtain ⟨z, its, n, r, hl, e⟩ := I.lstM hH
  obtain ⟨u, hu, ru⟩ := r.get hy
  have hy' : its.toArray[its.toArray.size - 1]? = some u := by
    show its.toArray[its.length - 1]? = some u
    rw [← Array.getElem?_toList, ← hl]
    exact hu
  refine call_meets F.slot_list_pop ⟨_, e, rfl⟩ F.entry_list_pop (F.args_list_pop_1 _) (MeetsSeq.list_pop_last l its.toArray n u hy' (by rw [List.size_toArray]; omega)) ⟨e, ?_⟩
  refine ⟨y, _, I.lset (its' := its.dropLast) hH e ?_ r.dropLast ?_, ru, q⟩
  · show its.toArray.eraseIdxIfInBounds (its.toArray.size - 1) = its.dropLast.toArray
    rw [List.size_toArray, List.eraseIdxIfInBounds_toArray, erase_last]
  · rw [List.length_dropLast]
    omega

def rPopAt : V → List V → Hp → VK → Prop := fun x vs H Q => ∃ l xs i k y, x = .ref l ∧ vs = [.int i] ∧ H l = some (.lst xs) ∧ -(2 ^ 63) ≤ i ∧ i < 2 ^ 63 ∧ seqIndex? i xs.length = some k ∧ xs[k]? = some y ∧ Q y (upd H l (.lst (xs.eraseIdx k)))
theorem mt_popAt : MtM X "list.pop" rPopAt := by
  intro pins s σ H x vs v us Q I rx rv h
  obtain ⟨l, xs, i, k, y, rfl, rfl, hH, h1, h2, hk, hy, q⟩ := h
  cases rx
  obtain ⟨u, rfl, ru⟩ := rv.one
  obtain ⟨t, rfl⟩ := ru
  obtain ⟨z, its, n, r, hl, e⟩ := I.lstM hH
  obtain ⟨w, hw, rw'⟩ := r.get hy
  refine call_meets F.slot_list_pop ⟨_, e, rfl⟩ F.entry_list_pop (F.args_list_pop_2 _ _)
    (MeetsSeq.list_pop_at l its.toArray n i t k w (fitsIndex_both h1 h2) (by rw [List.size_toArray, ← hl]; exact hk) (by rw [← Array.getElem?_toList]; exact hw) (by rw [List.size_toArray]; omega)) ⟨e, ?_⟩
  refine ⟨y, _, I.lset (its' := its.eraseIdx k) hH e ?_ (r.eraseIdx k) ?_, rw', q⟩
  · show its.toArray.eraseIdxIfInBounds k = (its.eraseIdx k).toArray
    rw [List.eraseIdxIfInBounds_toArray]
  · have := len_erase xs k
    omega

def rReverse : V → List V → Hp → VK → Prop := fun x vs H Q => ∃ l xs, x = .ref l ∧ vs = [] ∧ H l = some (.lst xs) ∧ Q .non (upd H l (.lst xs.reverse))
theorem mt_reverse : MtM X "list.reverse" rReverse := by
  intro pins s σ H x vs v us Q I rx rv h
  obtain ⟨l, xs, rfl, rfl, hH, q⟩ := h
  cases rx
  have hus := rv.zero
  subst hus
  obtain ⟨z, its, n, r, hl, e⟩ := I.lstM hH
  refine call_meets F.slot_list_reverse ⟨_, e, rfl⟩ F.entry_list_reverse (F.args_list_reverse_1 _) (AutoSeq1.list_reverse_list_0 l its.toArray n (by rw [List.size_toArray]; omega)) ⟨e, ?_⟩
  refine ⟨.non, _, I.lset (its' := its.reverse) hH e (by simp) r.reverse ?_, rfl, q⟩
  rw [List.length_reverse]
  omega

def rClear : V → List V → Hp → VK → Prop := fun x vs H Q => ∃ l xs, x = .ref l ∧ vs = [] ∧ H l = some (.lst xs) ∧ Q .non (upd H l (.lst []))
theorem mt_clear : MtM X "list.clear" rClear := by
  intro pins s σ H x vs v us Q I rx rv h
  obtain ⟨l, xs, rfl, rfl, hH, q⟩ := h
  cases rx
  have hus := rv.zero
  subst hus
  obtain ⟨z, its, n, r, hl, e⟩ := I.lstM hH
  refine call_meets F.slot_list_clear ⟨_, e, rfl⟩ F.entry_list_clear (F.args_list_clear_1 _) (AutoSeq1.list_clear_list_0 l its.toArray n (by rw [List.size_toArray]; omega)) ⟨e, ?_⟩
  exact ⟨.non, _, I.lset (its' := []) (ys := []) hH e rfl .nil (Nat.zero_le _), rfl, q⟩

/-! ### list + list, list += list, list * int -/
def rCat : R2 := fun x y H Q => ∃ l b xs zs, x = .ref l ∧ y = .ref b ∧ H l = some (.lst xs) ∧ H b = some (.lst zs) ∧ xs.length + zs.length ≤ sizeLine ∧ ∀ p, H p = none → Q (.ref p) (upd H p (.lst (xs ++ zs)))
theorem op_cat : OpR X (binaryOp .Add) rCat := by
  intro pins s σ H x y v u Q I rx ry h
  obtain ⟨l, b, xs, zs, rfl, rfl, hH, hB, hz, q⟩ := h
  cases rx
  cases ry
  obtain ⟨z, its, n, r, hl, e⟩ := I.lstM hH
  obtain ⟨z2, its2, n2, r2, hl2, e2⟩ := I.lstM hB
  refine PySem.P.add_list e e2 ?_ (by rw [List.size_toArray, List.size_toArray]; omega)
  have ea : its.toArray ++ its2.toArray = (its ++ its2).toArray := by simp
  rw [ea]
  exact ⟨.ref _, _, I.lnew (t' := s.toks) (r.append r2) (by rw [List.length_append]; omega), rfl, q _ I.fresh⟩
/-- a list times an int (a negative one is nothing) -/
def rRep : R2 := fun x y H Q => ∃ l k xs, x = .ref l ∧ y = .int k ∧ H l = some (.lst xs) ∧ -(2 ^ 63) ≤ k ∧ k < 2 ^ 63 ∧ xs.length * k.toNat ≤ sizeLine ∧
  ∀ p, H p = none → Q (.ref p) (upd H p (.lst (List.replicate k.toNat xs).flatten))
theorem len_rep {α : Type} (xs : List α) (k : Nat) : (List.replicate k xs).flatten.length = k * xs.length := by
  induction k with
  | zero => simp
  | succ k ih => rw [List.replicate_succ, List.flatten_cons, List.length_append, ih, Nat.succ_mul, Nat.add_comm]
theorem op_rep : OpR X (binaryOp .Mult) rRep := by
  intro pins s σ H x y v u Q I rx ry h
  obtain ⟨l, k, xs, rfl, rfl, hH, h1, h2, hz, q⟩ := h
  cases rx
  obtain ⟨t, rfl⟩ := ry
  obtain ⟨z, its, n, r, hl, e⟩ := I.lstM hH
  have hlen : its.toArray.size * k.toNat ≤ sizeLine := by rw [List.size_toArray, ← hl]; exact hz
  have hcap : ¬ its.toArray.size * k.toNat > (2 ^ 63 - 1) / 8 := by
    have : (sizeLine : Nat) ≤ (2 ^ 63 - 1) / 8 := by decide
    omega
  have hfit : ¬ (!Builtin.List.listFitsIndex k) = true := by
    rw [fitsIndex_both h1 h2]
    exact Bool.false_ne_true
  have hlong : ¬ Builtin.List.listTooLong (its.toArray.size * k.toNat) = true := by
    rw [notLongL hlen]
    exact Bool.false_ne_true
  have hnew : List.foldl (fun x1 x2 => x1 ++ x2) #[] (List.replicate (if its.toArray.isEmpty = true then 0 else k.toNat) its.toArray) = (List.replicate k.toNat its).flatten.toArray := by
    have f0 : ∀ m : Nat, List.foldl (fun x1 x2 => x1 ++ x2) #[] (List.replicate m its.toArray) = (List.replicate m its).flatten.toArray := fun m => by
      have := foldl_rep its m []
      rw [List.nil_append] at this
      exact this
    rw [f0]
    cases its with
    | nil => simp
    | cons a r' => rw [if_neg (by simp)]
  refine wpAny_binaryOp_repeat_ref (T := "list") (U := "int") (by decide) ⟨_, e, rfl⟩ (fun s' => typeIs_int s' k t) noFill_list_mul F.fills_int_mul F.slot_int_rmul repeat_list F.slot_int_index.lookup
    (call_meets F.slot_int_rmul (typeIs_int s k t) F.entry_int_rmul (F.args_int_rmul_2 _ _) (int___rmul___int_list k t l its.toArray n)
      ⟨e, rfl, ⟨_, e, rfl⟩, call_meets F.slot_list_mul ⟨_, e, rfl⟩ F.entry_list_mul (F.args_list_mul_2 _ _) (AutoListH.list___mul___list_int_3 l its.toArray n k t hfit hcap hlong) ⟨e, ?_⟩⟩)
  rw [hnew]
  exact ⟨.ref _, _, I.lnew (t' := s.toks) (r.rep k.toNat) (by rw [len_rep, Nat.mul_comm]; exact hz), rfl, q _ I.fresh⟩

/-! ### del xs[i] -/
theorem del_list {pins : List (Addr × Obj)} {s : Shared} {σ : St} {H : Hp} {l : Addr} {xs : List V} {i : Int} {t : Tok} {k : Nat} {Q : Unit → Shared → Prop} (I : Inv X pins σ H s) (hH : H l = some (.lst xs))
    (h1 : -(2 ^ 63) ≤ i) (h2 : i < 2 ^ 63) (hk : seqIndex? i xs.length = some k) (h : ∀ s', Inv X pins σ (upd H l (.lst (xs.eraseIdx k))) s' → Q () s') :
    wpAny (model X.prog X.w) X.A (delItem (.ref l) (.int i t)) Q X.xe s := by
  obtain ⟨z, its, n, r, hl, e⟩ := I.lstM hH
  refine PySem.P.delItem_list (k := k) e (fitsIndex_both h1 h2) (by rw [List.size_toArray, ← hl]; exact hk) (h _ ?_) (by rw [List.size_toArray]; omega)
  refine I.lset (its' := its.eraseIdx k) (t' := s.toks) hH e ?_ (r.eraseIdx k) ?_
  · show its.toArray.eraseIdxIfInBounds k = (its.eraseIdx k).toArray
    rw [List.eraseIdxIfInBounds_toArray]
  · have := len_erase xs k
    omega
end

/-! ### xs[a:b] = ys -/
section
variable {prog : Program} {w : World} {A : Around} {E : Value → Shared → Prop} {s : Shared}
theorem splice_eq (its its2 : List Value) (a c : Nat) : its.toArray.extract 0 a ++ its2.toArray ++ its.toArray.extract c its.toArray.size = (its.take a ++ its2 ++ its.drop c).toArray := by
  apply Array.toList_inj.mp
  first
    | (simp
       exact List.take_of_length_le (by simp))
    | simp [List.take_of_length_le]
    | simp
theorem bounds_run {a c n : Nat} (hac : a ≤ c) (hc : c ≤ n) : sliceBounds (some (a : Int)) (some (c : Int)) none n = ((a : Int), (c : Int), 1) := by
  simp only [sliceBounds, Option.getD_none]
  have h1 : ¬ ((a : Int) < 0) := by omega
  have h2 : ¬ ((c : Int) < 0) := by omega
  simp only [h1, h2, if_false, show (1 : Int) > 0 by decide, if_true]
  congr 1
  · omega
  · congr 1; omega
set_option maxRecDepth 100000 in
/-- list.__setitem__ with a slice of step one and another list -/
theorem setItem_slice {l b sl : Addr} {items new : Array Value} {n n2 : Nat} {vl vu : Value} {a c : Nat} {Q : Unit → Shared → Prop}
    (e : s.heap.get? l = some { cls := .type "list", data := .seq items n }) (e2 : s.heap.get? b = some { cls := .type "list", data := .seq new n2 }) (hne : l ≠ b)
    (hs : s.heap.IsSliceOf sl vl vu .none) (pl : IsPart vl (some (a : Int))) (pu : IsPart vu (some (c : Int))) (hac : a ≤ c) (hc : c ≤ items.size)
    (hsz : items.size + new.size ≤ sizeLine) (h : Q () { s with heap := s.heap.update l (Obj.mapSeq fun xs => xs.extract 0 a ++ new ++ xs.extract c xs.size) }) :
    wpAny (model prog w) A (setItem (.ref l) (.ref sl) (.ref b)) Q E s := by
  have hl : s.heap.IsList l items := PySem.IsL.isList e
  have hb : s.heap.IsList b new := PySem.IsL.isList e2
  obtain ⟨os, hos, hcs, hds⟩ := id hs
  have hTs : s.TypeIs (.ref sl) "slice" := ⟨os, hos, hcs⟩
  have hstep : ¬ ((rawPart none == rawInt 0) = true) := Bool.false_ne_true
  have hsame : Builtin.List.listSameRef (.ref l) (.ref b) = false := by
    unfold Builtin.List.listSameRef
    exact beq_eq_false_iff_ne.mpr hne
  have hmax : (max (a : Int) (c : Int)).toNat = c := by omega
  have hz' : ((fun xs : Array Value => xs.extract 0 a ++ new ++ xs.extract c xs.size) items).size ≤ sizeLine + 1 := by
    simp only [Array.size_append, Array.size_extract]
    omega
  unfold setItem
  try with_reducible refine wpAny_holding ?_
  first | refine wpAny_bind (wpAny_pure ?_) | skip
  refine wpAny_bind (wpAny_sequenceKey hl.typeIs (by decide) ?_)
  refine wpAny_bind (wpAny_callSpecial?_slot (name := Str.ofString "__setitem__") hl.typeIs slot_list_setitem
    (wpAny_call_entry slot_list_setitem hl.typeIs entry_list_setitem ?_ (args_list_setitem _ _ _)))
  show wpAny _ _ (Builtin.List.listSubscript? (.ref sl) >>= _) _ _ s
  refine wpAny_bind ?_
  unfold Builtin.List.listSubscript?
  refine wpAny_bind (wpAny_specialOf hTs slice_no_index ?_)
  simp only [Option.isNone_none, if_true]
  refine wpAny_pure ?_
  show wpAny _ _ (typeOf (.ref sl) >>= _) _ _ s
  refine wpAny_bind (wpAny_typeOf hTs ?_)
  first
    | rw [if_neg (by decide)]
    | refine PySem.W.KFB.if_not (by decide) ?_
  rw [listSliceParts_eq]
  refine wpAny_bind (wpAny_bind (wpAny_field hos hds (x := .none) rfl (wpAny_bind (wpAny_listPart .none ?_))))
  rw [if_neg hstep]
  refine wpAny_bind (wpAny_field hos hds (x := vl) rfl (wpAny_bind (wpAny_listPart pl ?_)))
  refine wpAny_bind (wpAny_field hos hds (x := vu) rfl (wpAny_bind (wpAny_listPart pu (wpAny_pure ?_))))
  first
    | simp only [hsame, Bool.false_eq_true, if_false]
    | refine PySem.W.KFB.if_not hsame ?_
    | (dsimp only
       rw [if_neg (by rw [hsame]; exact Bool.false_ne_true)])
  refine wpAny_bind (m := Builtin.List.listAllItems (.ref b) "must assign iterable to extended slice") ?_
  unfold Builtin.List.listAllItems
  refine wpAny_bind (wpAny_typeOf hb.typeIs ?_)
  first
    | refine PySem.W.KFB.if_so (by decide) ?_
    | rw [if_pos (by decide)]
    | simp only [beq_self_eq_true, Bool.true_or, if_true]
  unfold Builtin.List.listItems
  refine wpAny_bind (wpAny_seqItems e2 rfl (wpAny_pure ?_))
  refine wpAny_bind (wpAny_bind (wpAny_seqItems e rfl (wpAny_pure ?_)))
  refine wpAny_bind (wpAny_of_eq ((sliceIndices_raw (some (a : Int)) (some (c : Int)) none items.size (by simp)).trans (congrArg (pure : Int × Int × Int → Sem (Int × Int × Int)) (bounds_run hac hc))) ?_)
  show wpAny _ _ (if ((1 : Int) == 1) = true then _ else _) _ _ s
  rw [if_pos (by decide)]
  refine wpAny_bind (wpAny_rule ?_)
  first
    | simp only [notLongL hsz, Bool.false_eq_true, if_false]
    | refine PySem.W.KFB.if_not (notLongL hsz) ?_
  first | refine wpAny_bind (wpAny_pure ?_) | skip
  show wpAny _ _ (updateSeq l (fun xs => xs.extract 0 ((a : Int)).toNat ++ new ++ xs.extract (max (a : Int) (c : Int)).toNat xs.size) >>= _) _ _ s
  rw [hmax, Int.toNat_natCast]
  refine wpAny_bind (wpAny_updateSeq (hz := Nat.le_trans (Nat.le_add_right _ _) hsz) (_hz' := hz') e rfl ?_)
  refine wpAny_bind (wpAny_letGo ?_)
  first
    | exact wpAny_bind (wpAny_pure (wpAny_pure ⟨.none, rfl, wpAny_pure h⟩))
    | exact wpAny_pure ⟨.none, rfl, wpAny_pure h⟩
end

section
variable {X : Cx}
/-- xs[a:c] = ys of another list, at the value level: sl is the slice object that was just made -/
theorem set_slice {pins : List (Addr × Obj)} {s : Shared} {σ : St} {H : Hp} {l b sl : Addr} {xs ys : List V} {a c : Int} {vl vu : Value} {Q : Unit → Shared → Prop} (I : Inv X pins σ H s)
    (hH : H l = some (.lst xs)) (hB : H b = some (.lst ys)) (hne : l ≠ b) (hs : s.heap.IsSliceOf sl vl vu .none) (ra : RelV (.int a) vl) (rc : RelV (.int c) vu) (h0 : 0 ≤ a) (hac : a ≤ c) (hc : c ≤ xs.length)
    (hz : xs.length + ys.length ≤ sizeLine) (h : ∀ s', Inv X pins σ (upd H l (.lst (xs.take a.toNat ++ ys ++ xs.drop c.toNat))) s' → Q () s') :
    wpAny (model X.prog X.w) X.A (setItem (.ref l) (.ref sl) (.ref b)) Q X.xe s := by
  obtain ⟨ta, rfl⟩ := ra
  obtain ⟨tc, rfl⟩ := rc
  obtain ⟨z, its, n, r, hl, e⟩ := I.lstM hH
  obtain ⟨z2, its2, n2, r2, hl2, e2⟩ := I.lstM hB
  obtain ⟨a', rfl⟩ := Int.eq_ofNat_of_zero_le h0
  obtain ⟨c', rfl⟩ := Int.eq_ofNat_of_zero_le (Int.le_trans h0 hac)
  simp only [Int.toNat_natCast] at h
  refine setItem_slice (a := a') (c := c') e e2 hne hs (.int _ _) (.int _ _) (by omega) (by rw [List.size_toArray]; omega) (by rw [List.size_toArray, List.size_toArray]; omega) (h _ ?_)
  refine I.lset (its' := its.take a' ++ its2 ++ its.drop c') (t' := s.toks) hH e ?_ (Vals.append (Vals.append (r.take _) r2) (r.drop _)) ?_
  · exact splice_eq its its2 a' c'
  · rw [List.length_append, List.length_append, List.length_take, List.length_drop]
    omega
end
end L2

namespace Att
open PySem PySem.W PySem.Calls PyProof.Rows

/-! ### the script -/
theorem ints_of_wellAll {P : Params} {h : Heap} : ∀ (ns : List Int) (vs : List Value), WellAll P h vs (ns.map WData.int) → IntsAre vs ns := by
  intro ns
  induction ns with
  | nil =>
    intro vs w
    rw [List.map_nil] at w
    cases w
    exact .nil
  | cons n ns ih =>
    intro vs w
    rw [List.map_cons] at w
    cases w with
    | cons a b =>
      cases a
      exact .cons _ _ (ih _ b)

theorem script_of {l : OpenLaw} {n : Nat} (hn : l.most = some n) {P : Params} {h : Heap} {args : List WData} {vals : List Value}
    (hpre : l.row.toRowW.claim.pre args = true) (hwl : WellAll P h vals args) :
    ∃ a vs ns, vals = [Value.ref a] ∧ args = [WData.list (ns.map WData.int)] ∧ h.get? a = some { cls := .type "list", data := .seq vs.toArray } ∧ IntsAre vs ns ∧ ns.length ≤ n := by
  have hsh : WShape.hasAll [] args [.list .int] = true := (pre_splitW hpre).1
  have hc : l.pre.holds [] { args := args } = true := (pre_splitW hpre).2
  obtain ⟨d, r, rfl, h1, h2⟩ := hasAllW_cons hsh
  obtain rfl := hasAllW_nil h2
  obtain ⟨xs, rfl, h3⟩ := hasW_list h1
  obtain ⟨ns, rfl⟩ := items_int h3
  have hlen : ns.length ≤ n := by
    unfold OpenLaw.pre at hc
    have h4 : (WTm.not (.lt (.lit (.int (n : Int))) (.len (.arg 0)))).holds [] { args := [.list (ns.map .int)] } = true := by
      have h4 := (holds_andW hc).1
      rw [hn] at h4
      exact h4
    have h5 := condW_of h4 (w_not (w_lt w_lit (w_len_list (w_arg rfl))))
    rw [List.length_map] at h5
    refine Nat.le_of_not_lt fun q => ?_
    have q' : (n : Int) < ((ns.length : Nat) : Int) := by omega
    first
      | (rw [decide_eq_true q'] at h5; exact absurd h5 (by decide))
      | (simp at h5; omega)
  cases hwl with
  | cons w1 w2 =>
    cases w2
    cases w1 with
    | list ho hall => exact ⟨_, _, ns, rfl, rfl, ho, ints_of_wellAll ns _ hall, hlen⟩

theorem post_true (l : OpenLaw) (args : List WData) : l.row.toRowW.claim.post args (.bool true) args = true :=
  postW_of (r := l.row.toRowW) (X := (true == true))
    (show WShape.has [] (.bool true) .bool = true by first | rfl | decide | simp [WShape.has, WShape.arms, WShape.armsAll])
    (show (WTm.eq .res (.lit (.bool true))).value [] { args := args, res := some (.bool true), after := args } = some (.bool (true == true)) from w_eq_bool (w_res rfl) w_lit) rfl

/-! ### the attachment: holds_open's last premise (the goal 'hc' behind k_head) from a wpAny of the law's body -/
theorem attach {l : OpenLaw} {n : Nat} {q : Program} {loose : List Str} {XP : (Str → Option Value) → Heap → Prop} {YP : World → Heap → Prop} {d : DefRec} {x : Str}
    (hn : l.most = some n) (hdf : d.params.defaults = [])
    (hbind : ∀ pm cd doc v : Value, bindArgs (docDef d.name d.params d.body d.scope pm cd doc) ⟨[v], []⟩ = pure [(x, v)])
    (hx : d.scope.names.lookup x = some .local ∨ d.scope.names.lookup x = some .cell)
    (hk : d.scope.kind = .function) (hco : d.scope.isCoroutine = false) (hgen : d.scope.isGenerator = false)
    (body : ∀ (w : World) (s₀ s₁ s : Shared) (mg mb : Str → Option Value) (fa : Addr) (o : Obj) (pm cd doc : Value) (a : Addr) (vs : List Value) (ns : List Int),
      Ground q loose [] XP w s₀ mg mb s₁.heap → YP w s₁.heap →
      s₁.heap.get? fa = some o → o.data = .func (docDef d.name d.params d.body d.scope pm cd doc) → s₁.heap.CodeRec cd d.name → mg d.name = some (.ref fa) →
      s₁.heap.get? a = some { cls := .type "list", data := .seq vs.toArray } → IntsAre vs ns → ns.length ≤ n →
      s.gens = #[] → s.os = s₁.os →
      Fr s₁.heap s₁.heap.objs.size s.heap (bindL (envOfC d.name d.scope s₁.heap.objs.size fa cd).kindOf [(x, .ref a)] fun _ => none) →
      Cl s₁.heap.objs.size (cellsFrom (s₁.heap.objs.size + 1) d.scope.names []) s.heap (bindC (envOfC d.name d.scope s₁.heap.objs.size fa cd).kindOf [(x, .ref a)] fun _ => none) →
      wpAny (model l.prog w) (callerA.deeper (envOfC d.name d.scope s₁.heap.objs.size fa cd)) (execs d.body (envOfC d.name d.scope s₁.heap.objs.size fa cd))
        (fun f s' => f = .ret (.bool true) ∧ OldK s₁.heap s'.heap ∧ s'.os = s₁.os ∧ AllBare s'.gens) (fun _ _ => False) s) :
    WalkO q loose XP YP l.row.toRowW d [] (fun f vs => PySem.call f vs) := by
  intro w s₀ s₁ mg mb G Y fa o pm cd doc dV kV ho hd hcd hD hmg hg args vals as hpre hlay hrd hwl hlo
  obtain rfl : dV = .none := Dflts.none hD hdf
  obtain rfl : kV = .none := Dflts.noKw hD
  obtain ⟨a, vs, ns, rfl, rfl, hobj, hints, hlen⟩ := script_of hn hpre hwl
  refine enter_call ?_
  refine call_cells_ret (o := o) (by rw [depth_caller]; decide) ho (fd_plain hd) G.T.nolimit hcd (hbind pm cd doc (.ref a)) (fun y hy => ?_) (fun h₁ tk F X => ?_) hco hgen hk
  · obtain rfl : y = (x, Value.ref a) := List.mem_singleton.mp hy
    rcases hx with e | e
    · exact .inl e
    · exact .inr ⟨e, cellsFrom_some _ _ _ (.inl e)⟩
  · refine wpAny_mono (body w s₀ s₁ { s₁ with heap := h₁, toks := tk } mg mb fa o pm cd doc a vs ns G Y ho (fd_plain hd) hcd hmg hobj hints hlen hg rfl F X) (fun f s' hq => ?_) (fun _ _ hq => hq)
    obtain ⟨rfl, h2, h3, h4⟩ := hq
    exact ⟨.inl ⟨.bool true, .bool true, [], rfl, fun _ => rfl, .bool true, post_true l _, fun _ => ⟨List.Pairwise.nil, fun _ hm => (nomatch hm)⟩⟩, h2, h3, h4⟩

/-- the same from a codeAny of the CALL (for a layer whose function contracts speak of calls) -/
theorem attach_call {l : OpenLaw} {n : Nat} {q : Program} {loose : List Str} {XP : (Str → Option Value) → Heap → Prop} {YP : World → Heap → Prop} {d : DefRec}
    (hn : l.most = some n) (hdf : d.params.defaults = [])
    (call : ∀ (w : World) (s₀ s₁ : Shared) (mg mb : Str → Option Value) (fa : Addr) (o : Obj) (pm cd doc : Value) (a : Addr) (vs : List Value) (ns : List Int),
      Ground q loose [] XP w s₀ mg mb s₁.heap → YP w s₁.heap →
      s₁.heap.get? fa = some o → o.data = .func (docDef d.name d.params d.body d.scope pm cd doc) → s₁.heap.CodeRec cd d.name → mg d.name = some (.ref fa) →
      s₁.heap.get? a = some { cls := .type "list", data := .seq vs.toArray } → IntsAre vs ns → ns.length ≤ n → s₁.gens = #[] →
      codeAny (model l.prog w) callerA (.call (.ref fa) ⟨[.ref a], []⟩) (fun r s' => r = .ok (.ret (.bool true)) ∧ OldK s₁.heap s'.heap ∧ s'.os = s₁.os ∧ AllBare s'.gens) s₁) :
    WalkO q loose XP YP l.row.toRowW d [] (fun f vs => PySem.call f vs) := by
  intro w s₀ s₁ mg mb G Y fa o pm cd doc dV kV ho hd hcd hD hmg hg args vals as hpre hlay hrd hwl hlo
  obtain rfl : dV = .none := Dflts.none hD hdf
  obtain rfl : kV = .none := Dflts.noKw hD
  obtain ⟨a, vs, ns, rfl, rfl, hobj, hints, hlen⟩ := script_of hn hpre hwl
  refine enter_call (codeAny_mono (call w s₀ s₁ mg mb fa o pm cd doc a vs ns G Y ho (fd_plain hd) hcd hmg hobj hints hlen hg) fun r s' hq => ?_)
  obtain ⟨rfl, h2, h3, h4⟩ := hq
  exact ⟨.inl ⟨.bool true, .bool true, [], rfl, fun _ => rfl, .bool true, post_true l _, fun _ => ⟨List.Pairwise.nil, fun _ hm => (nomatch hm)⟩⟩, h2, h3, h4⟩

/-- the same where the top left finished generators (o_head chose holds_openN): nothing may have changed at all and no generator may be left -/
theorem attachN {l : OpenLaw} {n : Nat} {q : Program} {loose : List Str} {XP : (Str → Option Value) → Heap → Prop} {YP : World → Heap → Prop} {d : DefRec} {x : Str}
    (hn : l.most = some n) (hdf : d.params.defaults = [])
    (hbind : ∀ pm cd doc v : Value, bindArgs (docDef d.name d.params d.body d.scope pm cd doc) ⟨[v], []⟩ = pure [(x, v)])
    (hx : d.scope.names.lookup x = some .local ∨ d.scope.names.lookup x = some .cell)
    (hk : d.scope.kind = .function) (hco : d.scope.isCoroutine = false) (hgen : d.scope.isGenerator = false)
    (body : ∀ (w : World) (s₀ s₁ s : Shared) (mg mb : Str → Option Value) (fa : Addr) (o : Obj) (pm cd doc : Value) (a : Addr) (vs : List Value) (ns : List Int),
      Ground q loose [] XP w s₀ mg mb s₁.heap → YP w s₁.heap →
      s₁.heap.get? fa = some o → o.data = .func (docDef d.name d.params d.body d.scope pm cd doc) → s₁.heap.CodeRec cd d.name → mg d.name = some (.ref fa) →
      s₁.heap.get? a = some { cls := .type "list", data := .seq vs.toArray } → IntsAre vs ns → ns.length ≤ n →
      s.gens = #[] → s.os = s₁.os →
      Fr s₁.heap s₁.heap.objs.size s.heap (bindL (envOfC d.name d.scope s₁.heap.objs.size fa cd).kindOf [(x, .ref a)] fun _ => none) →
      Cl s₁.heap.objs.size (cellsFrom (s₁.heap.objs.size + 1) d.scope.names []) s.heap (bindC (envOfC d.name d.scope s₁.heap.objs.size fa cd).kindOf [(x, .ref a)] fun _ => none) →
      wpAny (model l.prog w) (callerA.deeper (envOfC d.name d.scope s₁.heap.objs.size fa cd)) (execs d.body (envOfC d.name d.scope s₁.heap.objs.size fa cd))
        (fun f s' => f = .ret (.bool true) ∧ (∀ b o, s₁.heap.get? b = some o → s'.heap.get? b = some o) ∧ s'.os = s₁.os ∧ s'.gens = #[]) (fun _ _ => False) s) :
    WalkN q loose XP YP l.row.toRowW d [] (fun f vs => PySem.call f vs) := by
  intro w s₀ s₁ mg mb G Y fa o pm cd doc dV kV ho hd hcd hD hmg hg args vals as hpre hlay hrd hwl hlo
  obtain rfl : dV = .none := Dflts.none hD hdf
  obtain rfl : kV = .none := Dflts.noKw hD
  obtain ⟨a, vs, ns, rfl, rfl, hobj, hints, hlen⟩ := script_of hn hpre hwl
  refine enter_callW ?_
  refine call_cells_ret (o := o) (by rw [depth_caller]; decide) ho (fd_plain hd) G.T.nolimit hcd (hbind pm cd doc (.ref a)) (fun y hy => ?_) (fun h₁ tk F X => ?_) hco hgen hk
  · obtain rfl : y = (x, Value.ref a) := List.mem_singleton.mp hy
    rcases hx with e | e
    · exact .inl e
    · exact .inr ⟨e, cellsFrom_some _ _ _ (.inl e)⟩
  · refine wpAny_mono (body w s₀ s₁ { s₁ with heap := h₁, toks := tk } mg mb fa o pm cd doc a vs ns G Y ho (fd_plain hd) hcd hmg hobj hints hlen hg rfl F X) (fun f s' hq => ?_) (fun _ _ hq => hq)
    obtain ⟨rfl, h2, h3, h4⟩ := hq
    exact ⟨.inl ⟨.bool true, .bool true, [], rfl, fun _ => rfl, .bool true, post_true l _, fun _ => ⟨List.Pairwise.nil, fun _ hm => (nomatch hm)⟩⟩, h2, h3, h4⟩

/-! ### rules over ANY heap (no ledger) from facts about the written part K: the library's own take a ledger (News) for what they write -/
section
variable {prog : Program} {w : World} {A : Around} {E : Value → Shared → Prop} {s : Shared} {K : Frag}

/-- a def of the module, or a method (qual 'C.m'), entered: the frame is the next address; cells behind it -/
theorem call_fn {R : Result → Shared → Prop} {name qual : Str} {params : Arguments} {body : List Stmt} {scope : Scope} {dV kV doc pm cdv ct oc : Value} {an od : Option Addr} {osl : Array (Option Value)} {f : Addr} {args : Args} {binds : List (Str × Value)}
    (X : K.In s.heap) (hlim : s.heap.NoLimit) (ho : K.lookup f = some ⟨oc, od, .func (fnOf name qual params body scope dV kV doc pm an cdv ct), osl⟩) (hcd : codeIn K cdv qual = true) (hroom : A.depth < recursionLimit)
    (hbind : BindsTo s (fnOf name qual params body scope dV kV doc pm an cdv ct) args binds)
    (hkind : (binds.all fun y => scope.names.lookup y.1 == some .local || scope.names.lookup y.1 == some .cell) = true)
    (h : ∀ s₁, InCallC s s.heap.objs.size (bindL (envOfC qual scope s.heap.objs.size f cdv).kindOf binds fun _ => none) (cellsFrom (s.heap.objs.size + 1) scope.names [])
        (bindC (envOfC qual scope s.heap.objs.size f cdv).kindOf binds fun _ => none) s₁ →
      wpAny (model prog w) (A.deeper (envOfC qual scope s.heap.objs.size f cdv)) (execs body (envOfC qual scope s.heap.objs.size f cdv))
        (fun fl s' => R (.ok (.ret (match fl with | .ret v => v | _ => .none))) s')
        (fun e s' => wpAny (model prog w) (A.deeper (envOfC qual scope s.heap.objs.size f cdv)) (leaving (envOfC qual scope s.heap.objs.size f cdv) e) (fun _ s'' => R (.error e) s'') (fun e' s'' => R (.error e') s'') s') s₁)
    (hco : scope.isCoroutine = false) (hgen : scope.isGenerator = false) (hk : scope.kind = .function) : codeAny (model prog w) A (.call (.ref f) args) R s := by
  refine codeAny_call_function hroom (X _ _ ho) rfl hco hgen rfl (codeRec_of X hcd) (hbind _ _ _ _ ?_)
  refine wpAny_newFunctionEnv_cells hk (kindsX hkind _) fun env he s₁ x => ?_
  subst he
  exact ⟨hlim.keeps x.toInCall.keep, codeAny_func (h s₁ x)⟩

/-- C(..): dict at size, instance at size + 1, then __init__ -/
theorem make_obj {R : Result → Shared → Prop} {C fI : Addr} {rest : List Value} {kw : List (Str × Value)}
    (X : K.In s.heap) (hm : makesIn K C = true) (hi : findIn K (.ref C) "__init__" = some (some (.ref fI))) (hf : isFn K (.ref fI) = true)
    (h : codeAny (model prog w) (A.under (.builtin "type.__call__" ⟨.ref C :: rest, kw⟩)) (.call (.ref fI) ⟨.ref (s.heap.objs.size + 1) :: rest, kw⟩) (InitBack (s.heap.objs.size + 1) R)
      { s with heap := (s.heap.push emptyDict).push (instObj C s.heap.objs.size) }) : codeAny (model prog w) A (.call (.ref C) ⟨rest, kw⟩) R s := by
  obtain ⟨hh, g, d, t, os⟩ := s
  exact make_core (makes_of X hm) (looks_findIn X hi) (fun self => bind_fn X self (beq_iff_eq.mp hf)) (.inl rfl) h

/-- x.name where the instance's dict holds the name and the class does not -/
theorem get_field {x C : Addr} {ox : Obj} {es : List DictEntry} {n : Nat} {name : Str} {expr : Bool} {v : Value} {Q : Value → Shared → Prop}
    (X : K.In s.heap) (I : PySem.W.InstAt s.heap x ox C (some (dictOf es n))) (hg : plainGet K C name = true) (hh : hasDictIn K C = true) (ha : findIn K (.ref C) name = some none)
    (hl : getL name es = some (some v)) (hv : handedIn v = true) (h : Q v { s with toks := s.toks + 1 }) : wpAny (model prog w) A (getAttr (.ref x) name expr) Q E s :=
  get_value X I (plainGet_of hg).1 (findObj_own hh ha rfl hl) hv h

/-- x.m(..): the method found in the class -/
theorem get_method {x C f : Addr} {ox : Obj} {es : List DictEntry} {n : Nat} {name : Str} {pl : Sem Bool} {Q : Value × List Value → Shared → Prop}
    (X : K.In s.heap) (I : PySem.W.InstAt s.heap x ox C (some (dictOf es n))) (hg : plainGet K C name = true) (hf : findIn K (.ref C) name = some (some (.ref f))) (ht : isFn K (.ref f) = true)
    (hl : getL name es = some none) (h : Q (.ref f, [.ref x]) s) : wpAny (model prog w) A (getMethod (.ref x) name pl) Q E s :=
  method_fn X I (plainGet_of hg).1 (plainGet_of hg).2 hf (beq_iff_eq.mp ht) (by show (lookIn name (dictOf es n)).map _ = _; rw [lookIn_dict, hl]; rfl) h

/-! the whole heap as the ledger: makes every rule that writes through a ledger a rule over any heap -/
def noObjs (h : Heap) : Heap := { h with objs := #[] }
theorem noObjs_get (h : Heap) (b : Addr) : (noObjs h).get? b = none := by
  cases e : (noObjs h).get? b with
  | none => rfl
  | some o => exact absurd (Heap.lt_size e) (Nat.not_lt_zero _)
def ledger (h : Heap) (L d : Addr) : List (Addr × Obj) := (List.range h.objs.size).filterMap fun a => if a = L ∨ a = d then none else (h.get? a).map fun o => (a, o)
theorem mem_ledger {h : Heap} {L d a : Addr} {o : Obj} : (a, o) ∈ ledger h L d ↔ a ≠ L ∧ a ≠ d ∧ h.get? a = some o := by
  unfold ledger
  rw [List.mem_filterMap]
  constructor
  · rintro ⟨b, _, e⟩
    split at e
    · cases e
    · rename_i hb
      obtain ⟨o', ho, e'⟩ := Option.map_eq_some_iff.mp e
      cases e'
      exact ⟨fun q => hb (.inl q), fun q => hb (.inr q), ho⟩
  · rintro ⟨n1, n2, ho⟩
    refine ⟨a, List.mem_range.mpr (Heap.lt_size ho), ?_⟩
    rw [if_neg (show ¬ (a = L ∨ a = d) from fun q => q.elim n1 n2), ho] <;> rfl
theorem news_ledger {h : Heap} {L d : Addr} {od : Obj} (hne : d ≠ L) (ho : h.get? d = some od) : News (noObjs h) L h ([] ++ (d, od) :: ledger h L d) := by
  rintro ⟨a, o⟩ hp
  rcases List.mem_cons.mp hp with e | hp
  · cases e
    exact ⟨ho, hne, noObjs_get _ _⟩
  · obtain ⟨n1, n2, e⟩ := mem_ledger.mp hp
    exact ⟨e, n1, noObjs_get _ _⟩
theorem fr_all {h : Heap} {L : Addr} {m : Str → Option Value} (n : h.Ns L m) : Fr (noObjs h) L h m :=
  ⟨n, fun b o e => (by rw [noObjs_get] at e; cases e), Nat.zero_le _⟩
/-- Upd of the head entry (for append_K, setItem_K ..) -/
theorem upd_ledger {h : Heap} {L d : Addr} {o o' : Obj} : Upd d o o' ((d, o) :: ledger h L d) ((d, o') :: ledger h L d) :=
  .head fun ⟨_, _⟩ hp => (mem_ledger.mp hp).2.1

/-- x.name = v over any heap: L is any namespace of the heap (the frame's, say): its map stays, its object is not told; all else but the dict stays -/
theorem set_field {x C dx L : Addr} {ox : Obj} {m : Str → Option Value} {es es' : List DictEntry} {n n' : Nat} {name : Str} {v : Value} {Q : Unit → Shared → Prop}
    (X : K.In s.heap) (I : PySem.W.InstAt s.heap x ox C (some (dictOf es n))) (hd : ox.dict = some dx) (hL : s.heap.Ns L m) (hne : dx ≠ L)
    (hs : findIn K (.ref C) "__setattr__" = some (some (.builtin "object.__setattr__"))) (hp : plainOver K C = true) (ht : takerIn K C name = some none) (hh : hasDictIn K C = true) (hl : (getL name es).isSome = true)
    (e : (putL name (PyData.keyHash w.params name) (.str name (s.toks + 1)) v es, putN name es n) = (es', n')) (hz : es'.length ≤ 1000)
    (h : ∀ h' : Heap, h'.Ns L m → h'.get? dx = some (dictOf es' n') → (∀ b o, b ≠ dx → b ≠ L → s.heap.get? b = some o → h'.get? b = some o) → Q () { s with heap := h', toks := s.toks + 2 }) :
    wpAny (model prog w) A (setAttr (.ref x) name v) Q E s := by
  obtain ⟨e1, e2⟩ := Prod.mk.inj e
  have hdx : s.heap.get? dx = some (dictOf es n) := by
    have := I.dict
    rw [hd] at this
    exact this
  refine set_plain X I hs (osa_dict (s := { s with toks := s.toks + 1 }) (h₀ := noObjs s.heap) (L := L) (m := m) (od := dictOf es n) (od' := dictOf es' n') (es := es') (n := n') (pre := []) (post := ledger s.heap L dx)
    (fr_all hL) (news_ledger hne hdx) X I hd hp ht hh hl (fun _ q => nomatch q) (fun ⟨_, _⟩ q => (mem_ledger.mp q).2.1) (by rw [putName_dict, e1, e2]) rfl hz fun h' F' N' => ?_)
  exact h h' F'.ns (N'.get (List.Mem.head _)) fun b o n1 n2 ho => N'.get (List.Mem.tail _ (mem_ledger.mpr ⟨n2, n1, ho⟩))
end
end Att

namespace L2
open PySem PySem.Spec PyProof.Rows

theorem vals_ints : ∀ {vs : List Value} {ns : List Int}, IntsAre vs ns → Vals (ns.map V.int) vs
  | _, _, .nil => .nil
  | _, _, .cons n t h => .cons ⟨t, rfl⟩ (vals_ints h)

/-- nothing is tracked but the script, known to the object (or it is an object of the module) -/
def Only (H : Hp) : Prop := ∀ b, H b = none ∨ ∃ o xs, H b = some (.frz o (.lst xs))

/-- THE HEAD: the law's promise, at the heap behind the top. F, the promise of the law's def, may use that base is part of the heap (so K.In base, base.Ns mainGlobals mg stand in Mod) -/
theorem law_call {P : Program} {w : World} {K : PySem.W.Frag} {mg mb : Str → Option Value} {CX : CXT} {k : Nat} {fa a : Addr} {fd : FuncData} {x : Str} {sp : Sp} {s₁ : Shared} {vs : List Value} {ns : List Int}
    (KX : K.In s₁.heap) (hns : s₁.heap.Ns mainGlobals mg) (hb : s₁.heap.Ns builtinsNs mb) (hbb : ∀ x : Str, x ≠ "__name__" → mb x = bootBuiltins x) (hlim : s₁.heap.NoLimit) (hg : s₁.gens = #[])
    (ha : s₁.heap.get? a = some { cls := .type "list", data := .seq vs.toArray }) (hi : IntsAre vs ns) (hl : ns.length ≤ sizeLine) (hr : Room k callerA)
    (F : ∀ base : Heap, K.In base → base.Ns mainGlobals mg → FnOk P w K mg base CX k fa fd [x] sp) (hbind : ∀ (s : Shared) (u : Value), BindsTo s fd ⟨[u], []⟩ [(x, u)])
    (hsp : ∀ H : Hp, Only H → SqL K H a (ns.map V.int) → sp [.ref a] H (fun v _ => v = .bl true) fun _ _ _ => False)
    (hCX : ∀ H e s', CX [] H s₁ (fun _ _ _ => False) e s' → False) :
    codeAny (model P w) callerA (.call (.ref fa) ⟨[.ref a], []⟩) (fun r s' => r = .ok (.ret (.bool true)) ∧ OldK s₁.heap s'.heap ∧ s'.os = s₁.os ∧ AllBare s'.gens) s₁ := by
  have rv := vals_ints hi
  have lenV := hi.length
  -- from an abstract heap in which nothing but the script may be tracked
  have core : ∀ H : Hp, Only H → SqL K H a (ns.map V.int) → HOk P w H s₁.heap → (∀ b, H b ≠ none → b = a) → (H a ≠ none → K.lookup a = none) →
      codeAny (model P w) callerA (.call (.ref fa) ⟨[.ref a], []⟩) (fun r s' => r = .ok (.ret (.bool true)) ∧ OldK s₁.heap s'.heap ∧ s'.os = s₁.os ∧ AllBare s'.gens) s₁ := by
    intro H hO hS hok hA hK
    have base_of : ∀ {b : Addr} {o : Obj}, s₁.heap.get? b = some o → H b = none → (hidT s₁.heap H).get? b = some o := fun e n => hidT_get e n
    have noA : ∀ {b : Addr} {o : Obj} {es : Array DictEntry} {ep : Nat}, s₁.heap.get? b = some o → o.data = .dict es ep → H b = none := fun {b o es ep} e d => by
      cases q : H b with
      | none => rfl
      | some u =>
        have e' : b = a := hA b (by rw [q]; simp)
        subst e'
        rw [ha] at e; cases e
        have d' : Data.seq vs.toArray _ = Data.dict es ep := d
        cases d'
    have nsK : ∀ {b : Addr} {m : Str → Option Value}, s₁.heap.Ns b m → (hidT s₁.heap H).Ns b m := fun {b m} ⟨o, es, ep, e, d, r⟩ => ⟨o, es, ep, base_of e (noA e d), d, r⟩
    have hKb : K.In (hidT s₁.heap H) := fun b o e => base_of (KX b o e) (by
      cases q : H b with
      | none => rfl
      | some u =>
        have e' : b = a := hA b (by rw [q]; simp)
        subst e'
        rw [hK (by rw [q]; simp)] at e; cases e)
    have hM : Mod K mg (hidT s₁.heap H) := ⟨hKb, nsK hns, ⟨mb, nsK hb, hbb⟩, let ⟨mc, h1, h2⟩ := hlim; ⟨mc, nsK h1, h2⟩⟩
    have e0 : Env0 P w K mg (hidT s₁.heap H) callerA [] s₁ H := ⟨rfl, hM, fun b o e => of_hidT e, Nat.le_of_eq (hidT_size _ _), trivial, fun b hb => absurd (show b ∈ ([] : List Addr) from hb) (by simp), hok, .of_eq hg⟩
    refine codeAny_mono ((F _ hKb (nsK hns)).run callerA [] s₁ H ⟨[.ref a], []⟩ [.ref a] [.ref a] _ _ hr e0 (hbind s₁ (.ref a)) (.cons rfl .nil) (hsp H hO hS)) fun r s' h => ?_
    cases r with
    | error e => exact (hCX H e s' h).elim
    | ok fl =>
      cases fl with
      | next => exact False.elim h
      | brk => exact False.elim h
      | cont => exact False.elim h
      | ret u =>
        obtain ⟨v, H', os, bare, un, hok', r', q⟩ := h
        have q' : v = .bl true := q
        subst q'
        obtain rfl : u = Value.bool true := r'
        refine ⟨rfl, OldK.of_keep fun b o e => ?_, os, bare⟩
        cases q : H b with
        | none => exact un.keep b o e q (by intro z; exact absurd (show b ∈ ([] : List Addr) from z) (by simp)) (by simp)
        | some u =>
          rcases hO b with z | ⟨ob, xs, z⟩
          · rw [q] at z; cases z
          · have z2 := un.frzs b ob _ z
            obtain ⟨e1, _⟩ := hok b _ z
            obtain ⟨e2, _⟩ := hok' b _ z2
            rw [e] at e1; cases e1
            exact e2
  cases hk : K.lookup a with
  | some o =>
    -- the script is one of the module's own objects
    have e := KX a o hk
    rw [ha] at e
    cases e
    refine core (fun _ => none) (fun _ => .inl rfl) (.inr ⟨_, vs.toArray, _, hk, rfl, rfl, rfl, by rw [List.size_toArray, lenV]; exact hl, by simpa using rv⟩) (fun b u z => by have z' : (none : Option HO) = some u := z; cases z') (fun b z => absurd rfl z) fun z => absurd rfl z
  | none =>
    refine core (fun b => if b = a then some (.frz { cls := .type "list", data := .seq vs.toArray } (.lst (ns.map V.int))) else none) (fun b => ?_) (.inl (.inr ⟨{ cls := .type "list", data := .seq vs.toArray }, if_pos rfl⟩)) (fun b u z => ?_) (fun b z => ?_) fun _ => hk
    · by_cases hb : b = a
      · exact .inr ⟨_, _, if_pos hb⟩
      · exact .inl (if_neg hb)
    · by_cases hb : b = a
      · have z' := (if_pos hb).symm.trans z
        cases z'
        subst hb
        exact ⟨ha, by rw [List.length_map]; exact hl, vs, _, rv, ha⟩
      · have z' := (if_neg hb).symm.trans z
        cases z'
    · by_cases hb : b = a
      · exact hb
      · exact absurd (if_neg hb) z
end L2

namespace L2
open PySem PySem.Spec PyProof.Rows

abbrev KOf {K : PySem.W.Frag} {h : Heap} (_ : K.In h) : PySem.W.Frag := K

/-- the goal that k_head leaves (case hc), from the law's promise. F gives the function object fd (K's own) once, then the promise over every base -/
theorem walk_of {l : PySem.W.OpenLaw} {n k : Nat} {q : Program} {loose : List Str} {XP : (Str → Option Value) → Heap → Prop} {YP : World → Heap → Prop} {d : DefRec} {K : Params → PySem.W.Frag} {CX : World → CXT} {sp : World → Sp} {x : Str}
    (hn : l.most = some n) (hn2 : n ≤ sizeLine) (hdf : d.params.defaults = []) (hr : Room k callerA)
    (hY : ∀ (w : World) (h : Heap), YP w h → (K w.params).In h)
    (F : ∀ (w : World) (mg : Str → Option Value) (fa : Addr) (h : Heap), (K w.params).In h → h.Ns mainGlobals mg → mg d.name = some (.ref fa) →
      ∃ fd : FuncData, (∀ (s : Shared) (u : Value), BindsTo s fd ⟨[u], []⟩ [(x, u)]) ∧
        ∀ base : Heap, (K w.params).In base → base.Ns mainGlobals mg → FnOk l.prog w (K w.params) mg base (CX w) k fa fd [x] (sp w))
    (hsp : ∀ (w : World) (H : Hp) (a : Addr) (ns : List Int), ns.length ≤ n → Only H → SqL (K w.params) H a (ns.map V.int) → sp w [.ref a] H (fun v _ => v = .bl true) fun _ _ _ => False)
    (hCX : ∀ (w : World) (H : Hp) (s : Shared) (e : Value) (s' : Shared), CX w [] H s (fun _ _ _ => False) e s' → False) :
    PySem.W.WalkO q loose XP YP l.row.toRowW d [] (fun f vs => PySem.call f vs) := by
  refine Att.attach_call hn hdf fun w s₀ s₁ mg mb fa o pm cd doc a vs ns G Y ho hd hcd hmg hobj hints hlen hg => ?_
  have KX := hY w _ Y
  obtain ⟨fd, hb, hF⟩ := F w mg fa _ KX G.T.g hmg
  exact law_call KX G.T.g G.T.b G.T.builtins G.T.nolimit hg hobj hints (Nat.le_trans hlen hn2) hr hF hb (fun H hO hS => hsp w H a ns hlen hO hS) fun H e s' => hCX w H s₁ e s'
/-- the same where the promise hangs on the written part alone: (sp := My.sp_law), no hole under a binder -/
theorem walk_ofK {l : PySem.W.OpenLaw} {n k : Nat} {q : Program} {loose : List Str} {XP : (Str → Option Value) → Heap → Prop} {YP : World → Heap → Prop} {d : DefRec} {K : Params → PySem.W.Frag} {CX : CXT} {sp : PySem.W.Frag → Sp} {x : Str}
    (hn : l.most = some n) (hn2 : n ≤ sizeLine) (hdf : d.params.defaults = []) (hr : Room k callerA)
    (hY : ∀ (w : World) (h : Heap), YP w h → (K w.params).In h)
    (F : ∀ (w : World) (mg : Str → Option Value) (fa : Addr) (h : Heap), (K w.params).In h → h.Ns mainGlobals mg → mg d.name = some (.ref fa) →
      ∃ fd : FuncData, (∀ (s : Shared) (u : Value), BindsTo s fd ⟨[u], []⟩ [(x, u)]) ∧
        ∀ base : Heap, (K w.params).In base → base.Ns mainGlobals mg → FnOk l.prog w (K w.params) mg base CX k fa fd [x] (sp (K w.params)))
    (hsp : ∀ (K : PySem.W.Frag) (H : Hp) (a : Addr) (ns : List Int), ns.length ≤ n → Only H → SqL K H a (ns.map V.int) → sp K [.ref a] H (fun v _ => v = .bl true) fun _ _ _ => False)
    (hCX : ∀ (H : Hp) (s : Shared) (e : Value) (s' : Shared), CX [] H s (fun _ _ _ => False) e s' → False) :
    PySem.W.WalkO q loose XP YP l.row.toRowW d [] (fun f vs => PySem.call f vs) :=
  walk_of (K := K) (CX := fun _ => CX) (sp := fun w => sp (K w.params)) hn hn2 hdf hr hY F (fun w H a ns h1 h2 h3 => hsp (K w.params) H a ns h1 h2 h3) fun _ H s e s' => hCX H s e s'
end L2

/- THE LAST THEOREM (shape; LID, My.* are yours):
   My.Adr: a structure of the addresses that your layer names (classes, functions); My.Txt K t: a structure (Prop) of the equations over K;
   My.txt_mk : {K} {implicit addresses ..} (e1 : nsIn K mainGlobals "law" = some (some (.ref f))) (e2 : K.lookup f = some ⟨oc, od, .func (fnOf "law" "law" params body scope dV kV doc pm an cdv ct), sl⟩) (e3 : codeIn K cdv "law" = true) .. : ∃ t, My.Txt K t

set_option maxRecDepth 100000 in
set_option maxHeartbeats 0 in
theorem PySem.Challenge.cw_LID_holds : PySem.Challenge.rw_LID.Holds := by
  w_on; o_law; k_head; (case hw => w_witness2)
  k_fill
  refine L2.walk_of (l := PySem.Challenge.rw_LID) (n := 63) (k := 40) (x := "script") (CX := fun w => ..) (sp := fun _ => My.sp_law) rfl (by decide) rfl ⟨rfl, by decide, by decide⟩ (fun w h Y => PySem.W.kIn_of Y) ?F ?S ?C
  case F =>
    intro w mg fa h KX G hmg
    have T : ∃ t, My.Txt (L2.KOf KX) t := by
      dsimp only [L2.KOf]                          -- K must stand as «<heap const> w.params» for k_is
      refine' My.txt_mk ?e1 ?e2 ?e3 ..
      (case e1 => PySem.W.k_is)                    -- in the order: a name -> its address -> its object -> its parts
      (case e2 => PySem.W.k_is)
      ..
    obtain ⟨t, T⟩ := T
    have e0 := hmg.symm.trans (PySem.W.mg_of KX G T.law)
    cases e0                                       -- fa is the law's own address
    exact ⟨_, fun s u => .of_eq rfl, fun base kb nb => My.law_fn T kb nb⟩     -- if «.of_eq rfl» comes too early: refine' ⟨_, ?b, fun base kb nb => My.law_fn T kb nb⟩; exact fun s u => .of_eq rfl
  case S => exact fun w H a ns hl hO hS => ..
  case C => exact ..
(the tactic k_is has no namespace: write k_is) -/

/-! SHORT WORDS over the layer: a def of the text, its body, what a loop and a test want. -/
namespace L2
open PySem PySem.Spec PyProof.Rows

/-! ### the text by places -/
/-- the j-th statement of a class's body -/
def inClass (s : Stmt) (j : Nat) : Stmt := match s with
  | .ClassDef _ _ _ body _ _ _ _ _ _ _ => body.getD j (.Pass ⟨0, 0, 0, 0⟩)
  | _ => .Pass ⟨0, 0, 0, 0⟩
def defArgs (s : Stmt) : Arguments := match s with
  | .FunctionDef _ a _ _ _ _ _ _ _ _ => a
  | _ => { posonlyargs := [], args := [], vararg := none, kwonlyargs := [], kw_defaults := [], kwarg := none, defaults := [] }
def defBody (s : Stmt) : List Stmt := match s with
  | .FunctionDef _ _ b _ _ _ _ _ _ _ => b
  | _ => []
def defScope (s : Stmt) : Scope := match s with
  | .FunctionDef _ _ _ _ _ _ sc _ _ _ => sc
  | _ => { kind := .function, names := [], isGenerator := false, isCoroutine := false }

/-! ### no exception leaves a def -/
abbrev CX0 : CXT := fun _ _ _ _ _ _ => False
abbrev E0 : XK := fun _ _ _ => False
theorem pass0 {X : Cx} : Passes CX0 X E0 := fun _ _ _ _ _ _ _ h => h.elim

/-! ### a def (or method) of the text as it stands behind the top -/
structure Fun (K : PySem.W.Frag) (x qual : Str) (st : Stmt) (f : Addr) (fd : FuncData) : Prop where
  ex : ∃ (oc : Value) (od : Option Addr) (kV doc pm : Value) (an : Option Addr) (cdv ct : Value) (osl : Array (Option Value)),
    fd = PySem.W.fnOf x qual (defArgs st) (defBody st) (defScope st) .none kV doc pm an cdv ct ∧ K.lookup f = some ⟨oc, od, .func fd, osl⟩ ∧ PySem.W.codeIn K cdv qual = true
  kp : PySem.W.keepIn K (.ref f) = true
section
variable {P : Program} {w : World} {K : PySem.W.Frag} {mg : Str → Option Value} {base : Heap}
/-- THE RULE for a def: its body as a term of rules, and the reading of that term -/
theorem Fun.ok {x qual : Str} {st : Stmt} {f : Addr} {fd : FuncData} {N ps : List Str} {k : Nat} {sp : Sp} (F : Fun K x qual st f fd) (S : FnScope N ps (defScope st)) (len : ∀ vs H Q E, sp vs H Q E → vs.length = ps.length)
    (hbody : ∀ (cdv : Value) (A : Around) (outer : List Env) (s : Shared) (H : Hp) (vs : List V) (Q : VK) (E : XK), Room k (A.deeper (envOfC qual (defScope st) s.heap.objs.size f cdv)) → sp vs H Q E →
      ∃ t, PSs (cxOf CX0 P w K mg base N qual (defScope st) f cdv A outer s H E).nox (defBody st) t ∧ t { nx := fun _ H' => Q .non H', rt := Q } (start N vs) H) : FnOk P w K mg base CX0 (k + 1) f fd ps sp := by
  obtain ⟨oc, od, kV, doc, pm, an, cdv, ct, osl, rfl, lk, hcd⟩ := F.ex
  refine fn_of lk hcd S len fun A outer s H vs Q E hr hsp => ?_
  obtain ⟨t, h, q⟩ := hbody cdv A outer s H vs Q E hr hsp
  exact ⟨t, h.nox, q⟩
/-- how its arguments bind (no defaults): h is «fun _ _ _ _ _ _ us hl => match us, hl with | [_, _], _ => rfl», one _ a parameter -/
theorem Fun.binds {x qual : Str} {st : Stmt} {f : Addr} {fd : FuncData} {ps : List Str} (F : Fun K x qual st f fd)
    (h : ∀ (kV doc pm : Value) (an : Option Addr) (cdv ct : Value) (us : List Value), us.length = ps.length → bindArgs (PySem.W.fnOf x qual (defArgs st) (defBody st) (defScope st) .none kV doc pm an cdv ct) ⟨us, []⟩ = pure (ps.zip us)) : Binds K fd ps [] := by
  obtain ⟨oc, od, kV, doc, pm, an, cdv, ct, osl, rfl, lk, hcd⟩ := F.ex
  exact .all (h kV doc pm an cdv ct)
theorem fun_mk {x qual : Str} {st : Stmt} {f : Addr} {oc : Value} {od an : Option Addr} {osl : Array (Option Value)} {kV doc pm cdv ct : Value} (l : K.lookup f = some ⟨oc, od, .func (PySem.W.fnOf x qual (defArgs st) (defBody st) (defScope st) .none kV doc pm an cdv ct), osl⟩)
    (c : PySem.W.codeIn K cdv qual = true) (k : PySem.W.keepIn K (.ref f) = true) : Fun K x qual st f (PySem.W.fnOf x qual (defArgs st) (defBody st) (defScope st) .none kV doc pm an cdv ct) := ⟨⟨oc, od, kV, doc, pm, an, cdv, ct, osl, rfl, l, c⟩, k⟩
end
theorem hu_of {A : Around} {k : Nat} (hr : Room k A) : A.units + 1 < cLine := Nat.lt_of_le_of_lt (Nat.add_le_add_left (by decide : 1 ≤ 64) _) hr.units
theorem small1000 {n : Nat} (h : n ≤ 1000) : n < sizeLine := Nat.lt_of_le_of_lt h (by decide)

/-! ### expressions in short: the name that stands in the i-th slot -/
section
variable {X : Cx}
theorem pv (i : Nat) {x : Str} {pos : Pos} (hN : X.N[i]? = some x := by rfl) (hv : Vis X.env.scope x := by first | exact Or.inl rfl | exact Or.inr (Or.inl rfl) | exact Or.inr (Or.inr rfl)) (hd : (x == ("__debug__" : Str)) = false := by decide)
    (hcd : (x == ("__classdict__" : Str)) = false := by decide) : PE X (.Name x pos) (tVar i) := pe_var hN hv hd hcd
end

/-! ### tests -/
theorem iteF {A B : Prop} (h : B) : if false = true then A else B := by
  rw [if_neg Bool.false_ne_true]
  exact h
theorem iteT {A B : Prop} (h : A) : if true = true then A else B := by
  rw [if_pos rfl]
  exact h
theorem ite2 {c A B : Prop} [Decidable c] (h1 : c → A) (h2 : ¬ c → B) : if c then A else B := by
  by_cases h : c
  · rw [if_pos h]
    exact h1 h
  · rw [if_neg h]
    exact h2 h
theorem iteNS {c A B : Prop} [Decidable c] (hc : c) (h : B) : if (!decide c) = true then A else B := by
  rw [decide_eq_true hc]
  exact iteF h

/-! ### heaps -/
/-- all that was tracked is as it was -/
def Same (H H' : Hp) : Prop := ∀ b o, H b = some o → H' b = some o
theorem Same.refl (H : Hp) : Same H H := fun _ _ h => h
theorem Same.trans {H H1 H2 : Hp} (a : Same H H1) (b : Same H1 H2) : Same H H2 := fun c o h => b c o (a c o h)
theorem Same.free {H H' : Hp} (e : Same H H') {l : Addr} (h : H' l = Option.none) : H l = Option.none := by
  cases q : H l with
  | none => rfl
  | some o =>
    rw [e l o q] at h
    cases h
theorem Same.seq {K : PySem.W.Frag} {H H' : Hp} {a : Addr} {xs : List V} (e : Same H H') (h : SqL K H a xs) : SqL K H' a xs := by
  rcases h with (h | ⟨o, h⟩) | h
  · exact .inl (.inl (e _ _ h))
  · exact .inl (.inr ⟨o, e _ _ h⟩)
  · exact .inr h

end L2
end

section
set_option Elab.async false
set_option linter.unusedVariables false
namespace Stb
open PySem
/-! ### the table of a set: its places rise, no slot is a dummy -/
def Rise (xs : Array Nat) : Prop := ∀ i j : Nat, i < j → j < xs.size → xs.getD i 0 < xs.getD j 0
theorem getD_in {xs : Array Nat} {i : Nat} (h : i < xs.size) (d e : Nat) : xs.getD i d = xs.getD i e := by
  simp [Array.getD, h]
theorem go_spec {xs : Array Nat} {j : Nat} (hr : Rise xs) : ∀ (fuel lo hi : Nat), hi ≤ xs.size → lo ≤ hi → hi - lo ≤ fuel →
    (∀ k, k < lo → xs.getD k 0 < j) → (∀ k, hi ≤ k → k < xs.size → j ≤ xs.getD k 0) →
    (∀ k, k < SetTable.below.go xs j fuel lo hi → xs.getD k 0 < j) ∧ (∀ k, SetTable.below.go xs j fuel lo hi ≤ k → k < xs.size → j ≤ xs.getD k 0) ∧ SetTable.below.go xs j fuel lo hi ≤ xs.size
  | 0, lo, hi, h1, h2, h3, h4, h5 => by
    have e : lo = hi := by omega
    subst e
    unfold SetTable.below.go
    exact ⟨h4, h5, h1⟩
  | fuel + 1, lo, hi, h1, h2, h3, h4, h5 => by
    unfold SetTable.below.go
    by_cases hl : lo < hi
    · rw [if_pos hl]
      dsimp only
      have hm : (lo + hi) / 2 < xs.size := by omega
      have e := getD_in hm j 0
      by_cases hc : xs.getD ((lo + hi) / 2) j < j
      · rw [if_pos hc]
        refine go_spec hr fuel _ _ h1 (by omega) (by omega) (fun k hk => ?_) h5
        by_cases hk2 : k = (lo + hi) / 2
        · subst hk2; omega
        · have := hr k ((lo + hi) / 2) (by omega) hm
          omega
      · rw [if_neg hc]
        refine go_spec hr fuel _ _ (by omega) (by omega) (by omega) h4 (fun k hk hk2 => ?_)
        by_cases hk3 : k = (lo + hi) / 2
        · subst hk3; omega
        · have := hr ((lo + hi) / 2) k (by omega) hk2
          omega
    · rw [if_neg hl]
      have e : lo = hi := by omega
      subst e
      exact ⟨h4, h5, h1⟩
theorem below_spec {xs : Array Nat} (hr : Rise xs) (j : Nat) :
    (∀ k, k < SetTable.below xs j → xs.getD k 0 < j) ∧ (∀ k, SetTable.below xs j ≤ k → k < xs.size → j ≤ xs.getD k 0) ∧ SetTable.below xs j ≤ xs.size := by
  unfold SetTable.below
  exact go_spec hr xs.size 0 xs.size (Nat.le_refl _) (Nat.zero_le _) (by omega) (fun k hk => absurd hk (Nat.not_lt_zero _)) (fun k h1 h2 => by omega)
/-- behind the i-th place comes the next one -/
theorem below_next {xs : Array Nat} (hr : Rise xs) {i : Nat} (hi : i < xs.size) : SetTable.below xs (xs.getD i 0 + 1) = i + 1 := by
  obtain ⟨h1, h2, h3⟩ := below_spec hr (xs.getD i 0 + 1)
  have a : i < SetTable.below xs (xs.getD i 0 + 1) := by
    apply Nat.lt_of_not_le; intro h; have := h2 i h hi; omega
  have b : ¬ i + 1 < SetTable.below xs (xs.getD i 0 + 1) := fun h => by
    have q := h1 (i + 1) h
    have := hr i (i + 1) (by omega) (by omega)
    omega
  omega
theorem below_zero {xs : Array Nat} (hr : Rise xs) : SetTable.below xs 0 = 0 := by
  obtain ⟨h1, h2, h3⟩ := below_spec hr 0
  apply Nat.le_antisymm _ (Nat.zero_le _)
  apply Nat.le_of_not_lt; intro h
  have := h1 0 h
  omega
theorem getD_push {xs : Array Nat} {x k : Nat} : (xs.push x).getD k 0 = if k = xs.size then x else xs.getD k 0 := by
  by_cases h : k = xs.size
  · subst h; simp [Array.getD]
  · rw [if_neg h]
    by_cases h2 : k < xs.size
    · simp [Array.getD, h2, Nat.lt_succ_of_lt h2, Array.getElem_push_lt]
    · have h3 : ¬ k < (xs.push x).size := by rw [Array.size_push]; omega
      simp [Array.getD, h2]
      omega
theorem insertAt_size {α : Type} (xs : Array α) (p : Nat) (x : α) (h : p ≤ xs.size) : (SetTable.insertAt xs p x).size = xs.size + 1 := by
  unfold SetTable.insertAt
  simp
  omega
theorem insertAt_get {xs : Array Nat} {p x k : Nat} (h : p ≤ xs.size) : (SetTable.insertAt xs p x).getD k 0 = if k < p then xs.getD k 0 else if k = p then x else xs.getD (k - 1) 0 := by
  unfold SetTable.insertAt
  have hp : (xs.extract 0 p).size = p := by simp; omega
  have hq : ((xs.extract 0 p).push x).size = p + 1 := by rw [Array.size_push, hp]
  simp only [Array.getD_eq_getD_getElem?]
  by_cases h1 : k < p
  · rw [if_pos h1, Array.getElem?_append_left (by omega), Array.getElem?_push, if_neg (by omega), Array.getElem?_extract_of_lt (by omega)]
    have hk : k < xs.size := by omega
    simp [hk]
  · rw [if_neg h1]
    by_cases h2 : k = p
    · subst h2
      rw [if_pos rfl, Array.getElem?_append_left (by omega), Array.getElem?_push, if_pos (by omega)]
      rfl
    · rw [if_neg h2, Array.getElem?_append_right (by omega), hq]
      by_cases h3 : k - (p + 1) < xs.size - p
      · rw [Array.getElem?_extract_of_lt (by omega)]
        have hk : k - 1 < xs.size := by omega
        have e : p + (k - (p + 1)) = k - 1 := by omega
        simp [hk, e]
      · rw [Array.getElem?_eq_none (by simp; omega), Array.getElem?_eq_none (by omega)]
/-- a new place among the others -/
theorem rise_insert {xs : Array Nat} (hr : Rise xs) {j : Nat} (hn : ∀ k, k < xs.size → xs.getD k 0 ≠ j) : Rise (SetTable.insertAt xs (SetTable.below xs j) j) := by
  obtain ⟨b1, b2, b3⟩ := below_spec hr j
  intro i k hik hk
  rw [insertAt_size _ _ _ b3] at hk
  rw [insertAt_get b3, insertAt_get b3]
  by_cases h1 : i < SetTable.below xs j
  · rw [if_pos h1]
    have v := b1 i h1
    by_cases h2 : k < SetTable.below xs j
    · rw [if_pos h2]; exact hr i k hik (by omega)
    · rw [if_neg h2]
      by_cases h3 : k = SetTable.below xs j
      · rw [if_pos h3]; exact v
      · rw [if_neg h3]
        have := b2 (k - 1) (by omega) (by omega)
        omega
  · rw [if_neg h1, if_neg (show ¬ k < SetTable.below xs j by omega), if_neg (show ¬ k = SetTable.below xs j by omega)]
    by_cases h3 : i = SetTable.below xs j
    · rw [if_pos h3]
      have := b2 (k - 1) (by omega) (by omega)
      have := hn (k - 1) (by omega)
      omega
    · rw [if_neg h3]
      exact hr (i - 1) (k - 1) (by omega) (by omega)
theorem rise_range (n : Nat) : Rise (Array.range n) := by
  intro i j h1 h2
  rw [Array.size_range] at h2
  simp [Array.getD, h2, Nat.lt_trans h1 h2, h1]
theorem rise_list {l : List Nat} (h : l.Pairwise (· < ·)) : Rise l.toArray := by
  intro i j h1 h2
  have h2' : j < l.length := by simpa using h2
  have h3 : i < l.length := Nat.lt_trans h1 h2'
  have := List.pairwise_iff_getElem.mp h i j h3 h2' h1
  simp [Array.getD, h2', h3, this]
/-- what is kept of a table; b: sets are walked by the text -/
structure Tab (b : Bool) (t : SetTable) : Prop where
  rise : Rise t.place
  dum : t.dummies = #[]
  led : b = true ∨ t.led = true
theorem has_nil (j : Nat) : SetTable.has #[] j = false := by
  unfold SetTable.has
  simp
theorem slot_new {b : Bool} {t : SetTable} (T : Tab b t) {j : Nat} (h : t.slot j = .empty) : ∀ k, k < t.place.size → t.place.getD k 0 ≠ j := by
  intro k hk e
  obtain ⟨b1, b2, b3⟩ := below_spec T.rise j
  have h1 : SetTable.below t.place j = k := by
    have c1 : ¬ k < SetTable.below t.place j := fun h => by have := b1 k h; omega
    have c2 : ¬ SetTable.below t.place j < k := fun h => by
      have := b2 _ (Nat.le_refl _) (by omega)
      have := T.rise _ k h hk
      omega
    omega
  unfold SetTable.slot at h
  dsimp only at h
  rw [h1] at h
  have h2 : t.place[k]? = some j := by
    rw [Array.getElem?_eq_getElem hk]
    have : t.place.getD k 0 = t.place[k] := by simp [Array.getD, hk]
    rw [← this, e]
  rw [h2] at h
  simp at h
theorem slot_dum {b : Bool} {t : SetTable} (T : Tab b t) (j : Nat) : t.slot j ≠ .dummy := by
  unfold SetTable.slot
  dsimp only
  rw [T.dum, has_nil]
  split <;> simp
theorem probe_spec {b : Bool} {t : SetTable} (T : Tab b t) (f : Nat → Int) (h : Int) : ∀ (fuel : Nat) (p : SetTable.Probe), p.dummy = none → ∀ j d, SetTable.probe.go t f h fuel p = some (.empty j d) → t.slot j = .empty ∧ d = none
  | 0, p, _, j, d, e => by unfold SetTable.probe.go at e; cases e
  | fuel + 1, p, hp, j, d, e => by
    have ad : (t.advance p).dummy = none := by
      unfold SetTable.advance
      split
      · exact hp
      · exact hp
    unfold SetTable.probe.go at e
    cases q : t.slot p.j with
    | empty =>
      rw [q] at e
      simp only [Option.some.injEq, SetTable.Met.empty.injEq] at e
      obtain ⟨rfl, rfl⟩ := e
      exact ⟨q, hp⟩
    | dummy => exact absurd q (slot_dum T _)
    | live i =>
      rw [q] at e
      dsimp only at e
      split at e
      · cases e
      · exact probe_spec T f h fuel _ ad j d e
theorem tab_standIn {b : Bool} {t : SetTable} (T : Tab b t) (n : Nat) : Tab b (t.standIn n) := ⟨rise_range n, rfl, T.led⟩
theorem tab_plain {b : Bool} {t : SetTable} (T : Tab b t) (p : Bool) : Tab b { t with plain := p } := ⟨T.rise, T.dum, T.led⟩
theorem layNew_tab {b : Bool} {t : SetTable} (T : Tab b t) (es : Array (Int × Value)) (h : Int) (x : Value) : Tab b (layNew t es h x).2.1 := by
  unfold layNew
  cases q : t.freeSlot h with
  | none => exact tab_standIn T _
  | some sl =>
    obtain ⟨slot, wd⟩ := sl
    dsimp only
    have hs : t.slot slot = .empty := by
      unfold SetTable.freeSlot at q
      split at q
      · rename_i j d e
        simp only [Option.some.injEq, Prod.mk.injEq] at q
        obtain ⟨e1, e2⟩ := probe_spec T _ h _ _ rfl j d e
        rw [← q.1, e2]
        exact e1
      · cases q
    have hT : Tab b (t.put slot).1 := by
      unfold SetTable.put
      dsimp only
      refine ⟨rise_insert T.rise (slot_new T hs), ?_, T.led⟩
      rw [T.dum, has_nil]
      rfl
    unfold SetTable.orStandIn
    split
    · exact hT
    · exact tab_standIn hT _
theorem relayAll_tab {b : Bool} {t : SetTable} (T : Tab b t) (es : Array (Int × Value)) (wanted : Nat) : Tab b (relayAll t es wanted).2.1 := by
  unfold relayAll
  cases q : t.relaid (es.map (·.1)) wanted with
  | none => exact tab_standIn T _
  | some r =>
    obtain ⟨t', order⟩ := r
    dsimp only
    have hT : Tab b t' := by
      unfold SetTable.relaid SetTable.laid at q
      simp only [Option.bind_eq_bind, Option.bind_eq_some_iff] at q
      obtain ⟨owner, _, e⟩ := q
      simp only [Option.pure_def, Option.some.injEq, Prod.mk.injEq] at e
      obtain ⟨rfl, _⟩ := e
      refine ⟨rise_list ?_, rfl, T.led⟩
      rw [List.map_filterMap]
      have sub : ∀ (f : Nat → Option Nat), (∀ j k, f j = some k → k = j) → ∀ l : List Nat, List.Sublist (l.filterMap f) l := by
        intro f hf l
        induction l with
        | nil => exact List.Sublist.slnil
        | cons a r ih =>
          rw [List.filterMap_cons]
          cases e : f a with
          | none => exact ih.cons a
          | some k => rw [hf a k e]; exact ih.cons_cons a
      refine List.Pairwise.sublist (sub _ ?_ _) List.pairwise_lt_range
      intro j k e
      cases q : owner.getD j none with
      | none => rw [q] at e; cases e
      | some z => rw [q] at e; simpa using e.symm
    split
    · exact hT
    · exact tab_standIn T _
theorem tab_fresh {b led : Bool} (h : b = true ∨ led = true) : Tab b (.fresh 0 0 led) := ⟨fun i j h1 h2 => absurd h2 (Nat.not_lt_zero _), rfl, h⟩
end Stb
end

section
set_option Elab.async false
set_option linter.unusedVariables false
namespace Stb
open PySem
/-! ### a set of ints, with all that a walk over it wants to know -/
def Ent (ks : List Int) (es : List (Int × Value)) : Prop := Paired (fun (k : Int) (e : Int × Value) => e.1 = hashInt k ∧ ∃ t, e.2 = Value.int k t) ks es
theorem Ent.mem_l : ∀ {ks : List Int} {es : List (Int × Value)}, Ent ks es → ∀ k ∈ ks, ∃ e ∈ es, ∃ t, e.2 = Value.int k t
  | _, _, .nil, k, hk => by cases hk
  | _, _, .cons r t, k, hk => by
    rcases List.mem_cons.mp hk with rfl | hk
    · exact ⟨_, List.mem_cons_self .., r.2⟩
    · obtain ⟨e, he, z⟩ := Ent.mem_l t k hk
      exact ⟨e, List.mem_cons_of_mem _ he, z⟩
theorem Ent.mem_r : ∀ {ks : List Int} {es : List (Int × Value)}, Ent ks es → ∀ e ∈ es, ∃ k ∈ ks, e.1 = hashInt k ∧ ∃ t, e.2 = Value.int k t
  | _, _, .nil, e, he => by cases he
  | _, _, .cons r t, e, he => by
    rcases List.mem_cons.mp he with rfl | he
    · exact ⟨_, List.mem_cons_self .., r⟩
    · obtain ⟨k, hk, z⟩ := Ent.mem_r t e he
      exact ⟨k, List.mem_cons_of_mem _ hk, z⟩
theorem Ent.elems {prog : Program} {w : World} {ks : List Int} {es : List (Int × Value)} (h : Ent ks es) : ElemsOf (intKind prog w) es := fun e he => by
  obtain ⟨k, _, h1, t, h2⟩ := h.mem_r e he
  refine ⟨⟨k, ?_, h1⟩, ?_⟩
  · rw [h2]; exact intKind_is prog w k t
  · rw [h2]; rfl
theorem Ent.length {ks : List Int} {es : List (Int × Value)} (h : Ent ks es) : ks.length = es.length := Paired.length h
theorem Ent.append : ∀ {ks ls : List Int} {es fs : List (Int × Value)}, Ent ks es → Ent ls fs → Ent (ks ++ ls) (es ++ fs)
  | _, _, _, _, .nil, s => s
  | _, _, _, _, .cons r t, s => .cons r (Ent.append t s)
/-- the entries in another order -/
theorem Ent.perm {es fs : List (Int × Value)} (p : List.Perm es fs) : ∀ {ks : List Int}, Ent ks es → ∃ ls, Ent ls fs ∧ ls.Perm ks := by
  induction p with
  | nil => exact fun {ks} h => ⟨ks, h, .rfl⟩
  | cons x p ih =>
    intro ks h
    cases h with
    | cons r t =>
      obtain ⟨ls, h1, h2⟩ := ih t
      exact ⟨_ :: ls, .cons r h1, h2.cons _⟩
  | swap x y l =>
    intro ks h
    cases h with
    | cons r t =>
      cases t with
      | cons r' t' => exact ⟨_ :: _ :: _, .cons r' (.cons r t'), .swap ..⟩
  | trans p q ih1 ih2 =>
    intro ks h
    obtain ⟨ls, h1, h2⟩ := ih1 h
    obtain ⟨ms, h3, h4⟩ := ih2 h1
    exact ⟨ms, h3, h4.trans h2⟩

abbrev byTx (w : World) : Bool := w.params.followText "set-order"
/-- the set at a holds the ints ks, each once -/
def SetR (w : World) (h : Heap) (a : Addr) (ks : List Int) : Prop :=
  ∃ o es ep t ls, h.get? a = some o ∧ o.ExactSet ∧ o.data = .set es ep t ∧ Ent ls es.toList ∧ ls.Perm ks ∧ ks.Nodup ∧ es.size < scanBound ∧ t.fits es.size = true ∧ Tab (byTx w) t
theorem SetR.at {w : World} {h h' : Heap} {a : Addr} {ks : List Int} (x : SetR w h a ks) (k : ∀ o, h.get? a = some o → h'.get? a = some o) : SetR w h' a ks :=
  let ⟨o, es, ep, t, ls, ho, r⟩ := x; ⟨o, es, ep, t, ls, k o ho, r⟩
theorem SetR.there {w : World} {h : Heap} {a : Addr} {ks : List Int} (x : SetR w h a ks) : ∃ o, h.get? a = some o :=
  let ⟨o, es, ep, t, ls, ho, r⟩ := x; ⟨o, ho⟩
theorem SetR.type {w : World} {s : Shared} {a : Addr} {ks : List Int} (x : SetR w s.heap a ks) : s.TypeIs (.ref a) "set" :=
  let ⟨o, es, ep, t, ls, ho, he, r⟩ := x; ⟨o, ho, he.1⟩
theorem put_get {h : Heap} {a : Addr} {o : Obj} {es : Array (Int × Value)} {ep : Nat} {t : SetTable} (ho : h.get? a = some o) (hd : o.data = .set es ep t) (es' : Array (Int × Value)) (t' : SetTable) :
    (h.update a (Obj.putSet es' t')).get? a = some { o with data := .set es' (ep + 1) t' } := by
  have q := Heap.get?_update_self (Obj.putSet es' t') ho (by rw [putSet_of es' t' hd]; rfl)
  rw [putSet_of es' t' hd] at q
  exact q
section
variable {prog : Program} {w : World} {A : Around} {E : Value → Shared → Prop} {s : Shared}
theorem gave_ok {b : Bool} {Q : Unit → Shared → Prop} (h : Q () s) : wpAny (model prog w) A (match b with | true => rule "set.scan.the-table-gave-way" | false => pure ()) Q E s := by
  cases b
  · exact wpAny_pure h
  · exact wpAny_rule h
/-- an int is put into the set -/
theorem add_ok {a : Addr} {ks : List Int} {k : Int} {tk : Tok} {Q : Bool → Shared → Prop} (hS : SetR w s.heap a ks) (hroom : ks.length + 1 < scanBound)
    (h : ∀ h' b, Heap.SameBut a s.heap h' → SetR w h' a (if k ∈ ks then ks else ks ++ [k]) → Q b { s with heap := h' }) :
    wpAny (model prog w) A (setAddHashed a (.int k tk) (hashInt k)) Q E s := by
  obtain ⟨o, es, ep, t, ls, ho, hex, hd, hen, hp, hnd, hb, hf, hT⟩ := hS
  have hel := hen.elems (prog := prog) (w := w)
  have hlen : es.size = ks.length := by rw [← Array.length_toList, ← hen.length, hp.length_eq]
  unfold setAddHashed setAddHashedIn
  refine wpAny_holding (wpAny_bind (wpAny_setState_of ho hd hf ?_))
  dsimp only
  rw [byScan_of (knd := intKind prog w) rfl hb hel]
  simp only [↓reduceIte]
  unfold setAddByScan
  refine wpAny_bind ?_
  refine wpAny_bind (wpAny_rule ?_)
  refine wpAny_bind (wpAny_setScan_of (knd := intKind prog w) (k := k) (intKind_is prog w k tk) ho hd hf hel ?_)
  cases hr : List.findIdx? (fun e => (intKind prog w).is k e.2) es.toList with
  | some j =>
    dsimp only
    obtain ⟨hj, hpj, _⟩ := List.findIdx?_eq_some_iff_getElem.mp hr
    have hin : k ∈ ks := by
      obtain ⟨k', hk', _, t', e'⟩ := hen.mem_r _ (List.getElem_mem hj)
      rw [e'] at hpj
      have : k = k' := by have z : (k' == k) = true := hpj; exact (beq_iff_eq.mp z).symm
      rw [this]
      exact hp.mem_iff.mp hk'
    refine wpAny_pure (wpAny_pure ?_)
    have q := h s.heap false (Heap.SameBut.refl a s.heap) (by rw [if_pos hin]; exact ⟨o, es, ep, t, ls, ho, hex, hd, hen, hp, hnd, hb, hf, hT⟩)
    exact q
  | none =>
    dsimp only
    have hin : k ∉ ks := fun z => by
      obtain ⟨e, he, t', e'⟩ := hen.mem_l k (hp.mem_iff.mpr z)
      have q := List.findIdx?_eq_none_iff.mp hr e he
      rw [e', intKind_is] at q
      cases q
    rw [if_neg hin] at h
    have nd' : (ks ++ [k]).Nodup := by
      rw [List.nodup_append]
      exact ⟨hnd, List.pairwise_singleton .., fun x hx y hy => by rw [List.mem_singleton.mp hy]; rintro rfl; exact hin hx⟩
    have hperm := layNew_perm t es (hashInt k) (.int k tk)
    have hfits := layNew_fits t es (hashInt k) (.int k tk)
    have htab := layNew_tab hT es (hashInt k) (.int k tk)
    generalize hL : layNew t es (hashInt k) (.int k tk) = L at hperm hfits htab ⊢
    obtain ⟨es1, t1, wasDummy, gave⟩ := L
    dsimp only at hperm hfits htab ⊢
    rw [Array.toList_push] at hperm
    obtain ⟨ls1, hen1, hp1⟩ := (hen.append (ls := [k]) (fs := [(hashInt k, .int k tk)]) (.cons ⟨rfl, tk, rfl⟩ .nil)).perm hperm.symm
    have hp1' : ls1.Perm (ks ++ [k]) := hp1.trans (hp.append_right [k])
    have hb1 : es1.size < scanBound := by rw [← Array.length_toList, hperm.length_eq, List.length_append, Array.length_toList]; simpa using (by omega : es.size + 1 < scanBound)
    -- what comes behind, whatever the flag plain is
    have tail : ∀ t2 : SetTable, t2.fits es1.size = true → Tab (byTx w) t2 →
        wpAny (model prog w) A (do
          storeSet a es1 t2
          if (!wasDummy && t2.tooFull) = true then do
              (match (relayAll t2 es1 (SetTable.grown es1.size)).2.2 with | true => rule "set.scan.the-table-gave-way" | false => pure ())
              storeSet a (relayAll t2 es1 (SetTable.grown es1.size)).1 (relayAll t2 es1 (SetTable.grown es1.size)).2.1
              pure (some true)
            else pure (some true)) (fun r s' => ∃ h', r = some true ∧ s' = { s with heap := h' } ∧ Heap.SameBut a s.heap h' ∧ SetR w h' a (ks ++ [k])) E s := by
      intro t2 hf2 hT2
      refine wpAny_bind (wpAny_storeSet_of ho hd ?_ (fits_of_scanBound hb1))
      have hsb1 := Heap.SameBut.update s.heap a (Obj.putSet es1 t2)
      have hg1 := put_get ho hd es1 t2
      split
      · have hp2 := relayAll_perm t2 es1 (SetTable.grown es1.size)
        have hf3 := relayAll_fits t2 es1 (SetTable.grown es1.size)
        have hT3 := relayAll_tab hT2 es1 (SetTable.grown es1.size)
        generalize hRl : relayAll t2 es1 (SetTable.grown es1.size) = Rl at hp2 hf3 hT3 ⊢
        obtain ⟨es2, t3, gave2⟩ := Rl
        dsimp only at hp2 hf3 hT3 ⊢
        obtain ⟨ls2, hen2, hpp⟩ := hen1.perm hp2.symm
        have hsz : es2.size = es1.size := by rw [← Array.length_toList, hp2.length_eq, Array.length_toList]
        refine wpAny_bind (gave_ok ?_)
        refine wpAny_bind (wpAny_storeSet_of hg1 rfl ?_ (fits_of_scanBound (by rw [hsz]; exact hb1)))
        refine wpAny_pure ⟨_, rfl, rfl, hsb1.trans (Heap.SameBut.update _ a _), _, es2, _, t3, ls2, put_get hg1 rfl es2 t3, hex, rfl, hen2, hpp.trans hp1', nd', by rw [hsz]; exact hb1, hf3, hT3⟩
      · exact wpAny_pure ⟨_, rfl, rfl, hsb1, _, es1, _, t2, ls1, hg1, hex, rfl, hen1, hp1', nd', hb1, hf2, hT2⟩
    have done : ∀ (r : Option Bool) (s' : Shared), (∃ h', r = some true ∧ s' = { s with heap := h' } ∧ Heap.SameBut a s.heap h' ∧ SetR w h' a (ks ++ [k])) →
        wpAny (model prog w) A (match r with | some added => pure added | none => setAddHashedIn a (.int k tk) (hashInt k) 99999) Q E s' := by
      rintro r s' ⟨h', rfl, rfl, h1, h2⟩
      exact wpAny_pure (h h' true h1 h2)
    refine wpAny_bind (gave_ok ?_)
    split
    · refine wpAny_bind ?_
      rw [hashByValue_scannable 8 (show (Value.int k tk).scannable = true from rfl)]
      refine wpAny_pure ?_
      have e : (if plainKind (Value.int k tk) = true then t1 else { t1 with plain := false }) = t1 := rfl
      rw [e]
      exact wpAny_mono (tail t1 hfits htab) done fun _ _ z => z
    · refine wpAny_bind (wpAny_pure ?_)
      simp only [↓reduceIte]
      exact wpAny_mono (tail t1 hfits htab) done fun _ _ z => z
end
end Stb
end

section
set_option Elab.async false
set_option linter.unusedVariables false
set_option maxRecDepth 100000
namespace Stb
open PySem
theorem slot_next : Slot "set_iterator" "__next__" "set_iterator.__next__" :=
  .of (owner := "set_iterator") (n := "__next__") (by rw [typeLookup_type, builtinLookup_eq_fast]; kernel_rfl) (by decide +kernel) (by decide +kernel) (by decide +kernel)
    (by first | exact .inl (by decide +kernel) | exact .inr (by decide +kernel)) (by rw [isSubtype_type]; kernel_rfl)
theorem entry_next : entryFor table "set_iterator.__next__" = some Builtin.«set_iterator.__next__» := entryFor_of_tree (by kernel_rfl)
theorem owner_si : Manifest.owners.lookup (String.ofList ['r', 'o', 't', 'a', 'r', 'e', 't', 'i', '_', 't', 'e', 's'].reverse) = some Manifest.sig_set_iterator := by kernel_rfl
theorem args_next (a : Value) : argsOk "set_iterator.__next__" ⟨[a], []⟩ := by
  unfold argsOk; rw [signature?_of (id := "set_iterator.__next__") (n := ['_', '_', 't', 'x', 'e', 'n', '_', '_']) (o := ['r', 'o', 't', 'a', 'r', 'e', 't', 'i', '_', 't', 'e', 's']) (by kernel_rfl) owner_si]; kernel_rfl
theorem entry_iter : entryFor table "set.__iter__" = some Builtin.«frozenset.__iter__» :=
  entryFor_alias (id' := "frozenset.__iter__") (by kernel_rfl) rfl (by decide +kernel) (by kernel_rfl)
theorem slot_si_iter : Slot "set_iterator" "__iter__" "set_iterator.__iter__" :=
  .of (owner := "set_iterator") (n := "__iter__") (by rw [typeLookup_type, builtinLookup_eq_fast]; kernel_rfl) (by decide +kernel) (by decide +kernel) (by decide +kernel)
    (by first | exact .inl (by decide +kernel) | exact .inr (by decide +kernel)) (by rw [isSubtype_type]; kernel_rfl)
/-- an iterator over the set at a -/
def itObj (first : Value) (i : Nat) (a : Addr) (n ep : Nat) : Obj := { cls := .type "set_iterator", data := .fields #[first, .int i 0, .ref a, .int n 0, .int ep 0] }
section
variable {prog : Program} {w : World} {A : Around} {E : Value → Shared → Prop} {s : Shared}
theorem stop_ok {I : Addr} {Q : Option Value → Shared → Prop} {h₁ : Heap} (hh : A.handled = none) (hk : Heap.ExtBut I s.heap h₁) (hQ : ∀ h', Heap.ExtBut I s.heap h' → Q none { s with heap := h' }) :
    wpAny (model prog w) A.in1 (do raiseNew (← newExc (.type "StopIteration") []) : Sem PySem.Fin) (fun f s' => ∃ r, f = .done (.ret r) ∧ wpAny (model prog w) A (pure (some r)) Q E s')
      (fun e s' => wpAny (model prog w) A (do if ← isInstance e (.type "StopIteration") then pure none else throw e) Q E s') { s with heap := h₁ } := by
  refine wpAny_bind ?_
  simp only [newExc, newTuple]
  refine wpAny_bind (wpAny_newObj_type ?_ (by size_fits))
  refine wpAny_bind (m := firstArgMember _ _) (wpAny_of_eq (a := Value.none) (by first | rfl | (simp only [firstArgMember]; rfl)) ?_)
  refine wpAny_newObj_type ?_ (by size_fits)
  simp only [raiseNew]
  refine wpAny_bind (wpAny_handled ?_)
  rw [show A.in1.handled = none from hh]
  refine wpAny_bind (wpAny_pure (wpAny_throw ?_))
  refine wpAny_bind (wpAny_isInstance (T := "StopIteration") (b := true) ⟨_, Heap.get?_push_size _ rfl, rfl⟩ isSubtype_stop ?_)
  exact wpAny_pure (hQ _ ((hk.push _).push _))
/-- the next item, where the iterator goes by slots -/
theorem next_slot {I a : Addr} {o : Obj} {es : Array (Int × Value)} {ep : Nat} {t : SetTable} {slot i nx : Nat} {x : Value} {Q : Option Value → Shared → Prop}
    (ho : s.heap.get? a = some o) (hd : o.data = .set es ep t) (hf : t.fits es.size = true) (hI : s.heap.get? I = some (itObj (.int slot 0) i a es.size ep))
    (hx : ∀ (Q' : Option (Value × Nat) → Shared → Prop) (E' : Value → Shared → Prop) (A' : Around), Q' (some (x, nx)) s → wpAny (model prog w) A' (setNext a slot i ep) Q' E' s)
    (hQ : ∀ h', h'.get? I = some (itObj (.int nx 0) (i + 1) a es.size ep) → Heap.SameBut I s.heap h' → Q (some x) { s with heap := h' }) : wpAny (model prog w) A (pyNext (.ref I)) Q E s := by
  have hT : s.TypeIs (.ref I) "set_iterator" := ⟨_, hI, rfl⟩
  unfold pyNext
  refine wpAny_bind (wpAny_attempt (wpAny_callSpecial?_slot (name := Str.ofString "__next__") hT slot_next (wpAny_call_entry slot_next hT entry_next ?_ (args_next _))))
  unfold Builtin.«set_iterator.__next__»
  refine wpAny_bind (wpAny_pure ?_)
  refine wpAny_bind (wpAny_fieldsOf hI rfl ?_)
  show wpAny _ _ (setEntries a >>= _) _ _ s
  refine wpAny_bind (wpAny_setEntries_of ho hd hf ?_)
  rw [if_neg (by simp)]
  show wpAny _ _ (setNext a ((slot : Int)).toNat ((i : Int)).toNat ((ep : Int)).toNat >>= _) _ _ s
  rw [Int.toNat_natCast, Int.toNat_natCast, Int.toNat_natCast]
  refine wpAny_bind (hx _ _ _ ?_)
  show wpAny _ _ (setField (.ref I) 0 (rawInt nx) >>= _) _ _ s
  refine wpAny_bind (wpAny_setField hI rfl (by simp) ?_)
  have hI1 := Heap.get?_update_self (Obj.mapFields (·.setIfInBounds 0 (rawInt (nx : Int)))) hI (Obj.isFreed_of_fields (Obj.data_mapFields rfl _))
  refine wpAny_bind (wpAny_setField hI1 rfl (by simp) (wpAny_pure ⟨x, rfl, wpAny_pure (hQ _ ?_ ((Heap.SameBut.update ..).trans (Heap.SameBut.update ..)))⟩))
  have hI2 := Heap.get?_update_self (Obj.mapFields (·.setIfInBounds 1 (rawInt ((i : Int) + 1)))) hI1 (Obj.isFreed_of_fields (Obj.data_mapFields rfl _))
  exact hI2
end
end Stb
end

section
set_option Elab.async false
set_option linter.unusedVariables false
set_option maxRecDepth 100000
namespace Stb
open PySem
section
variable {prog : Program} {w : World} {A : Around} {E : Value → Shared → Prop} {s : Shared}
theorem end_slot {I a : Addr} {o : Obj} {es : Array (Int × Value)} {ep : Nat} {t : SetTable} {slot i : Nat} {Q : Option Value → Shared → Prop} (hh : A.handled = none)
    (ho : s.heap.get? a = some o) (hd : o.data = .set es ep t) (hf : t.fits es.size = true) (hI : s.heap.get? I = some (itObj (.int slot 0) i a es.size ep))
    (hx : ∀ (Q' : Option (Value × Nat) → Shared → Prop) (E' : Value → Shared → Prop) (A' : Around), Q' none s → wpAny (model prog w) A' (setNext a slot i ep) Q' E' s)
    (hQ : ∀ h', Heap.ExtBut I s.heap h' → Q none { s with heap := h' }) : wpAny (model prog w) A (pyNext (.ref I)) Q E s := by
  have hT : s.TypeIs (.ref I) "set_iterator" := ⟨_, hI, rfl⟩
  unfold pyNext
  refine wpAny_bind (wpAny_attempt (wpAny_callSpecial?_slot (name := Str.ofString "__next__") hT slot_next (wpAny_call_entry slot_next hT entry_next ?_ (args_next _))))
  unfold Builtin.«set_iterator.__next__»
  refine wpAny_bind (wpAny_pure ?_)
  refine wpAny_bind (wpAny_fieldsOf hI rfl ?_)
  show wpAny _ _ (setEntries a >>= _) _ _ s
  refine wpAny_bind (wpAny_setEntries_of ho hd hf ?_)
  rw [if_neg (by simp)]
  show wpAny _ _ (setNext a ((slot : Int)).toNat ((i : Int)).toNat ((ep : Int)).toNat >>= _) _ _ s
  rw [Int.toNat_natCast, Int.toNat_natCast, Int.toNat_natCast]
  refine wpAny_bind (hx _ _ _ ?_)
  show wpAny _ _ (setField (.ref I) 2 .none >>= _) _ _ s
  refine wpAny_bind (wpAny_setField hI rfl (by simp) ?_)
  exact stop_ok hh (Heap.SameBut.update ..).extBut hQ
theorem it_turn1 {h : Heap} {I : Addr} {f : Value} {i : Nat} {a : Addr} {n ep : Nat} (hI : h.get? I = some (itObj f i a n ep)) :
    (h.update I (Obj.mapFields (·.setIfInBounds 1 (rawInt ((i : Int) + 1))))).get? I = some (itObj f (i + 1) a n ep) := by
  have q := Heap.get?_update_self (Obj.mapFields (·.setIfInBounds 1 (rawInt ((i : Int) + 1)))) hI (Obj.isFreed_of_fields (Obj.data_mapFields (o := itObj f i a n ep) rfl _))
  rw [q]
  rfl
theorem it_turn0 {h : Heap} {I : Addr} {f : Value} {i : Nat} {a : Addr} {n ep : Nat} (hI : h.get? I = some (itObj f i a n ep)) :
    (h.update I (Obj.mapFields (·.setIfInBounds 0 (rawInt (0 : Int))))).get? I = some (itObj (.int 0 0) i a n ep) := by
  have q := Heap.get?_update_self (Obj.mapFields (·.setIfInBounds 0 (rawInt (0 : Int)))) hI (Obj.isFreed_of_fields (Obj.data_mapFields (o := itObj f i a n ep) rfl _))
  rw [q]
  rfl
theorem next_drawn {I a p : Addr} {o : Obj} {es : Array (Int × Value)} {ep : Nat} {t : SetTable} {i j : Nat} {pl : Array Value} {op : Obj} {c : Nat} {e : Int × Value} {Q : Option Value → Shared → Prop}
    (ho : s.heap.get? a = some o) (hd : o.data = .set es ep t) (hf : t.fits es.size = true) (hI : s.heap.get? I = some (itObj (.ref p) i a es.size ep))
    (hp : s.heap.get? p = some op) (hpd : op.data = .seq pl c) (hj : pl[i]? = some (.int j 0)) (he : es[j]? = some e)
    (hQ : ∀ h', h'.get? I = some (itObj (.ref p) (i + 1) a es.size ep) → Heap.SameBut I s.heap h' → Q (some e.2) { s with heap := h' }) : wpAny (model prog w) A (pyNext (.ref I)) Q E s := by
  have hT : s.TypeIs (.ref I) "set_iterator" := ⟨_, hI, rfl⟩
  unfold pyNext
  refine wpAny_bind (wpAny_attempt (wpAny_callSpecial?_slot (name := Str.ofString "__next__") hT slot_next (wpAny_call_entry slot_next hT entry_next ?_ (args_next _))))
  unfold Builtin.«set_iterator.__next__»
  refine wpAny_bind (wpAny_pure ?_)
  refine wpAny_bind (wpAny_fieldsOf hI rfl ?_)
  show wpAny _ _ (setEntries a >>= _) _ _ s
  refine wpAny_bind (wpAny_setEntries_of ho hd hf ?_)
  rw [if_neg (by simp)]
  show wpAny _ _ (seqItems? (.ref p) >>= _) _ _ s
  refine wpAny_bind (wpAny_seqItems hp hpd ?_)
  dsimp only
  simp only [Int.toNat_natCast, hj]
  refine wpAny_bind ?_
  unfold setNextDrawn
  refine wpAny_bind (wpAny_setState_of ho hd hf ?_)
  dsimp only
  rw [if_neg (by simp)]
  obtain ⟨eh, ex⟩ := e
  rw [he]
  refine wpAny_pure ?_
  have hI1 := it_turn1 hI
  refine wpAny_bind (wpAny_setField hI rfl (by simp) ?_)
  refine wpAny_pure ⟨ex, rfl, ?_⟩
  refine wpAny_pure ?_
  exact hQ _ hI1 (Heap.SameBut.update s.heap I _)
theorem end_drawn {I a p : Addr} {o : Obj} {es : Array (Int × Value)} {ep : Nat} {t : SetTable} {i : Nat} {pl : Array Value} {op : Obj} {c : Nat} {Q : Option Value → Shared → Prop} (hh : A.handled = none)
    (ho : s.heap.get? a = some o) (hd : o.data = .set es ep t) (hf : t.fits es.size = true) (hI : s.heap.get? I = some (itObj (.ref p) i a es.size ep))
    (hp : s.heap.get? p = some op) (hpd : op.data = .seq pl c) (hj : pl[i]? = none)
    (hQ : ∀ h', Heap.ExtBut I s.heap h' → Q none { s with heap := h' }) : wpAny (model prog w) A (pyNext (.ref I)) Q E s := by
  have hT : s.TypeIs (.ref I) "set_iterator" := ⟨_, hI, rfl⟩
  unfold pyNext
  refine wpAny_bind (wpAny_attempt (wpAny_callSpecial?_slot (name := Str.ofString "__next__") hT slot_next (wpAny_call_entry slot_next hT entry_next ?_ (args_next _))))
  unfold Builtin.«set_iterator.__next__»
  refine wpAny_bind (wpAny_pure ?_)
  refine wpAny_bind (wpAny_fieldsOf hI rfl ?_)
  show wpAny _ _ (setEntries a >>= _) _ _ s
  refine wpAny_bind (wpAny_setEntries_of ho hd hf ?_)
  rw [if_neg (by simp)]
  show wpAny _ _ (seqItems? (.ref p) >>= _) _ _ s
  refine wpAny_bind (wpAny_seqItems hp hpd ?_)
  dsimp only
  simp only [Int.toNat_natCast, hj]
  refine wpAny_bind (wpAny_setField hI rfl (by simp) ?_)
  have hI1 := it_turn0 hI
  refine wpAny_bind (wpAny_setField hI1 rfl (by simp) ?_)
  have sb := (Heap.SameBut.update s.heap I (Obj.mapFields (·.setIfInBounds 0 (rawInt (0 : Int))))).trans (Heap.SameBut.update _ I (Obj.mapFields (·.setIfInBounds 2 Value.none)))
  exact stop_ok (s := s) hh sb.extBut hQ

/-! ### what setNext finds -/
theorem erase_perm {α : Type} : ∀ {l : List α} {i : Nat} (h : i < l.length), List.Perm (l[i] :: l.eraseIdx i) l
  | x :: r, 0, _ => .rfl
  | x :: r, i + 1, h => by
    have ih := erase_perm (l := r) (i := i) (by simpa using h)
    exact (List.Perm.swap ..).trans (ih.cons x)
theorem pick_perm {α : Type} (f : Nat → Nat) : ∀ (fuel k : Nat) (left : List α) (out : Array α), left.length = fuel → List.Perm (pickOrder.go f fuel k left out).toList (out.toList ++ left)
  | 0, k, left, out, h => by
    have e : left = [] := List.length_eq_zero_iff.mp h
    subst e
    unfold pickOrder.go
    rw [List.append_nil]
  | fuel + 1, k, left, out, h => by
    unfold pickOrder.go
    have hlt : f k % left.length < left.length := Nat.mod_lt _ (by omega)
    rw [List.getElem?_eq_getElem hlt]
    dsimp only
    refine (pick_perm f fuel (k + 1) _ _ (by rw [List.length_eraseIdx, if_pos hlt]; omega)).trans ?_
    rw [Array.toList_push, List.append_assoc, List.singleton_append]
    exact (erase_perm hlt).append_left _
theorem walkText {a : Addr} {o : Obj} {es : Array (Int × Value)} {ep : Nat} {t : SetTable} {Q : Array (Int × Value) → Shared → Prop} (ho : s.heap.get? a = some o) (hd : o.data = .set es ep t) (hf : t.fits es.size = true)
    (hb : byTx w = true) (h : Q (pickOrder (w.params.setOrder a ep) es) s) : wpAny (model prog w) A (setWalk a) Q E s := by
  unfold setWalk setsByText
  refine wpAny_bind (wpAny_setState_of ho hd hf ?_)
  dsimp only
  refine wpAny_bind (wpAny_bind (wpAny_askSetting (wpAny_pure ?_)))
  show wpAny (model prog w) A (if byTx w = true then _ else _) Q E s
  rw [if_pos hb]
  exact wpAny_bind (wpAny_askSetting (wpAny_pure h))
theorem next_text {a : Addr} {o : Obj} {es : Array (Int × Value)} {ep : Nat} {t : SetTable} {slot i : Nat} {Q : Option (Value × Nat) → Shared → Prop} (ho : s.heap.get? a = some o) (hd : o.data = .set es ep t)
    (hf : t.fits es.size = true) (hb : byTx w = true) (h : Q (((pickOrder (w.params.setOrder a ep) es)[i]?).map fun e => (e.2, slot)) s) : wpAny (model prog w) A (setNext a slot i ep) Q E s := by
  unfold setNext setsByText
  refine wpAny_bind (wpAny_setState_of ho hd hf ?_)
  dsimp only
  refine wpAny_bind (wpAny_bind (wpAny_askSetting (wpAny_pure ?_)))
  show wpAny (model prog w) A (if byTx w = true then _ else _) Q E s
  rw [if_pos hb]
  rw [if_neg (by simp)]
  exact wpAny_bind (walkText ho hd hf hb (wpAny_pure h))
theorem next_led {a : Addr} {o : Obj} {es : Array (Int × Value)} {ep : Nat} {t : SetTable} {slot i : Nat} {Q : Option (Value × Nat) → Shared → Prop} (ho : s.heap.get? a = some o) (hd : o.data = .set es ep t)
    (hf : t.fits es.size = true) (hb : byTx w = false) (hdr : (!t.plain && decide (es.size > 1)) = false) (hl : t.led = true)
    (h : Q (match es[SetTable.below t.place slot]?, t.place[SetTable.below t.place slot]? with | some (_, x), some j => some (x, j + 1) | _, _ => none) s) : wpAny (model prog w) A (setNext a slot i ep) Q E s := by
  unfold setNext setsByText
  refine wpAny_bind (wpAny_setState_of ho hd hf ?_)
  dsimp only
  refine wpAny_bind (wpAny_bind (wpAny_askSetting (wpAny_pure ?_)))
  show wpAny (model prog w) A (if byTx w = true then _ else _) Q E s
  rw [hb, if_neg (by decide)]
  show wpAny (model prog w) A (if (!t.plain && decide (es.size > 1)) = true then _ else _) Q E s
  rw [hdr, if_neg (by decide)]
  refine wpAny_bind ?_
  show wpAny (model prog w) A (if (!t.led && !es.isEmpty) = true then _ else _) _ E s
  rw [hl]
  simp only [Bool.not_true, Bool.false_and, Bool.false_eq_true, ↓reduceIte]
  exact wpAny_pure (wpAny_pure h)
end
end Stb
end

section
set_option Elab.async false
set_option linter.unusedVariables false
set_option maxRecDepth 100000
namespace Stb
open PySem
/-- the values of some entries are these ints -/
def ValsOf (ks : List Int) (vs : List Value) : Prop := Paired (fun (k : Int) (v : Value) => ∃ t, v = Value.int k t) ks vs
theorem Ent.vals : ∀ {ks : List Int} {es : List (Int × Value)}, Ent ks es → ValsOf ks (es.map (·.2))
  | _, _, .nil => .nil
  | _, _, .cons r t => .cons r.2 (Ent.vals t)
theorem list_ext {α : Type} {xs ys : List α} (hl : xs.length = ys.length) (h : ∀ (j : Nat) (x : α), xs[j]? = some x → ys[j]? = some x) : xs = ys := by
  apply List.ext_getElem? 
  intro i
  cases e : xs[i]? with
  | some x => exact (h i x e).symm
  | none =>
    have := List.getElem?_eq_none_iff.mp e
    exact (List.getElem?_eq_none_iff.mpr (by omega)).symm
theorem filterMap_at {α β : Type} {f : α → Option β} : ∀ {l : List α} (h : ∀ x ∈ l, (f x).isSome = true) (i : Nat), (l.filterMap f)[i]? = l[i]?.bind f
  | [], _, i => by simp
  | x :: r, h, i => by
    obtain ⟨y, e⟩ := Option.isSome_iff_exists.mp (h x (List.mem_cons_self ..))
    rw [List.filterMap_cons_some e]
    cases i with
    | zero => simp [e]
    | succ i => simpa using filterMap_at (fun z hz => h z (List.mem_cons_of_mem _ hz)) i
theorem entry_si_iter : entryFor table "set_iterator.__iter__" = some Builtin.«dict_keyiterator.__iter__» :=
  entryFor_alias (id' := "dict_keyiterator.__iter__") (by kernel_rfl) rfl (by decide +kernel) (by kernel_rfl)
theorem args_si_iter (a : Value) : argsOk "set_iterator.__iter__" ⟨[a], []⟩ := by
  unfold argsOk; rw [signature?_of (id := "set_iterator.__iter__") (n := ['_', '_', 'r', 'e', 't', 'i', '_', '_']) (o := ['r', 'o', 't', 'a', 'r', 'e', 't', 'i', '_', 't', 'e', 's']) (by kernel_rfl) owner_si]; kernel_rfl
section
variable {prog : Program} {w : World} {A : Around} {E : Value → Shared → Prop} {s : Shared}
/-- drawing an order: whatever the draws, it is a rearrangement -/
theorem draw_ok {α : Type} : ∀ (n : Nat) (xs : List α) (s : Shared) (Q : List α → Shared → Prop), xs.length = n → (∀ ys d, List.Perm ys xs → Q ys { s with drawn := d }) → wpAny (model prog w) A (drawOrder n xs) Q E s
  | 0, xs, s, Q, hl, h => by
    have e : xs = [] := List.length_eq_zero_iff.mp hl
    subst e
    unfold drawOrder
    exact wpAny_pure (h [] s.drawn .rfl)
  | n + 1, [], s, Q, hl, h => by cases hl
  | n + 1, x :: r, s, Q, hl, h => by
    unfold drawOrder
    have hlt : w.draws .order (s.drawn.get .order) % (x :: r).length < (x :: r).length := Nat.mod_lt _ (Nat.succ_pos _)
    refine wpAny_bind (m := choose .order (x :: r).length) ?_
    have hc : ∀ (Q' : Nat → Shared → Prop), Q' (w.draws .order (s.drawn.get .order) % (x :: r).length) { s with drawn := s.drawn.bump .order } → wpAny (model prog w) A (choose .order (x :: r).length) Q' E s := by
      intro Q' hq Γ p hΓ
      show Sem.wp _ _ (.choose .order (x :: r).length .pure) _ _ _ _
      rw [Sem.wp_choose]
      exact ⟨Nat.succ_ne_zero _, hq⟩
    refine hc _ ?_
    generalize hi : w.draws .order (s.drawn.get .order) % (x :: r).length = i at hlt ⊢
    rw [List.getElem?_eq_getElem hlt]
    dsimp only
    refine wpAny_bind (draw_ok n _ _ _ (by rw [List.length_eraseIdx, if_pos hlt]; simpa using hl) fun ys d hp => ?_)
    exact wpAny_pure (h _ _ ((hp.cons _).trans (erase_perm hlt)))

theorem self_ok {I a : Addr} {f : Value} {i n ep : Nat} {Q : Value → Shared → Prop} (hI : s.heap.get? I = some (itObj f i a n ep)) (h : Q (.ref I) s) : wpAny (model prog w) A (pyIter (.ref I)) Q E s := by
  have hT : s.TypeIs (.ref I) "set_iterator" := ⟨_, hI, rfl⟩
  refine wpAny_pyIter_slot hT slot_si_iter (wpAny_call_entry slot_si_iter hT entry_si_iter ?_ (args_si_iter _))
  show wpAny _ _ (ret (.ref I)) _ _ s
  exact wpAny_pure ⟨_, rfl, "set_iterator", _, hT, slot_next.lookup, h⟩
/-- the walk where the iterator goes by slots: g i is the slot at turn i -/
theorem walks_slot {I a : Addr} {o : Obj} {es : Array (Int × Value)} {ep : Nat} {t : SetTable} {vs : List Value} {g : Nat → Nat} (hd : o.data = .set es ep t) (hf : t.fits es.size = true) (hv : vs.length = es.size) (hne : a ≠ I)
    (hx : ∀ (s : Shared) (i : Nat) (A' : Around) (E' : Value → Shared → Prop) (Q' : Option (Value × Nat) → Shared → Prop), s.heap.get? a = some o → i ≤ es.size → Q' ((vs[i]?).map fun x => (x, g (i + 1))) s → wpAny (model prog w) A' (setNext a (g i) i ep) Q' E' s)
    (hh : A.handled = none) : Walks prog w A I [I, a] [I] es.size (fun i v => vs[i]? = some v) (fun i h => i ≤ es.size ∧ h.get? a = some o ∧ h.get? I = some (itObj (.int (g i) 0) i a es.size ep)) where
  sub := fun b hb => by simp at hb; simp [hb]
  frame := fun i h h' st k => ⟨st.1, k a (by simp) o st.2.1, k I (by simp) _ st.2.2⟩
  item := fun i s Q E hi st hQ => by
    obtain ⟨h1, h2, h3⟩ := st
    have hlt : i < vs.length := by omega
    refine next_slot (nx := g (i + 1)) (x := vs[i]) h2 hd hf h3 (fun Q' E' A' hq => hx s i A' E' Q' h2 h1 (by rw [List.getElem?_eq_getElem hlt]; exact hq)) fun h' hI' sb => ?_
    exact hQ _ h' s.toks (List.getElem?_eq_getElem hlt) ⟨by omega, sb.extBut a o hne h2, hI'⟩ fun b ob hb e => sb.extBut b ob (fun z => hb (by simp [z])) e
  done := fun s Q E st hQ => by
    obtain ⟨h1, h2, h3⟩ := st
    refine end_slot hh h2 hd hf h3 (fun Q' E' A' hq => hx s es.size A' E' Q' h2 h1 (by rw [List.getElem?_eq_none (by omega)]; exact hq)) fun h' sb => ?_
    exact hQ h' s.toks fun b ob hb e => sb b ob (fun z => hb (by simp [z])) e
  self := fun i s Q E st hQ => self_ok st.2.2 hQ
theorem walks_drawn {I a p : Addr} {o op : Obj} {es : Array (Int × Value)} {ep c : Nat} {t : SetTable} {vs : List Value} {ys : List Nat} (hd : o.data = .set es ep t) (hf : t.fits es.size = true) (hv : ys.length = es.size)
    (hpd : op.data = .seq (ys.map fun (j : Nat) => Value.int j 0).toArray c) (hne : a ≠ I) (hnp : p ≠ I) (hx : ∀ (i j : Nat), ys[i]? = some j → ∃ e, es[j]? = some e ∧ vs[i]? = some e.2)
    (hh : A.handled = none) : Walks prog w A I [I, a, p] [I] es.size (fun i v => vs[i]? = some v) (fun i h => i ≤ es.size ∧ h.get? a = some o ∧ h.get? p = some op ∧ h.get? I = some (itObj (.ref p) i a es.size ep)) where
  sub := fun b hb => by simp at hb; simp [hb]
  frame := fun i h h' st k => ⟨st.1, k a (by simp) o st.2.1, k p (by simp) op st.2.2.1, k I (by simp) _ st.2.2.2⟩
  item := fun i s Q E hi st hQ => by
    obtain ⟨h1, h2, h3, h4⟩ := st
    have hlt : i < ys.length := by omega
    obtain ⟨e, he, hve⟩ := hx i ys[i] (List.getElem?_eq_getElem hlt)
    refine next_drawn (j := ys[i]) (e := e) h2 hd hf h4 h3 hpd (by simp [hlt]) he fun h' hI' sb => ?_
    exact hQ _ h' s.toks hve ⟨by omega, sb.extBut a o hne h2, sb.extBut p op hnp h3, hI'⟩ fun b ob hb e => sb.extBut b ob (fun z => hb (by simp [z])) e
  done := fun s Q E st hQ => by
    obtain ⟨h1, h2, h3, h4⟩ := st
    refine end_drawn hh h2 hd hf h4 h3 hpd (by simp [hv]) fun h' sb => ?_
    exact hQ h' s.toks fun b ob hb e => sb b ob (fun z => hb (by simp [z])) e
  self := fun i s Q E st hQ => self_ok st.2.2.2 hQ
/-- an iterator over the set has come: it will give the ints ls, some order of ks -/
theorem iter_ok {a : Addr} {ks : List Int} {Q : Value → Shared → Prop} (hS : SetR w s.heap a ks)
    (h : ∀ (I : Addr) (h' : Heap) (d : Drawn) (fp : List Addr) (St : Nat → Heap → Prop) (vs : List Value) (ls : List Int), s.heap.objs.size ≤ I → (∀ b ∈ fp, b = a ∨ s.heap.objs.size ≤ b) → (∀ b ∈ fp, b < h'.objs.size) → ValsOf ls vs → ls.Perm ks →
      (∀ (A : Around), A.handled = none → Walks prog w A I fp [I] ks.length (fun i v => vs[i]? = some v) St) → St 0 h' → (∀ b o, s.heap.get? b = some o → h'.get? b = some o) →
      Q (.ref I) { s with heap := h', drawn := d }) : wpAny (model prog w) A (pyIter (.ref a)) Q E s := by
  have hT := hS.type
  obtain ⟨o, es, ep, t, ls, ho, hex, hd, hen, hp, hnd, hb, hf, hTb⟩ := hS
  have hlen : es.size = ks.length := by rw [← Array.length_toList, ← hen.length, hp.length_eq]
  have hlt : a < s.heap.objs.size := Heap.lt_size ho
  refine wpAny_pyIter_slot hT F.slot_set_iter (wpAny_call_entry F.slot_set_iter hT entry_iter ?_ (F.args_set_iter_1 _))
  unfold Builtin.«frozenset.__iter__» Builtin.Frozenset.slot0 slotArgs
  simp only [List.isEmpty_nil, Bool.not_true, Bool.false_eq_true, ↓reduceIte, bind_assoc, List.length_nil, bne_self_eq_false]
  unfold Builtin.Frozenset.addrOf Builtin.Frozenset.sizeOf
  refine wpAny_bind (wpAny_pure ?_)
  try dsimp only
  refine wpAny_bind (wpAny_pure ?_)
  refine wpAny_bind (wpAny_bind (wpAny_setEntries_of ho hd hf (wpAny_pure ?_)))
  refine wpAny_bind ?_
  unfold setDrawn setsByText
  refine wpAny_bind (wpAny_setState_of ho hd hf ?_)
  dsimp only
  refine wpAny_bind (wpAny_bind (wpAny_askSetting (wpAny_pure ?_)))
  refine wpAny_pure ?_
  refine wpAny_ite_split (fun c => ?_) (fun c => ?_)
  · -- drawn
    refine wpAny_bind (draw_ok es.size (List.range es.size) s _ List.length_range fun ys d hys => ?_)
    have hyl : ys.length = es.size := by rw [hys.length_eq, List.length_range]
    have hyi : ∀ j ∈ ys, j < es.size := fun j hj => List.mem_range.mp (hys.mem_iff.mp hj)
    refine wpAny_bind (wpAny_newTuple ?_ (by rw [List.length_map, hyl]; exact fits_of_scanBound hb))
    have ho1 := Heap.get?_push_of_some { cls := .type "tuple", data := .seq (ys.map fun (i : Nat) => rawInt (i : Int)).toArray } ho
    refine wpAny_bind (wpAny_setEpoch_of ho1 hd hf ?_)
    refine wpAny_bind (wpAny_newObj_type (wpAny_pure ⟨_, rfl, "set_iterator", _, ⟨_, Heap.get?_push_size _ rfl, rfl⟩, slot_next.lookup, ?_⟩))
    have hperm : List.Perm (ys.filterMap fun j => es[j]?) es.toList := (hys.filterMap _).trans (by rw [filterMap_getElem?_range])
    obtain ⟨ls2, hen2, hp2⟩ := hen.perm hperm.symm
    have hat : ∀ (i j : Nat), ys[i]? = some j → ∃ e, es[j]? = some e ∧ ((ys.filterMap fun j => es[j]?).map (·.2))[i]? = some e.2 := fun i j e => by
      have hj : j < es.size := hyi j (List.mem_of_getElem? e)
      refine ⟨es[j], Array.getElem?_eq_getElem hj, ?_⟩
      rw [List.getElem?_map, filterMap_at (fun x hx => by rw [Array.getElem?_eq_getElem (hyi x hx)]; rfl), e, Option.bind_some, Array.getElem?_eq_getElem hj]
      rfl
    have fin : ∀ (h1 : Heap) (op : Obj), op.data = .seq (ys.map fun (i : Nat) => Value.int i 0).toArray 0 → h1.objs.size = s.heap.objs.size + 1 → h1.get? s.heap.objs.size = some op → (∀ b o, s.heap.get? b = some o → h1.get? b = some o) →
        Q (.ref h1.objs.size) { s with heap := h1.push (itObj (.ref s.heap.objs.size) 0 a es.size ep), drawn := d } := by
      intro h1 op hpd hsz hop hk
      refine h h1.objs.size _ d [h1.objs.size, a, s.heap.objs.size] (fun i h => i ≤ es.size ∧ h.get? a = some o ∧ h.get? s.heap.objs.size = some op ∧ h.get? h1.objs.size = some (itObj (.ref s.heap.objs.size) i a es.size ep)) _ ls2 ?_ ?_ ?_ hen2.vals (hp2.trans hp)
        (fun A hh => by rw [← hlen]; exact walks_drawn (o := o) (ys := ys) (c := 0) hd hf hyl hpd (Nat.ne_of_lt (by rw [hsz]; exact Nat.lt_succ_of_lt hlt)) (Nat.ne_of_lt (by rw [hsz]; exact Nat.lt_succ_self _)) hat hh) ⟨Nat.zero_le _, Heap.get?_push_of_some _ (hk _ _ ho), Heap.get?_push_of_some _ hop, Heap.get?_push_size _ rfl⟩ fun b ob e => Heap.get?_push_of_some _ (hk _ _ e)
      · omega
      · intro b hb
        simp only [List.mem_cons, List.not_mem_nil, or_false] at hb
        rcases hb with rfl | rfl | rfl
        · right; omega
        · left; rfl
        · right; exact Nat.le_refl _
      · intro b hb
        rw [Heap.size_push]
        simp only [List.mem_cons, List.not_mem_nil, or_false] at hb
        rcases hb with rfl | rfl | rfl
        · exact Nat.lt_succ_self _
        · rw [hsz]; exact Nat.lt_succ_of_lt (Nat.lt_succ_of_lt hlt)
        · rw [hsz]; exact Nat.lt_succ_of_lt (Nat.lt_succ_self _)
    exact fin _ _ rfl (Heap.size_push ..) (Heap.get?_push_size _ rfl) fun b ob e => Heap.get?_push_of_some _ e
  · refine wpAny_bind (wpAny_pure ?_)
    refine wpAny_bind (wpAny_setEpoch_of ho hd hf ?_)
    refine wpAny_bind (wpAny_newObj_type (wpAny_pure ⟨_, rfl, "set_iterator", _, ⟨_, Heap.get?_push_size _ rfl, rfl⟩, slot_next.lookup, ?_⟩))
    have fin : ∀ (vs : List Value) (g : Nat → Nat) (ls2 : List Int), g 0 = 0 → vs.length = es.size → ValsOf ls2 vs → ls2.Perm ks →
        (∀ (s : Shared) (i : Nat) (A' : Around) (E' : Value → Shared → Prop) (Q' : Option (Value × Nat) → Shared → Prop), s.heap.get? a = some o → i ≤ es.size → Q' ((vs[i]?).map fun x => (x, g (i + 1))) s → wpAny (model prog w) A' (setNext a (g i) i ep) Q' E' s) →
        Q (.ref s.heap.objs.size) { s with heap := s.heap.push { cls := .type "set_iterator", dict := none, data := .fields [rawInt 0, rawInt 0, Value.ref a, rawInt (es.size : Int), rawInt (ep : Int)].toArray } } := by
      intro vs g ls2 g0 hvl hv hp2 hx
      refine h s.heap.objs.size _ s.drawn [s.heap.objs.size, a] (fun i h => i ≤ es.size ∧ h.get? a = some o ∧ h.get? s.heap.objs.size = some (itObj (.int (g i) 0) i a es.size ep)) vs ls2 (Nat.le_refl _) ?_ ?_ hv hp2
        (fun A hh => by rw [← hlen]; exact walks_slot (o := o) (g := g) hd hf hvl (Nat.ne_of_lt hlt) hx hh) ⟨Nat.zero_le _, Heap.get?_push_of_some _ ho, ?_⟩ fun b ob e => Heap.get?_push_of_some _ e
      · intro b hb
        simp only [List.mem_cons, List.not_mem_nil, or_false] at hb
        rcases hb with rfl | rfl
        · right; exact Nat.le_refl _
        · left; rfl
      · intro b hb
        rw [Heap.size_push]
        simp only [List.mem_cons, List.not_mem_nil, or_false] at hb
        rcases hb with rfl | rfl
        · exact Nat.lt_succ_self _
        · exact Nat.lt_succ_of_lt hlt
      · rw [g0]; exact Heap.get?_push_size _ rfl
    cases hbt : byTx w with
    | true =>
      have pp : List.Perm (pickOrder (w.params.setOrder a ep) es).toList es.toList := by
        have := pick_perm (w.params.setOrder a ep) es.size 0 es.toList #[] (by simp)
        simpa [pickOrder] using this
      obtain ⟨ls2, hen2, hp2⟩ := hen.perm pp.symm
      refine fin ((pickOrder (w.params.setOrder a ep) es).toList.map (·.2)) (fun _ => 0) ls2 rfl (by rw [List.length_map, pp.length_eq]; simp) hen2.vals (hp2.trans hp) fun s i A' E' Q' ho' hi hq => ?_
      refine next_text ho' hd hf hbt ?_
      rw [List.getElem?_map, Array.getElem?_toList] at hq
      cases e : (pickOrder (w.params.setOrder a ep) es)[i]? with
      | none => rw [e] at hq; exact hq
      | some z => rw [e] at hq; exact hq
    | false =>
      have hdr : (!t.plain && decide (es.size > 1)) = false := by
        have c' : ¬ ((!byTx w && (!t.plain && decide (es.size > 1))) = true) := c
        rw [hbt] at c'
        simpa using c'
      have hled : t.led = true := hTb.led.resolve_left (by rw [hbt]; decide)
      have hps : t.place.size = es.size := by
        have := hf
        simp only [SetTable.fits, Bool.and_eq_true, beq_iff_eq] at this
        exact this.1
      refine fin (es.toList.map (·.2)) (fun i => if i = 0 then 0 else t.place.getD (i - 1) 0 + 1) ls (by simp) (by simp) hen.vals hp fun s i A' E' Q' ho' hi hq => ?_
      refine next_led ho' hd hf hbt hdr hled ?_
      have hbl : SetTable.below t.place (if i = 0 then 0 else t.place.getD (i - 1) 0 + 1) = i := by
        by_cases h0 : i = 0
        · rw [if_pos h0, below_zero hTb.rise, h0]
        · rw [if_neg h0, below_next hTb.rise (by omega)]; omega
      rw [hbl]
      by_cases hlt2 : i < es.size
      · have hlt3 : i < t.place.size := by omega
        rw [Array.getElem?_eq_getElem hlt2, Array.getElem?_eq_getElem hlt3]
        rw [List.getElem?_map, Array.getElem?_toList, Array.getElem?_eq_getElem hlt2] at hq
        have e1 : t.place.getD i 0 = t.place[i] := by simp [Array.getD, hlt3]
        simpa [e1] using hq
      · rw [Array.getElem?_eq_none (by omega)]
        rw [List.getElem?_map, Array.getElem?_toList, Array.getElem?_eq_none (by omega)] at hq
        exact hq
end
end Stb
end

section
set_option Elab.async false
set_option linter.unusedVariables false
set_option maxRecDepth 100000
namespace Stb
open PySem PyProof.Rows
section
variable {prog : Program} {w : World} {A : Around} {E : Value → Shared → Prop} {s : Shared}
theorem hint_ok {r : Addr} {Q : Bool → Shared → Prop} (hT : s.TypeIs (.ref r) "set") (h : Q false s) : wpAny (model prog w) A (Builtin.List.listLengthHint (.ref r)) Q E s := by
  unfold Builtin.List.listLengthHint
  refine wpAny_bind (wpAny_specialOf hT PySem.F.slot_set_len.lookup ?_)
  generalize hid : ("set.__len__" : String) = q
  wp_delta
  rw [show splitId q = some ("set", "__len__") from by subst hid; decide +kernel]
  subst hid
  refine wpAny_bind (wpAny_isInstance (T := "set") (b := true) hT sub_set_self ?_)
  refine wpAny_ite_split (fun z => absurd z (by decide)) (fun _ => ?_)
  refine wpAny_ite_split (fun _ => ?_) (fun z => absurd (by decide +kernel) z)
  exact wpAny_bind (wpAny_typeOf hT (wpAny_pure h))
/-- what collect makes of a set -/
theorem collect_ok {a : Addr} {ks : List Int} {R : List Value → Shared → Prop} (hh : A.handled = none) (hS : SetR w s.heap a ks) (hn : ks.length ≤ sizeLine)
    (h : ∀ (h' : Heap) (tk : Nat) (d : Drawn) (vs : List Value) (ls : List Int), s.heap.objs.size < h'.objs.size → (∀ b o, s.heap.get? b = some o → h'.get? b = some o) → ValsOf ls vs → ls.Perm ks → R vs { s with heap := h', toks := tk, drawn := d }) :
    wpAny (model prog w) A (collect (.ref a)) R E s := by
  have hT := hS.type
  obtain ⟨oa, hoa⟩ := hS.there
  have hlt : a < s.heap.objs.size := Heap.lt_size hoa
  unfold collect
  refine wpAny_bind (wpAny_runValue (codeAny_builtin entry_proto_collect' ?_))
  rw [Around.under_plainId PySem.F.plain_proto_collect _]
  show wpAny _ A.in1 (newList [] >>= fun l => again (.builtin "list.__iadd__" ⟨[l, .ref a], []⟩)) _ _ s
  refine wpAny_bind (wpAny_newObj_type ?_)
  refine wpAny_pure ⟨plainId_quiet PySem.F.plain_list_iadd _, codeAny_builtin entry_list_iadd' ?_⟩
  rw [Around.under_plainId PySem.F.plain_list_iadd _]
  have hL : (s.heap.push { cls := .type "list", data := .seq ([] : List Value).toArray }).get? s.heap.objs.size = some { cls := .type "list", data := .seq #[] } := Heap.get?_push_size _ rfl
  have hS1 : SetR w (s.heap.push { cls := .type "list", data := .seq ([] : List Value).toArray }) a ks := hS.at fun o e => Heap.get?_push_of_some _ e
  have hsz1 : (s.heap.push { cls := .type "list", data := .seq ([] : List Value).toArray }).objs.size = s.heap.objs.size + 1 := Heap.size_push ..
  generalize hH1 : s.heap.push { cls := .type "list", data := .seq ([] : List Value).toArray } = H1 at hL hS1 hsz1 ⊢
  have hk1 : ∀ b o, s.heap.get? b = some o → H1.get? b = some o := fun b o e => by rw [← hH1]; exact Heap.get?_push_of_some _ e
  show wpAny _ A.in1 (Builtin.List.listExtendWith (.ref s.heap.objs.size) (.ref a) (.ref s.heap.objs.size)) _ _ { s with heap := H1 }
  have hT1 : Shared.TypeIs { s with heap := H1 } (.ref a) "set" := hS1.type (s := { s with heap := H1 })
  unfold Builtin.List.listExtendWith
  refine wpAny_bind (wpAny_typeOf (T := "set") hT1 ?_)
  have q1 : Builtin.List.listSameRef (.ref s.heap.objs.size) (.ref a) = false := by simp [Builtin.List.listSameRef, Nat.ne_of_gt hlt]
  have q2 : (Value.type "set" == Value.type "list") = false := by decide
  have q3 : (Value.type "set" == Value.type "tuple") = false := by decide
  simp only [q1, q2, q3, Bool.or_false, Bool.false_eq_true, if_false]
  refine wpAny_bind (iter_ok (s := { s with heap := H1 }) hS1 ?_)
  intro I h2 d fp St vs ls hI hfp hfp2 hv hp W hst hk2
  have hSf : s.heap.objs.size ∉ fp := fun z => by
    rcases hfp _ z with e | e
    · exact Nat.ne_of_gt hlt e
    · have e' : H1.objs.size ≤ s.heap.objs.size := e
      rw [hsz1] at e'
      exact absurd e' (Nat.not_succ_le_self _)
  have hL2 := hk2 _ _ hL
  have key : ∀ (h3 : Heap) (c : Nat), St 0 h3 → (∀ b o, b ≠ s.heap.objs.size → h2.get? b = some o → h3.get? b = some o) → h3.get? s.heap.objs.size = some { cls := .type "list", data := .seq #[] c } →
      codeAny (model prog w) A (.builtin "list.extend.loop" ⟨[.ref s.heap.objs.size, .ref I, .ref s.heap.objs.size], []⟩)
        (fun q s' => ∃ (h' : Heap) (tk : Nat) (acc : Array Value) (c' : Nat), q = .ok (.ret (.ref s.heap.objs.size)) ∧ s' = { s with heap := h', toks := tk, drawn := d } ∧
          (∀ b o, s.heap.get? b = some o → h'.get? b = some o) ∧ h'.get? s.heap.objs.size = some { cls := .type "list", dict := none, data := .seq acc c', slots := #[] } ∧ ItemsOf (fun i v => vs[i]? = some v) acc ks.length) { s with heap := h3, drawn := d } := by
    intro h3 c hst3 hk3 hL3
    refine codeAny_extend_loopS (W A.in1 hh).toS hn s.heap.objs.size hSf (.ref s.heap.objs.size) ks.length 0 _ #[] c rfl (Nat.zero_le _) hst3 hL3 (ItemsOf.nil _) fun s' acc' c' hm hS' hacc => ?_
    obtain ⟨hp', g', d', tk', os'⟩ := s'
    have eg : g' = s.gens := hm.gens
    have ed : d' = d := hm.drawn
    have eo : os' = s.os := hm.os
    subst eg ed eo
    refine ⟨hp', tk', acc', c', rfl, rfl, fun b o e => ?_, hS', hacc⟩
    have hb : b < s.heap.objs.size := Heap.lt_size e
    refine hm.heap b o (fun z => ?_) (hk3 b o (Nat.ne_of_lt hb) (hk2 b o (hk1 b o e)))
    rcases List.mem_cons.mp z with z | z
    · exact Nat.ne_of_lt hb z
    · have z' : b = I := List.mem_singleton.mp z
      have hI' : H1.objs.size ≤ I := hI
      rw [hsz1, ← z'] at hI'
      exact absurd (Nat.lt_of_lt_of_le hb (Nat.le_of_succ_le hI')) (Nat.lt_irrefl _)
  have last : ∀ (q : Result) (s' : Shared), (∃ (h' : Heap) (tk : Nat) (acc : Array Value) (c' : Nat), q = .ok (.ret (.ref s.heap.objs.size)) ∧ s' = { s with heap := h', toks := tk, drawn := d } ∧
          (∀ b o, s.heap.get? b = some o → h'.get? b = some o) ∧ h'.get? s.heap.objs.size = some { cls := .type "list", dict := none, data := .seq acc c', slots := #[] } ∧ ItemsOf (fun i v => vs[i]? = some v) acc ks.length) →
      ∃ tk h', q = .ok (.ret (.ref s.heap.objs.size)) ∧ s' = { s with heap := h', toks := tk, drawn := d } ∧ wpAny (model prog w) A (do
        let o ← load s.heap.objs.size
        match o.data with
        | .seq xs _ => pure xs.toList
        | _ => unsupported "internal:collect") R E { s with heap := h', toks := tk, drawn := d } := by
    rintro q s' ⟨h', tk, acc, c', rfl, rfl, hk, hg, hit⟩
    refine ⟨tk, h', rfl, rfl, wpAny_bind (wpAny_load hg (wpAny_pure ?_))⟩
    have hvl : vs.length = ks.length := by rw [← Paired.length hv, hp.length_eq]
    have e : acc.toList = vs := list_ext (by rw [Array.length_toList, hit.1, hvl]) fun j x hx => hit.2 j x (by rw [← Array.getElem?_toList]; exact hx)
    show R acc.toList _
    rw [e]
    exact h h' tk d vs ls (Heap.lt_size hg) hk hv hp
  have hT2 : Shared.TypeIs { s with heap := h2, drawn := d } (.ref a) "set" := by
    obtain ⟨o', ho', hc'⟩ := hT1
    exact ⟨o', hk2 _ _ ho', hc'⟩
  refine wpAny_bind (wpAny_holding (hint_ok hT2 ?_))
  refine wpAny_ite_split (fun _ => ?_) (fun _ => ?_)
  · refine wpAny_bind (wpAny_rule ?_)
    refine wpAny_bind ?_
    show wpAny _ _ (updateSeq s.heap.objs.size (·.push .none) >>= fun _ => updateSeq s.heap.objs.size (·.pop)) _ _ _
    refine wpAny_bind (wpAny_updateSeq hL2 rfl ?_)
    have hL3 := Heap.get?_update_self (Obj.mapSeq (·.push Value.none)) hL2 rfl
    refine wpAny_updateSeq (hz := by seq_fits) hL3 rfl ?_
    have hL4 := Heap.get?_update_self (Obj.mapSeq (·.pop)) hL3 rfl
    refine wpAny_pure ⟨plainId_quiet PySem.F.plain_extend_loop _, codeAny_mono (key _ _ ?_ (fun b o hb e => ?_) hL4) fun q s' z => ?_⟩
    · refine (W A.in1 hh).frame 0 _ _ hst fun b hb o e => ?_
      have hbS : b ≠ s.heap.objs.size := fun z => hSf (z ▸ hb)
      exact (Heap.get?_update_other _ _ (Ne.symm hbS)).trans ((Heap.get?_update_other _ _ (Ne.symm hbS)).trans e)
    · exact (Heap.get?_update_other _ _ (Ne.symm hb)).trans ((Heap.get?_update_other _ _ (Ne.symm hb)).trans e)
    · obtain ⟨tk, h', rfl, rfl, zz⟩ := last q s' z
      exact zz
  · refine wpAny_pure ⟨plainId_quiet PySem.F.plain_extend_loop _, codeAny_mono (key _ _ hst (fun b o _ e => e) hL2) fun q s' z => ?_⟩
    obtain ⟨tk, h', rfl, rfl, zz⟩ := last q s' z
    exact zz
theorem ints_of_vals : ∀ {ks : List Int} {vs : List Value}, ValsOf ks vs → IntsAre vs ks
  | _, _, .nil => .nil
  | _, _, .cons ⟨t, e⟩ r => by subst e; exact .cons _ t (ints_of_vals r)
/-- sorted(set) -/
theorem sorted_set {a : Addr} {ks : List Int} {Q : Value → Shared → Prop} (hh : A.handled = none) (hS : SetR w s.heap a ks) (h64 : ks.length < 64)
    (h : ∀ (l : Addr) (h' : Heap) (tk : Nat) (d : Drawn) (out : List Value) (ns : List Int) (n : Nat), s.heap.objs.size ≤ l → (∀ b o, s.heap.get? b = some o → h'.get? b = some o) → h'.get? l = some { cls := .type "list", data := .seq out.toArray n } →
      IntsAre out ns → ns.Perm ks → ns.Pairwise (· ≤ ·) → Q (.ref l) { s with heap := h', toks := tk, drawn := d }) : wpAny (model prog w) A (call (.builtin "sorted") [.ref a]) Q E s := by
  refine Calls.call_function_entry kind_sorted plain_sorted entry_sorted (args_sorted1 _) ?_
  unfold Builtin.«sorted»
  refine wpAny_bind (m := checkCount "sorted" 1 1 _) (wpAny_pure ?_)
  refine wpAny_bind (collect_ok (A := A.in1) hh hS (by rw [sizeLine_eq]; omega) fun h1 tk d vs ls hge hk hv hp => ?_)
  have hI := ints_of_vals hv
  have hvl : vs.length = ks.length := by rw [← Paired.length hv, hp.length_eq]
  refine wpAny_bind (wpAny_newList ?_ (by rw [hvl, sizeLine_eq]; omega))
  have hoL : (h1.push { cls := .type "list", data := .seq vs.toArray }).get? h1.objs.size = some (seqObj "list" vs.toArray 0) := Heap.get?_push_size _ rfl
  refine wpAny_bind (wpAny_holding (wpAny_call_entry slot_list_sort ⟨_, hoL, rfl⟩ entry_list_sort (list_sort_tree hoL hI (by omega) fun out ns' a1 a2 a3 => ⟨_, rfl, ?_⟩) (args_list_sort _)))
  obtain ⟨n, e⟩ := sortedHeap_at (out := out) hoL
  refine wpAny_pure ⟨_, rfl, h h1.objs.size _ tk d out.toList ns' n (Nat.le_of_lt hge) (fun b o e => ?_) (by simpa using e) a1 (a2.trans hp) a3⟩
  have hb := hk b o e
  rw [sortedHeap_old (Nat.ne_of_lt (Heap.lt_size hb)) (by rw [Heap.size_push]; exact Nat.lt_succ_of_lt (Heap.lt_size hb))]
  exact Heap.get?_push_of_some _ hb
end
end Stb
end

section
set_option Elab.async false
set_option linter.unusedVariables false
set_option maxRecDepth 100000
namespace Stb
open PySem PyProof.Rows
/-- what has been put in so far: each int once -/
def met (val : Nat → Int) : Nat → List Int
  | 0 => []
  | i + 1 => if val i ∈ met val i then met val i else met val i ++ [val i]
theorem met_len (val : Nat → Int) : ∀ i, (met val i).length ≤ i
  | 0 => Nat.le_refl _
  | i + 1 => by
    have ih := met_len val i
    unfold met
    split
    · omega
    · rw [List.length_append, List.length_singleton]; omega
theorem met_mem (val : Nat → Int) (d : Int) : ∀ i, d ∈ met val i ↔ ∃ j, j < i ∧ val j = d
  | 0 => by simp [met]
  | i + 1 => by
    have ih := met_mem val d i
    have step : d ∈ met val (i + 1) ↔ d ∈ met val i ∨ d = val i := by
      show d ∈ (if val i ∈ met val i then met val i else met val i ++ [val i]) ↔ _
      split
      · rename_i hin
        constructor
        · exact .inl
        · rintro (z | rfl)
          · exact z
          · exact hin
      · simp
    rw [step, ih]
    constructor
    · rintro (⟨j, hj, e⟩ | rfl)
      · exact ⟨j, by omega, e⟩
      · exact ⟨i, by omega, rfl⟩
    · rintro ⟨j, hj, e⟩
      by_cases h : j = i
      · subst h; exact .inr e.symm
      · exact .inl ⟨j, by omega, e⟩
section
variable {prog : Program} {w : World} {A : Around}
theorem fill_ok {R : Result → Shared → Prop} {I : Addr} {fp wr : List Addr} {n : Nat} {P : Nat → Value → Prop} {St : Nat → Heap → Prop} (W : Walks prog w A.in1 I fp wr n P St) (S : Addr) (hSf : S ∉ fp)
    (val : Nat → Int) (hval : ∀ i v, P i v → ∃ t, v = .int (val i) t) (hb : n + 1 < scanBound) :
    ∀ (k i : Nat) (s : Shared), n - i = k → i ≤ n → St i s.heap → SetR w s.heap S (met val i) →
      (∀ h' tk, (∀ b o, b ∉ S :: wr → s.heap.get? b = some o → h'.get? b = some o) → SetR w h' S (met val n) → R (.ok (.ret .none)) { s with heap := h', toks := tk }) →
      codeAny (model prog w) A (.builtin "set.update.loop" ⟨[.ref S, .ref I], []⟩) R s := by
  have hSw : S ∉ wr := fun h => hSf (W.sub _ h)
  intro k
  induction k with
  | zero =>
    intro i s hk hi hst hS hR
    obtain rfl : i = n := by omega
    refine codeAny_builtin PyProof.Rows.F.entry_set_update_loop ?_
    rw [Around.under_plainId PyProof.Rows.F.plain_set_update_loop _]
    refine wpAny_bind (m := pyNext (.ref I)) (W.done s _ _ hst fun h' tk hk' => ?_)
    exact wpAny_pure (hR h' tk (fun b o hb e => hk' b o (fun z => hb (List.mem_cons_of_mem _ z)) e) (hS.at fun o e => hk' S o hSw e))
  | succ k ih =>
    intro i s hk hi hst hS hR
    have hlt : i < n := by omega
    refine codeAny_builtin PyProof.Rows.F.entry_set_update_loop ?_
    rw [Around.under_plainId PyProof.Rows.F.plain_set_update_loop _]
    refine wpAny_bind (m := pyNext (.ref I)) (W.item i s _ _ hlt hst fun v h1 tk1 hP hst1 hk1 => ?_)
    obtain ⟨t, rfl⟩ := hval i v hP
    show wpAny _ A.in1 (holding [Value.int (val i) t] (setAdd S (.int (val i) t)) >>= _) _ _ { s with heap := h1, toks := tk1 }
    refine wpAny_bind (wpAny_holding ?_)
    unfold setAdd
    refine wpAny_holding ?_
    refine wpAny_bind ((intKind prog w).pyHash (k := val i) (intKind_is _ _ _ _) ?_)
    have hroom : (met val i).length + 1 < scanBound := by have := met_len val i; omega
    refine add_ok (s := { s with heap := h1, toks := tk1 + 1 }) (hS.at fun o e => hk1 S o hSw e) hroom fun h2 b sb hS2 => ?_
    refine wpAny_pure ⟨plainId_quiet PyProof.Rows.F.plain_set_update_loop _, ih (i + 1) _ (by omega) hlt (W.frame _ h1 _ hst1 fun b hb o e => ?_) hS2 fun h3 tk3 hk3 hS3 => ?_⟩
    · exact sb.extBut b o (fun z => hSf (z ▸ hb)) e
    · refine hR h3 tk3 (fun b o hb e => hk3 b o hb (sb.extBut b o (fun z => hb (by rw [z]; exact List.mem_cons_self)) (hk1 b o (fun z => hb (List.mem_cons_of_mem _ z)) e))) hS3
variable {E : Value → Shared → Prop} {s : Shared}
theorem new_ok (a : Value) {Q₁ : Value → Shared → Prop}
    (h : Q₁ (.ref s.heap.objs.size) { s with heap := s.heap.push { cls := .type "set", dict := none, data := .set #[] 0 (.fresh 0 0 (!byTx w)) } }) :
    codeAny (model prog w) A (.call (.builtin "set.__new__") ⟨[.type "set", a], []⟩) (wants Q₁ E) s := by
  refine codeAny_of_tree ?_
  show wpAny _ A.in1 (do checkBuiltinCall "set.__new__" ⟨[.type "set", a], []⟩; again (.builtin "set.__new__" ⟨[.type "set", a], []⟩)) _ _ s
  refine wpAny_bind (wpAny_of_eq (PySem.F.newCall_set_1 a) (wpAny_pure ⟨plainId_quiet PySem.F.plain_set_new _, codeAny_builtin PySem.F.entry_set_new ?_⟩))
  rw [Around.under_plainId PySem.F.plain_set_new _]
  unfold Builtin.«set.__new__» Builtin.Frozenset.newClass
  have hsub := sub_set_self
  obtain ⟨hp, g, d, tk, os⟩ := s
  dsimp only
  wp_walk
  refine wpAny_askSetting (wpAny_pure ?_)
  dsimp only
  simp only [newObj]
  refine wpAny_bind (wpAny_alloc (wpAny_pure ?_))
  exact wpAny_pure h
set_option maxHeartbeats 3200000 in
/-- set(list of ints) -/
theorem set_list {l : Addr} {items : Array Value} {ns : List Int} {Q : Value → Shared → Prop} (hh : A.handled = none) (hl : s.heap.IsList l items) (hi : IntsAre items.toList ns) (hb : items.size + 1 < scanBound)
    (h : ∀ (h' : Heap) (tk : Nat), SetR w h' s.heap.objs.size (met (fun i => ns.getD i 0) items.size) → (∀ b o, s.heap.get? b = some o → h'.get? b = some o) → Q (.ref s.heap.objs.size) { s with heap := h', toks := tk }) :
    wpAny (model prog w) A (call (.type "set") [.ref l]) Q E s := by
  obtain ⟨c, tl, hmro⟩ := PySem.F.called_set.mro
  have hmade := PySem.F.called_set.made
  have hsub := PySem.F.called_set.sub
  refine wpAny_call (codeAny_of_tree ?_)
  show wpAny _ _ (callAny (.type "set") _) _ _ _
  refine wpAny_pure ⟨Code.quiet_builtin _ (by decide +kernel), codeAny_builtin PySem.F.entry_type_call ?_⟩
  rw [Around.under_plain (weight_type_call_type "set" [.ref l] []) rfl]
  have h1 := PySem.F.called_set.notType
  have h2 := PySem.F.called_set.canCreate
  have hct := PySem.F.typeCall_set_1 (.ref l)
  repeat (any_goals (first | assumption | wp_step))
  refine codeAny_mono (new_ok (.ref l) (E := E) (Q₁ := fun obj s₁ => obj = .ref s.heap.objs.size ∧ s₁ = { s with heap := s.heap.push { cls := .type "set", dict := none, data := .set #[] 0 (.fresh 0 0 (!byTx w)) } }) ⟨rfl, rfl⟩) fun r s₁ hr => ?_
  cases r with
  | error e => exact hr
  | ok fl =>
    cases fl with
    | ret obj =>
      obtain ⟨rfl, rfl⟩ := hr
      generalize hO : ({ cls := .type "set", dict := none, data := .set #[] 0 (.fresh 0 0 (!byTx w)) } : Obj) = O
      have hS : (s.heap.push O).get? s.heap.objs.size = some O := Heap.get?_push_size _ (by rw [← hO]; rfl)
      have hT : Shared.TypeIs { s with heap := s.heap.push O } (.ref s.heap.objs.size) "set" := ⟨_, hS, by rw [← hO]⟩
      have hR0 : SetR w (s.heap.push O) s.heap.objs.size [] := by
        refine ⟨O, #[], 0, .fresh 0 0 (!byTx w), [], hS, ?_, ?_, .nil, .rfl, List.nodup_nil, by decide, rfl, tab_fresh ?_⟩
        · rw [← hO]; exact ⟨rfl, rfl, rfl⟩
        · rw [← hO]
        · cases byTx w <;> simp
      have hsz : (s.heap.push O).objs.size = s.heap.objs.size + 1 := Heap.size_push ..
      have hk0 : ∀ b o, s.heap.get? b = some o → (s.heap.push O).get? b = some o := fun b o e => Heap.get?_push_of_some _ e
      generalize hH : s.heap.push O = H at hS hT hR0 hsz hk0 ⊢
      have hli := PySem.F.called_set.init.lookup
      have hbi := PySem.F.called_set.init.bind (.ref s.heap.objs.size)
      repeat (any_goals (first | assumption | wp_step))
      refine codeAny_mono (codeAny_call_builtin (R := wants (fun r s₂ => r = .none ∧ ∃ h' tk, s₂ = { s with heap := h', toks := tk } ∧ SetR w h' s.heap.objs.size (met (fun i => ns.getD i 0) items.size) ∧
          (∀ b o, s.heap.get? b = some o → h'.get? b = some o)) E) PySem.F.called_set.init.plain PySem.F.entry_set_init (check_set_init_1 hT ?_)) fun r₂ s₂ hr₂ => ?_
      · obtain ⟨ol, hol, hcl, nl, hdl⟩ := hl
        obtain ⟨ocls, odict, odata, oslots⟩ := ol
        simp only at hcl hdl
        subst hcl; subst hdl
        have hol' : H.get? l = some { cls := .type "list", dict := odict, data := .seq items nl, slots := oslots } := hk0 _ _ hol
        have hsls := PySem.F.sub_list_set
        have hslf := PySem.F.sub_list_frozenset
        have hne : (Value.type "list" == Value.type "dict") = false := by decide
        have hl1 : H.IsList l items := ⟨_, hol', rfl, nl, rfl⟩
        subst hO
        unfold Builtin.«set.__init__» noKeywords Builtin.Frozenset.updateFrom
        generalize hPI : pyIter = PI
        wp_walk
        subst hPI
        refine wpAny_pyIter_list (l := l) (items := items) ?hl ?_
        case hl => exact hl1
        refine wpAny_bind (wpAny_runValue ?_)
        have hlS : l < s.heap.objs.size := Heap.lt_size hol
        have hh3 : A.in1.in1.in1.handled = none := by simp [hh]
        have hneI : l ≠ H.objs.size := by rw [hsz]; exact Nat.ne_of_lt (Nat.lt_succ_of_lt hlS)
        have hSf : s.heap.objs.size ∉ [H.objs.size, l] := by
          rw [hsz]; simp only [List.mem_cons, List.not_mem_nil, or_false, not_or]
          exact ⟨Nat.ne_of_lt (Nat.lt_succ_self _), Nat.ne_of_gt hlS⟩
        have hval : ∀ (i : Nat) (v : Value), items[i]? = some v → ∃ t, v = .int ((fun i => ns.getD i 0) i) t := fun i v hv =>
          PyProof.Rows.IntsAre.int_at hi i v (by rw [Array.getElem?_toList]; exact hv)
        refine fill_ok (Walks.list hh3 _ l hneI items) s.heap.objs.size hSf (fun i => ns.getD i 0) hval hb (items.size - 0) 0 _ (by omega) (Nat.zero_le _) ⟨⟨_, Heap.get?_push_size _ rfl, rfl, rfl⟩, hl1.push _⟩ ?hS0 ?hR
        case hS0 => exact hR0.at fun o e => Heap.get?_push_of_some _ e
        case hR =>
          intro h' tk hk hS'
          show wpAny _ _ _ _ _ _
          refine wpAny_pure ?_
          show wpAny _ _ (ret Value.none) _ _ _
          refine wpAny_pure ⟨rfl, h', tk, rfl, hS', fun b o e => ?_⟩
          have hb := Heap.lt_size e
          refine hk b o (fun z => ?_) (Heap.get?_push_of_some _ (hk0 _ _ e))
          simp only [List.mem_cons, List.not_mem_nil, or_false] at z
          rcases z with z | z
          · exact Nat.ne_of_lt hb z
          · rw [z] at hb
            have hb' : H.objs.size < s.heap.objs.size := hb
            rw [hsz] at hb'
            exact absurd hb' (Nat.not_lt.mpr (Nat.le_succ _))
      · cases r₂ with
        | error e => exact hr₂
        | ok fl₂ =>
          cases fl₂ with
          | ret r =>
            obtain ⟨rfl, h', tk, rfl, hS', hk'⟩ := hr₂
            repeat (any_goals (first | assumption | wp_step))
            exact h _ _ hS' hk'
          | _ => exact hr₂.elim
    | _ => exact hr.elim
end
end Stb
end

section
set_option Elab.async false
set_option linter.unusedVariables false
set_option maxRecDepth 100000
set_option maxHeartbeats 1000000
/-! LIST COMPREHENSIONS for the hand layer: [e for x in it if c ..], one clause, a plain name, no exception within. -/
namespace L2
open PySem PySem.Spec PyProof.Rows
/-! ### what a block takes from around -/
def closGo (env : Env) (l : List (Str × NameKind)) (cs : List (Str × Addr)) : Sem (List (Str × Addr)) := do
  let mut cs := cs
  for (name, kind) in l do
    if kind == .free then cs := (name, ← cellOf env name) :: cs
  return cs
theorem closGo_nil (env : Env) (cs : List (Str × Addr)) : closGo env [] cs = pure cs := by simp [closGo]
theorem closGo_free {env : Env} {n : Str} {c : Addr} {r : List (Str × NameKind)} {cs : List (Str × Addr)} (h : env.cells.lookup n = some c) : closGo env ((n, .free) :: r) cs = closGo env r ((n, c) :: cs) := by
  have e : cellOf env n = pure c := by unfold cellOf; rw [h]
  simp [closGo, e]
theorem closGo_other {env : Env} {n : Str} {k : NameKind} {r : List (Str × NameKind)} {cs : List (Str × Addr)} (h : k ≠ .free) : closGo env ((n, k) :: r) cs = closGo env r cs := by
  simp [closGo, h]
theorem clos_of {env : Env} : ∀ (l : List (Str × NameKind)) (cs : List (Str × Addr)), (∀ y ∈ l, y.2 = .free → ∃ c, env.cells.lookup y.1 = some c) → (∀ y c, cs.lookup y = some c → env.cells.lookup y = some c) →
    ∃ cl, closGo env l cs = pure cl ∧ (∀ y c, cl.lookup y = some c → env.cells.lookup y = some c) ∧ (∀ y, (∃ c, cs.lookup y = some c) → ∃ c, cl.lookup y = some c) ∧ (∀ y, (y, NameKind.free) ∈ l → ∃ c, cl.lookup y = some c)
  | [], cs, _, h => ⟨cs, closGo_nil env cs, h, fun _ z => z, fun _ z => by cases z⟩
  | (n, k) :: r, cs, hl, h => by
    by_cases hk : k = .free
    · subst hk
      obtain ⟨c, hc⟩ := hl (n, .free) List.mem_cons_self rfl
      obtain ⟨cl, h1, h2, h3, h4⟩ := clos_of r ((n, c) :: cs) (fun y hy => hl y (List.mem_cons_of_mem _ hy)) (fun y c' e => by
        rw [List.lookup_cons] at e
        split at e
        · rename_i z
          cases e
          rw [beq_iff_eq.mp z]
          exact hc
        · exact h y c' e)
      have hup : ∀ y, (∃ c, cs.lookup y = some c) → ∃ c', ((n, c) :: cs).lookup y = some c' := fun y ⟨c', e⟩ => by
        rw [List.lookup_cons]
        split
        · exact ⟨_, rfl⟩
        · exact ⟨c', e⟩
      refine ⟨cl, by rw [closGo_free hc]; exact h1, h2, fun y z => h3 y (hup y z), fun y hy => ?_⟩
      rcases List.mem_cons.mp hy with e | hy
      · cases e
        exact h3 _ ⟨c, by rw [List.lookup_cons, beq_self_eq_true]⟩
      · exact h4 y hy
    · obtain ⟨cl, h1, h2, h3, h4⟩ := clos_of r cs (fun y hy => hl y (List.mem_cons_of_mem _ hy)) h
      refine ⟨cl, by rw [closGo_other hk]; exact h1, h2, h3, fun y hy => ?_⟩
      rcases List.mem_cons.mp hy with e | hy
      · cases e; exact absurd rfl hk
      · exact h4 y hy
/-- the context of a comprehension's block -/
abbrev blk (X : Cx) (N : List Str) (sc : Scope) (cl : List (Str × Addr)) (C : Addr) (s : Shared) (H : Hp) (ex : List Addr) : Cx :=
  { X with N := N, s₀ := s, H₀ := H, env := compEnvC sc cl C X.env, outer := X.stack, ex := ex, fn := fun _ => false, pn := [], xe := fun _ _ => False }
/-- the block's names' values: the variable, then what is taken from around -/
def sub (σ : St) (fr : List Nat) (o : Option V) : St := o :: fr.map fun i => (σ[i]?).join
/-- what a comprehension asks of its scope: x is its variable, names those from around, fr the slots of these; N, osc: the names and the scope around it -/
structure LcScope (N : List Str) (osc : Scope) (x : Str) (names : List Str) (fr : List Nat) (sc : Scope) : Prop where
  kind : sc.kind = .function
  nocell : ∀ y ∈ sc.names, y.2 ≠ .cell
  loc : ∀ y ∈ sc.names, y.2 = .local → sc.names.lookup y.1 = some .local
  var : sc.names.lookup x = some .local
  free : ∀ y ∈ sc.names, y.2 = .free → osc.names.lookup y.1 = some .cell ∨ osc.names.lookup y.1 = some .free
  flk : ∀ y ∈ sc.names, y.2 = .free → sc.names.lookup y.1 = some .free
  nd : (x :: names).Nodup
  len : fr.length = names.length
  taken : ∀ p ∈ names.zip fr, N[p.2]? = some p.1 ∧ (p.1, NameKind.free) ∈ sc.names
theorem LcScope.from_ {N : List Str} {osc sc : Scope} {x : Str} {names : List Str} {fr : List Nat} (S : LcScope N osc x names fr sc) (j : Nat) (y : Str) (h : names[j]? = some y) : ∃ i, fr[j]? = some i ∧ N[i]? = some y ∧ (y, NameKind.free) ∈ sc.names := by
  have hj : j < names.length := (List.getElem?_eq_some_iff.mp h).1
  have hj2 : j < fr.length := by rw [S.len]; exact hj
  have z : (names.zip fr)[j]? = some (y, fr[j]) := by rw [List.getElem?_zip_eq_some]; exact ⟨h, List.getElem?_eq_getElem hj2⟩
  obtain ⟨h1, h2⟩ := S.taken _ (List.mem_of_getElem? z)
  exact ⟨fr[j], List.getElem?_eq_getElem hj2, h1, h2⟩
/-- the tests of a clause -/
def PIfs (X : Cx) (ifs : List Expr) (t : TT) : Prop :=
  ∀ (pins : List (Addr × Obj)) (s : Shared) (σ : St) (H : Hp) (Q : Bool → Hp → Prop), Inv X pins σ H s → t σ H Q →
    wpAny (model X.prog X.w) X.A (forIn ifs true fun c r => if r = true then do let ok ← isTrue c X.env (eval c X.env); pure (ForInStep.yield ok) else pure (ForInStep.yield r)) (TP X pins σ Q) X.xe s
def tYes : TT := fun _ H Q => Q true H
theorem pifs_nil {X : Cx} : PIfs X [] tYes := fun pins s σ H Q I h => by
  simp only [List.forIn_nil]
  exact wpAny_pure ⟨H, I, h⟩
theorem pifs_one {X : Cx} {c : Expr} {tc : TT} (hc : PT X c tc) : PIfs X [c] tc := fun pins s σ H Q I h => by
  simp only [List.forIn_cons, List.forIn_nil, if_true, bind_assoc, pure_bind]
  refine wpAny_bind (thn (hc pins s σ H Q I h) fun b s1 z => ?_)
  exact wpAny_pure z
/-- what is to be shown of a comprehension: W by the turn, a measure and what has been gathered -/
def LcOk (J : It) (fr : List Nat) (tif : TT) (te : TE) (σ : St) (D : Addr) (Q : VK) (H2 : Hp) : Prop :=
  ∃ W : Nat → Nat → List V → Hp → Prop, (∃ m, W 0 m [] H2) ∧ ∀ i m ys H, W i m ys H → H D = some (.lst ys) ∧
    ((J.stop i H ∧ Q (.ref D) H) ∨ (J.go i H ∧ ∀ v H', J.yld i H v H' → tif (sub σ fr (some v)) H' fun b H3 =>
      if b = true then te (sub σ fr (some v)) H3 fun y H4 => ys.length < sizeLine ∧ H4 D = some (.lst ys) ∧ ∃ m', m' < m ∧ W (i + 1) m' (ys ++ [y]) (upd H4 D (.lst (ys ++ [y])))
      else ∃ m', m' < m ∧ W (i + 1) m' ys H3))
def tLc (wi : TI) (fr : List Nat) (tif : TT) (te : TE) : TE := fun σ H Q => wi σ H fun J H1 => ∀ D, H1 D = none → LcOk J fr tif te σ D Q (upd H1 D (.lst []))
theorem relabel_go {env : Env} : ∀ {names : List (Str × NameKind)} {y : Str}, names.lookup y = some .free →
    (names.map fun (n, k) => if (k == NameKind.free && env.scope.kind == .function && env.kindOf n == some .cell) then (n, NameKind.cell) else (n, k)).lookup y = some .cell ∨
    (names.map fun (n, k) => if (k == NameKind.free && env.scope.kind == .function && env.kindOf n == some .cell) then (n, NameKind.cell) else (n, k)).lookup y = some .free
  | [], _, h => by simp at h
  | (n, k) :: r, y, h => by
    have ih := @relabel_go env r y
    rw [List.map_cons]
    dsimp only
    cases hy : y == n with
    | true =>
      rw [List.lookup_cons, hy] at h
      cases h
      split
      · left; rw [List.lookup_cons, hy]
      · right; rw [List.lookup_cons, hy]
    | false =>
      rw [List.lookup_cons, hy] at h
      split
      · rw [List.lookup_cons, hy]; exact ih h
      · rw [List.lookup_cons, hy]; exact ih h
theorem relabel_free {env : Env} {sc : Scope} {y : Str} (h : sc.names.lookup y = some .free) : (relabel sc env).names.lookup y = some .cell ∨ (relabel sc env).names.lookup y = some .free := relabel_go h
section
variable {X : Cx} {pins : List (Addr × Obj)} {σ : St} {H : Hp} {s : Shared}
/-- the turns of the loop, whatever the target -/
theorem loop_any {prog : Program} {w : World} {A : Around} {R : Result → Shared → Prop} {s : Shared} {elt target iter : Expr} {ifs : List Expr} {scope : Scope} {pos : Pos} {it acc : Value} {env : Env} (I : Nat → Shared → Prop)
    (turn : ∀ n s, I n s → wpAny (model prog w) A (pyNext it) (fun r s₁ => match r with
      | none => R (.ok .next) s₁
      | some v => wpAny (model prog w) A (letOwnedTupleGo target it v) (fun _ s₁' => wpAny (model prog w) A (assign target env v) (fun _ s₂ =>
          wpAny (model prog w) A (forIn ifs true fun c r => if r = true then do let ok ← isTrue c env (eval c env); pure (ForInStep.yield ok) else pure (ForInStep.yield r)) (fun ok s₃ =>
            if ok = true then wpAny (model prog w) A (eval elt env) (fun x s₄ =>
              wpAny (model prog w) A (call (.builtin "list.append") [acc, x]) (fun _ s₅ => ∃ m, m < n ∧ I m s₅) (fun _ _ => False) s₄) (fun _ _ => False) s₃
            else ∃ m, m < n ∧ I m s₃) (fun _ _ => False) s₂) (fun _ _ => False) s₁') (fun _ _ => False) s₁) (fun _ _ => False) s)
    (n : Nat) (h : I n s) : codeAny (model prog w) A (.compLoop (.ListComp elt [⟨target, iter, ifs, 0⟩] scope pos) 0 it acc env) R s := by
  refine codeAny_loop rfl I (fun n s hI => ?_) n h
  show wpAny _ A ((compTurn (.ListComp elt [⟨target, iter, ifs, 0⟩] scope pos) 0 it acc env).onRaise (fun x => do noteFrame x env; theTreesLotGoes x)) _ _ s
  refine wpAny_noted ?_
  rw [compTurn_list]
  refine wpAny_bind (wpAny_standAt (wpAny_bind (wpAny_mono (turn n s hI) (fun r s₁ h₁ => ?_) fun _ _ z => z.elim)))
  cases r with
  | none => exact wpAny_pure h₁
  | some v =>
    refine wpAny_bind (wpAny_mono h₁ (fun _ s₁' h₁' => ?_) fun _ _ z => z.elim)
    refine wpAny_bind (wpAny_mono h₁' (fun _ s₂ h₂ => wpAny_bind (wpAny_mono h₂ (fun ok s₃ h₃ => ?_) fun _ _ z => z.elim)) fun _ _ z => z.elim)
    cases ok with
    | false => exact wpAny_pure ⟨rfl, h₃⟩
    | true =>
      refine wpAny_bind (wpAny_bind (wpAny_mono h₃ (fun x s₄ h₄ => wpAny_bind (wpAny_mono h₄ (fun _ s₅ h₅ => ?_) fun _ _ z => z.elim)) fun _ _ z => z.elim))
      exact wpAny_pure (wpAny_pure ⟨rfl, h₅⟩)

/-- the block runs: behind it the outer context holds again -/
theorem lc_run {elt iter : Expr} {x : Str} {px : Pos} {ifs : List Expr} {sc : Scope} {pos : Pos} {names : List Str} {fr : List Nat} {tif : TT} {te : TE} {cl : List (Str × Addr)} {E : Value → Shared → Prop} (S : LcScope X.N X.env.scope x names fr sc) (hc : X.calm = true)
    (hcl1 : ∀ y c, cl.lookup y = some c → X.env.cells.lookup y = some c) (hcl2 : ∀ y, (y, NameKind.free) ∈ sc.names → ∃ c, cl.lookup y = some c)
    (hif : ∀ cl C s H ex, PIfs (blk X (x :: names) sc cl C s H ex) ifs tif) (he : ∀ cl C s H ex, PE (blk X (x :: names) sc cl C s H ex) elt te)
    {J : It} {it : Addr} {fp : List Addr} {tn : Nat → Heap → Prop} {Q : VK} (I : Inv X pins σ H s) (T : Turn X.prog X.w X.K (.Name x px) J fp it tn) (st : tn 0 s.heap) (hf : ∀ b ∈ fp, FpOk X pins H b)
    (q : ∀ D, H D = none → LcOk J fr tif te σ D Q (upd H D (.lst []))) {RR : Value → Addr → Result → Shared → Prop}
    (hRR : ∀ D C s' H', Inv X pins σ H' s' → H' C = none → C ≠ X.env.locals → X.s₀.heap.objs.size ≤ C → (∀ y c, X.env.cells.lookup y = some c → c ≠ C) → (∀ p ∈ X.pn ++ pins, p.1 ≠ C) → (∃ m, s'.heap.Ns C m) → Q (.ref D) H' → RR (.ref D) C (.ok .next) s') :
    wpAny (model X.prog X.w) X.A (newList []) (fun acc s₃ => wpAny (model X.prog X.w) X.A (newFunctionEnv sc X.env.globals cl [] X.env.qual none .none (some X.env)) (fun cenv s₄ =>
      codeAny (model X.prog X.w) X.A (.compStart (.ListComp elt [⟨.Name x px, iter, ifs, 0⟩] sc pos) 0 (.ref it) acc { cenv with scope := relabel sc X.env }) (RR acc cenv.locals) s₄) E s₃) E s := by
  refine wpAny_newObj_type (wpAny_newFunctionEnv S.nocell (by intro y hy; simp at hy) (fun h₁ hns hsb => ?_) S.kind)
  dsimp only at hns hsb ⊢
  have I3 : Inv X pins σ (upd H s.heap.objs.size (.lst [])) { s with heap := s.heap.push { cls := .type "list", dict := none, data := .seq ([] : List Value).toArray } } := I.lnew (t' := s.toks) (ys := []) (its := []) .nil (Nat.zero_le _)
  have hfD := I.fresh
  obtain ⟨W, ⟨m0, w0⟩, turn⟩ := q s.heap.objs.size hfD
  have objs : ∀ b ∈ fp, ∃ o, s.heap.get? b = some o ∧ ∀ v, o.data ≠ .cell v := T.obj 0 _ st
  have hG : (s.heap.push { cls := .type "list", dict := none, data := .seq ([] : List Value).toArray }).objs.size = s.heap.objs.size + 1 := Heap.size_push ..
  have kG : ∀ b o, s.heap.get? b = some o → (s.heap.push { cls := .type "list", dict := none, data := .seq ([] : List Value).toArray }).get? b = some o := fun b o e => Heap.get?_push_of_some _ e
  generalize hGe : s.heap.push { cls := .type "list", dict := none, data := .seq ([] : List Value).toArray } = G at hns hsb I3 hG kG ⊢
  generalize hDe : s.heap.objs.size = D at hfD turn w0 hG I3 ⊢
  have keep : ∀ b o, G.get? b = some o → h₁.get? b = some o := fun b o e => hsb.extBut b o (Nat.ne_of_lt (Heap.lt_size e)) (Heap.get?_push_of_some _ e)
  have fpC : ∀ b ∈ fp, b ≠ G.objs.size := fun b hb => by
    obtain ⟨o, e, _⟩ := objs b hb
    exact Nat.ne_of_lt (Heap.lt_size (kG b o e))
  have cellC : ∀ y c, X.env.cells.lookup y = some c → c ≠ G.objs.size := fun y c e => by
    obtain ⟨v, z⟩ := I3.cell y c e
    exact Nat.ne_of_lt z.lt
  have okY : (blk X (x :: names) sc cl G.objs.size { s with heap := G } (upd H D (.lst [])) fp).Ok := by
    refine ⟨I.ok.mod, ?_, I.ok.glob, I.ok.blt, Nat.le_refl _, ?_, ?_, ?_, I.ok.hd, I.ok.frames, .inl rfl, ?_, I3.bs, Nat.le_trans I.ok.bsz I3.sz, ?_, ?_, I3.stack, I3.stkFree⟩
    · show (relabel sc X.env).kind = .function
      exact S.kind
    · exact fun y z c h1 h2 => I.ok.inj y z c (hcl1 y c h1) (hcl1 z c h2)
    · intro y hy
      have hy' : (relabel sc X.env).names.lookup y = some .cell ∨ (relabel sc X.env).names.lookup y = some .free := hy
      have hm : (y, NameKind.cell) ∈ (relabel sc X.env).names ∨ (y, NameKind.free) ∈ (relabel sc X.env).names := hy'.imp PySem.mem_of_lookup PySem.mem_of_lookup
      have hfr : (y, NameKind.free) ∈ sc.names := by
        rcases hm with hm | hm
        · obtain ⟨⟨n, k⟩, hn, e⟩ := List.mem_map.mp (show (y, NameKind.cell) ∈ sc.names.map _ from hm)
          dsimp only at e
          split at e
          · rename_i hcond
            cases e
            have : k = .free := by
              simp only [Bool.and_eq_true, beq_iff_eq] at hcond
              exact hcond.1.1
            rw [this] at hn; exact hn
          · cases e
            exact absurd rfl (S.nocell _ hn)
        · obtain ⟨⟨n, k⟩, hn, e⟩ := List.mem_map.mp (show (y, NameKind.free) ∈ sc.names.map _ from hm)
          dsimp only at e
          split at e
          · cases e
          · cases e; exact hn
      exact hcl2 y hfr
    · exact fun y c h _ => by cases h
    · intro b hb
      exact ⟨fpC b hb, fun y c e => (hf b hb).2.2.2.2.1 y c (hcl1 y c e)⟩
    · intro b o e hb
      obtain ⟨f0, f1, f2, f3, f4, f5⟩ := hf b hb
      rcases f3 with z | z
      · exact I.ok.noex b o e z
      · exact absurd (Nat.lt_of_lt_of_le (Heap.lt_size e) (Nat.le_trans I.ok.bsz z)) (Nat.lt_irrefl _)
    · intro b hb z
      obtain ⟨f0, f1, f2, f3, f4, f5⟩ := hf b hb
      rcases List.mem_cons.mp (I.stkSub b z) with z | z
      · exact f1 z
      · exact f2 z
  have IY : Inv (blk X (x :: names) sc cl G.objs.size { s with heap := G } (upd H D (.lst [])) fp) [] (sub σ fr none) (upd H D (.lst [])) { s with heap := h₁, toks := s.toks + ([] : List (Str × Value)).length } := by
    refine ⟨okY, rfl, I.bare, Un.kept keep, ⟨_, hns, ?_⟩, ?_, I3.hok.fresh (Nat.le_refl _), fun y c e => I3.freeC y c (hcl1 y c e), fun p hp => absurd (show p ∈ ([] : List (Addr × Obj)) from hp) (by simp), I3.hok.kept keep, ?_⟩
    · intro i y v h1 h2 h3
      cases i with
      | zero => cases h2
      | succ j =>
        have h1' : names[j]? = some y := h1
        obtain ⟨i', e1, e2, e3⟩ := S.from_ j y h1'
        have h2' : σ[i']? = some (some v) := by
          have z : (fr.map fun i => (σ[i]?).join)[j]? = some (some v) := h2
          rw [List.getElem?_map, e1] at z
          have z' : (σ[i']?).join = some v := Option.some.inj z
          cases q : σ[i']? with
          | none => rw [q] at z'; cases z'
          | some o => rw [q] at z'; rw [show o = some v from z']
        obtain ⟨m, hn, hl⟩ := I3.loc
        have hvis : Vis X.env.scope y := .inr (S.free _ e3 rfl)
        obtain ⟨u, ru, lk⟩ := hl i' y v e2 h2' hvis
        refine ⟨u, ru, .inr ⟨?_, ?_⟩⟩
        · exact relabel_free (S.flk _ e3 rfl)
        · rcases lk with ⟨k, _⟩ | ⟨k, c, e, z⟩
          · rcases S.free _ e3 rfl with z | z
            · have z' : X.env.kindOf y = some .cell := z
              rw [k] at z'; cases z'
            · have z' : X.env.kindOf y = some .free := z
              rw [k] at z'; cases z'
          · obtain ⟨c', e'⟩ := hcl2 y e3
            have := hcl1 y c' e'
            rw [e] at this; cases this
            exact ⟨c, e', z.keeps keep⟩
    · intro y c e
      obtain ⟨v, z⟩ := I3.cell y c (hcl1 y c e)
      exact ⟨v, z.keeps keep⟩
    · show (sub σ fr none).length = (x :: names).length
      simp [sub, S.len]

  have back : ∀ {o : Option V} {H' : Hp} {s' : Shared} {pl : List (Addr × Obj)}, Inv (blk X (x :: names) sc cl G.objs.size { s with heap := G } (upd H D (.lst [])) fp) pl (sub σ fr o) H' s' → Inv X pins σ H' s' := fun {o H' s' pl} I' =>
    I3.call' (ch := fp) I'.os I'.base I'.hok I'.bare fun b hb => by
      obtain ⟨f0, f1, f2, f3, f4, f5⟩ := hf b hb
      exact ⟨f3, f1, f4, f5⟩
  have stat : ∀ {H' : Hp}, (∀ b ∈ fp, H' b = none) → ∀ b ∈ fp, FpOk (blk X (x :: names) sc cl G.objs.size { s with heap := G } (upd H D (.lst [])) fp) [] H' b := fun {H'} hn b hb => by
    obtain ⟨f0, f1, f2, f3, f4, f5⟩ := hf b hb
    refine ⟨hn b hb, fpC b hb, fun z => ?_, .inl hb, fun y c e => f4 y c (hcl1 y c e), fun p hp => absurd (show p ∈ ([] : List (Addr × Obj)) from hp) (by simp)⟩
    rcases List.mem_cons.mp (I.stkSub b z) with z | z
    · exact f1 z
    · exact f2 z
  have fp0 : ∀ b ∈ fp, upd H D (.lst []) b = none := fun b hb => by
    obtain ⟨o, e, _⟩ := objs b hb
    have hne : b ≠ D := by rw [← hDe]; exact Nat.ne_of_lt (Heap.lt_size e)
    rw [upd_ne hne]
    exact (hf b hb).1
  have st1 : tn 0 h₁ := T.keep 0 _ _ st fun b hb o e => keep b o (kG b o e)
  have run : codeAny (model X.prog X.w) X.A (.compLoop (.ListComp elt [⟨.Name x px, iter, ifs, 0⟩] sc pos) 0 (.ref it) (.ref D) (compEnvC sc cl G.objs.size X.env)) (RR (.ref D) G.objs.size) { s with heap := h₁, toks := s.toks + ([] : List (Str × Value)).length } := by
    refine loop_any (fun n s' => ∃ i ys o H', Inv (blk X (x :: names) sc cl G.objs.size { s with heap := G } (upd H D (.lst [])) fp) [] (sub σ fr o) H' s' ∧ tn i s'.heap ∧ (∀ b ∈ fp, H' b = none) ∧ W i n ys H') ?_ m0
      ⟨0, [], none, _, IY, st1, fp0, w0⟩
    rintro n s' ⟨i, ys, o, H', I', st', fr', w'⟩
    obtain ⟨hD, alt⟩ := turn i n ys H' w'
    rcases alt with ⟨stop, qn⟩ | ⟨go, step⟩
    · refine thn (T.done (blk X (x :: names) sc cl G.objs.size { s with heap := G } (upd H D (.lst [])) fp) rfl rfl rfl hc i [] s' _ H' (fun _ _ => False) I' (stat fr') st' stop) fun r s1 ⟨hr, I1⟩ => ?_
      subst hr
      obtain ⟨mC, hmC, _⟩ := I1.loc
      exact hRR D G.objs.size s1 H' (back I1) I1.free (Nat.ne_of_gt I3.lt) I3.sz cellC (fun p hp => Nat.ne_of_lt (Heap.lt_size (I3.pin p hp).1)) ⟨mC, hmC⟩ qn
    · refine thn (T.item (blk X (x :: names) sc cl G.objs.size { s with heap := G } (upd H D (.lst [])) fp) rfl rfl rfl hc i [] s' _ H' (fun _ _ => False) I' (stat fr') st' go) fun r s1 ⟨u, hr, h1⟩ => ?_
      subst hr
      refine thn h1 fun _ s2 ⟨v, H2, I2, rv, yl, st2, fr2⟩ => ?_
      have I2' := I2.pinned (stat fr2) (T.obj _ _ st2)
      have pg : PG (blk X (x :: names) sc cl G.objs.size { s with heap := G } (upd H D (.lst [])) fp) (.Name x px) (gName 0) := pg_name S.nd rfl (.inl (lookup_relabel_local S.var)) (.inr (lookup_relabel_local S.var))
      have pinOk : ∀ {o : Option V} {H3 : Hp} {s3 : Shared}, Inv (blk X (x :: names) sc cl G.objs.size { s with heap := G } (upd H D (.lst [])) fp) ([] ++ pinsAt fp s2.heap) (sub σ fr o) H3 s3 → tn (i + 1) s3.heap ∧ ∀ b ∈ fp, H3 b = none := fun {o H3 s3} J3 => by
        refine ⟨T.keep _ _ _ st2 fun b hb ob e => (J3.pin (b, ob) (List.mem_append_right _ (List.mem_append_right _ (mem_pinsAt hb e)))).1, fun b hb => ?_⟩
        obtain ⟨ob, e, _⟩ := T.obj _ _ st2 b hb
        exact (J3.pin (b, ob) (List.mem_append_right _ (List.mem_append_right _ (mem_pinsAt hb e)))).2.1
      refine thn (pg _ s2 _ H2 v u (fun σ' H'' => σ' = sub σ fr (some v) ∧ H'' = H2) I2' rv ⟨rfl, rfl⟩) fun _ s3 ⟨σ3, H3, I3', e3, e3'⟩ => ?_
      subst e3
      subst e3'
      refine thn (hif cl G.objs.size { s with heap := G } (upd H D (.lst [])) fp _ s3 _ _ _ I3' (step v _ yl)) fun b s4 ⟨H4, I4, q4⟩ => ?_
      cases b with
      | false =>
        have q4' : ∃ m', m' < n ∧ W (i + 1) m' ys H4 := q4
        obtain ⟨m', hm, w4⟩ := q4'
        obtain ⟨z1, z2⟩ := pinOk I4
        show ∃ m, m < n ∧ _
        exact ⟨m', hm, i + 1, ys, some v, H4, I4.unpinned, z1, z2, w4⟩
      | true =>
        have q4' : te (sub σ fr (some v)) H4 fun y H5 => ys.length < sizeLine ∧ H5 D = some (.lst ys) ∧ ∃ m', m' < n ∧ W (i + 1) m' (ys ++ [y]) (upd H5 D (.lst (ys ++ [y]))) := q4
        show wpAny _ _ _ _ _ _
        refine thn (he cl G.objs.size { s with heap := G } (upd H D (.lst [])) fp _ s4 _ _ _ I4 q4') fun ue s5 ⟨y, H5, I5, r5, hl, hD5, m', hm, w5⟩ => ?_
        refine thn (mt_append _ s5 _ H5 (.ref D) [y] (.ref D) [ue] (fun _ H6 => H6 = upd H5 D (.lst (ys ++ [y]))) I5 rfl (.cons r5 .nil) ⟨D, ys, y, rfl, rfl, hD5, hl, rfl⟩) fun _ s6 ⟨_, H6, I6, _, e6⟩ => ?_
        subst e6
        obtain ⟨z1, z2⟩ := pinOk I6
        exact ⟨m', hm, i + 1, ys ++ [y], some v, _, I6.unpinned, z1, z2, w5⟩
  exact codeAny_compStart_list run (T.self _ 0 _ _ _ st1 run)
theorem lc_clos {sc : Scope} {x : Str} {names : List Str} {fr : List Nat} (S : LcScope X.N X.env.scope x names fr sc) (I : Inv X pins σ H s) :
    ∃ cl, closureFor sc X.env = pure cl ∧ (∀ y c, cl.lookup y = some c → X.env.cells.lookup y = some c) ∧ (∀ y, (y, NameKind.free) ∈ sc.names → ∃ c, cl.lookup y = some c) := by
  obtain ⟨cl, c1, c2, _, c4⟩ := clos_of (env := X.env) sc.names [] (fun y hy hk => I.ok.has y.1 (S.free y hy hk)) (fun y c e => by simp at e)
  exact ⟨cl, c1, c2, c4⟩
end
section
variable {X : Cx} {elt iter : Expr} {x : Str} {px : Pos} {ifs : List Expr} {sc : Scope} {pos : Pos} {names : List Str} {fr : List Nat} {wi : TI} {tif : TT} {te : TE}
/-- [elt for x in iter if ..], as a value -/
theorem pe_lc (S : LcScope X.N X.env.scope x names fr sc) (hc : X.calm = true) (hi : PI X (.Name x px) iter wi) (hif : ∀ cl C s H ex, PIfs (blk X (x :: names) sc cl C s H ex) ifs tif)
    (he : ∀ cl C s H ex, PE (blk X (x :: names) sc cl C s H ex) elt te) (hs : ∀ v, foldedSetIterable iter X.env v = pure v := by intro _; rfl) : PE X (.ListComp elt [⟨.Name x px, iter, ifs, 0⟩] sc pos) (tLc wi fr tif te) := by
  intro pins s σ H Q I h
  obtain ⟨cl, c1, c2, c4⟩ := lc_clos S I
  rw [eval_ListComp]
  refine wpAny_comprehension_free (use := none) rfl hs c1 S.kind S.loc (thn (hi pins s σ H _ I h) fun v s1 h1 => thn h1 fun itv s2 h2 => ?_)
  obtain ⟨it, fp, tn, J, H1, rfl, I1, T, st, hf, q⟩ := h2
  refine lc_run (RR := fun acc C => compPost (model X.prog X.w) X.A X.xe none (EP X pins σ Q) acc C) S hc c2 c4 hif he I1 T st hf q ?_
  intro D C s' H' I' h1 h2 h3 h4 h5 hm hq
  obtain ⟨m, hm⟩ := hm
  exact ⟨m, hm, fun h' sb => ⟨.ref D, H', I'.turned (t' := s'.toks) (fun b o hb e => (sb.2 b hb).trans e) h1 (Ne.symm (Ne.symm h2)) (.inr h3) h4 h5, rfl, hq⟩⟩
/-- y = [elt for x in iter if ..], y a local name on the same row -/
theorem ps_lc {i : Nat} {y : Str} {py spos : Pos} (S : LcScope X.N X.env.scope x names fr sc) (hc : X.calm = true) (hN : X.N.Nodup) (hy : X.N[i]? = some y) (hl : X.env.scope.names.lookup y = some .local) (hi : PI X (.Name x px) iter wi)
    (hif : ∀ cl C s H ex, PIfs (blk X (x :: names) sc cl C s H ex) ifs tif) (he : ∀ cl C s H ex, PE (blk X (x :: names) sc cl C s H ex) elt te)
    (hsw : swapsWith (.ListComp elt [⟨.Name x px, iter, ifs, 0⟩] sc pos) (some (.Name y py)) spos.line X.env = pure true := by rfl) (hs : ∀ v, foldedSetIterable iter X.env v = pure v := by intro _; rfl) :
    PS X (.Assign [.Name y py] (.ListComp elt [⟨.Name x px, iter, ifs, 0⟩] sc pos) spos) (tAsg (tLc wi fr tif te) (gName i)) := by
  intro pins s σ H D I h
  obtain ⟨cl, c1, c2, c4⟩ := lc_clos S I
  rw [exec_Assign_Name_used _ _ _ _ hsw]
  refine wpAny_bind (wpAny_standAt (wpAny_bind ?_))
  show wpAny _ X.A (do let _ ← comprehension (.ListComp elt [⟨.Name x px, iter, ifs, 0⟩] sc pos) sc X.env _ (newList []) false (eval iter X.env) (some (assign (.Name y py) X.env))) _ _ s
  refine wpAny_bind (wpAny_mono (wpAny_comprehension_free (use := some (assign (.Name y py) X.env)) (Q := fun _ s' => SP X pins D .next s') rfl hs c1 S.kind S.loc
    (thn (hi pins s σ H _ I h) fun v s1 h1 => thn h1 fun itv s2 h2 => ?_)) (fun _ s' hq => wpAny_pure (wpAny_pure hq)) fun _ _ e => e)
  obtain ⟨it, fp, tn, J, H1, rfl, I1, T, st, hf, q⟩ := h2
  refine lc_run (RR := fun acc C => compPost (model X.prog X.w) X.A X.xe (some (assign (.Name y py) X.env)) (fun _ s' => SP X pins D .next s') acc C) S hc c2 c4 hif he I1 T st hf q ?_
  intro L C s' H' I' h1 h2 h3 h4 h5 hm hq
  obtain ⟨m, hm⟩ := hm
  show wpAny _ X.A (assign (.Name y py) X.env (.ref L)) _ _ s'
  refine wpAny_assign_Name (store_ok2 I' hN hy (.inl hl) (v := .ref L) rfl (fun s'' I'' ⟨a, sb, ha⟩ => ?_) (.inr hl))
  have hCa : C ≠ a := by
    rcases ha with rfl | ha
    · exact h2
    · exact Ne.symm (h4 y a ha)
  exact ⟨m, hm.sameBut sb hCa, fun h' sb' => ⟨_, H', I''.turned (t' := s''.toks) (fun b o hb e => (sb'.2 b hb).trans e) h1 h2 (.inr h3) h4 h5, hq⟩⟩
end
/-! ### the form one mostly uses: over a list that stays, tests and elements that keep the heap -/
theorem lc_map {K : PySem.W.Frag} {a : Addr} {xs : List V} {fr : List Nat} {tif : TT} {te : TE} {σ : St} {D : Addr} {Q : VK} {H : Hp} (p : V → Bool) (f : V → V) (hl : SqL K H a xs) (hn : H D = none) (hz : xs.length ≤ sizeLine)
    (hs : ∀ v ∈ xs, ∀ (H' : Hp) (R : Bool → Hp → Prop), (∀ b, b ≠ D → H' b = H b) → R (p v) H' → tif (sub σ fr (some v)) H' R)
    (ht : ∀ v ∈ xs, p v = true → ∀ (H' : Hp) (R : VK), (∀ b, b ≠ D → H' b = H b) → R (f v) H' → te (sub σ fr (some v)) H' R)
    (hq : Q (.ref D) (upd H D (.lst ((xs.filter p).map f)))) : LcOk (Itl K a) fr tif te σ D Q (upd H D (.lst [])) := by
  have haD : ∀ ys, SqL K (upd H D (.lst ys)) a xs := fun ys => by
    rcases hl with (h | ⟨o, h⟩) | h
    · exact .inl (.inl (by rw [upd_ne (ne_of_none h hn)]; exact h))
    · exact .inl (.inr ⟨o, by rw [upd_ne (ne_of_none h hn)]; exact h⟩)
    · exact .inr h
  refine ⟨fun i m ys H' => m = xs.length - i ∧ i ≤ xs.length ∧ ys = ((xs.take i).filter p).map f ∧ H' = upd H D (.lst ys), ⟨xs.length, by simp, Nat.zero_le _, by simp, rfl⟩, ?_⟩
  rintro i m ys H' ⟨rfl, hi, rfl, rfl⟩
  refine ⟨upd_same, ?_⟩
  by_cases hlt : i < xs.length
  · refine .inr ⟨⟨xs, xs[i], haD _, List.getElem?_eq_getElem hlt⟩, fun v H2 yl => ?_⟩
    obtain ⟨rfl, y⟩ := yl
    have hv : xs[i]? = some v := y xs (haD _)
    have hvm : v ∈ xs := List.mem_of_getElem? hv
    have htk : xs.take (i + 1) = xs.take i ++ [v] := by rw [List.take_add_one, hv]; rfl
    have oth : ∀ b, b ≠ D → upd H D (.lst (((xs.take i).filter p).map f)) b = H b := fun b hb => upd_ne hb
    have hlen : (((xs.take i).filter p).map f).length < sizeLine := by
      rw [List.length_map]
      have h1 := List.length_filter_le p (xs.take i)
      rw [List.length_take] at h1
      omega
    refine hs v hvm _ _ oth ?_
    cases hp : p v with
    | false =>
      show ∃ m', _
      refine ⟨xs.length - (i + 1), by omega, rfl, hlt, ?_, rfl⟩
      rw [htk, List.filter_append, List.filter_cons_of_neg (by rw [hp]; decide)]
      simp
    | true =>
      show te _ _ _
      refine ht v hvm hp _ _ oth ⟨hlen, upd_same, xs.length - (i + 1), by omega, rfl, hlt, ?_, by rw [upd_upd]⟩
      rw [htk, List.filter_append, List.filter_cons_of_pos hp]
      simp
  · obtain rfl : i = xs.length := by omega
    refine .inl ⟨⟨xs, haD _, Nat.le_refl _⟩, ?_⟩
    rw [List.take_length]
    exact hq
end L2
end

section
set_option Elab.async false
set_option linter.unusedVariables false
set_option maxRecDepth 100000
set_option maxHeartbeats 1000000
/-! MORE RULES for the hand layer. -/
namespace L2
open PySem PySem.Spec PyProof.Rows
/-! ### range(a, b) of ints of any size -/
theorem turn_long {P : Program} {w : World} {K : PySem.W.Frag} {tg : Expr} (it : Addr) (lo : Int) (n : Nat) : Turn P w K tg (Itr lo n) [it] it (fun i h => IsLongIter h it (lo + (i : Nat) * 1) ((n : Int) - (i : Nat)) 1) where
  mem := by simp
  obj := fun i h st b hb => by
    have e : b = it := by simpa using hb
    subst e
    exact ⟨_, st, fun v z => by
      have z' : Data.fields _ = Data.cell v := z
      cases z'⟩
  keep := fun i h h' st k => k it (by simp) _ st
  item := by
    intro X hP hw hK hc i pins s σ H E I hf st hg
    subst hP hw hK
    obtain ⟨f0, f1, f2, f3, f4, f5⟩ := hf it (by simp)
    have W := Walks.longrange (prog := X.prog) (w := X.w) (I.ok.hd hc) it lo 1 n
    refine W.item i s _ _ hg st fun v h' tk hv st' kk => ?_
    obtain ⟨t, rfl⟩ := hv
    have I1 : Inv X pins σ H { s with heap := h', toks := tk } := I.turned (fun b o hb e => kk b o (by simpa using hb) e) f0 f1 f3 f4 f5
    refine ⟨_, rfl, go_of (s := { s with heap := h', toks := tk }) (n := "longrange_iterator") st' rfl rfl (by decide) ⟨.int (lo + i), H, I1, ⟨t, ?_⟩, ⟨rfl, rfl⟩, st', fun b hb => (hf b hb).1⟩⟩
    rw [Int.mul_one]
  done := by
    intro X hP hw hK hc i pins s σ H E I hf st hg
    subst hP hw hK
    obtain ⟨f0, f1, f2, f3, f4, f5⟩ := hf it (by simp)
    exact wpAny_pyNext_long_end (I.ok.hd hc) st (by have : n ≤ i := hg; omega) fun h' eb => ⟨rfl, I.turned (t' := s.toks) (fun b o hb e => eb b o hb e) f0 f1 f3 f4 f5⟩
  self := fun _ _ _ _ _ st h => wpAny_pyIter_longiter st h
section
variable {X : Cx} {tg : Expr}
theorem range_any {pins : List (Addr × Obj)} {σ : St} {H : Hp} {s : Shared} {R : It → Hp → Prop} {E : Value → Shared → Prop} {lo hi : Int} {t u v : Tok} {tk : Nat} (I : Inv X pins σ H s)
    (q : R (Itr lo (hi - lo).toNat) H) : wpAny (model X.prog X.w) X.A (pyIter (.ref s.heap.objs.size)) (PIE X pins σ tg R) E { s with heap := s.heap.push { cls := .type "range", data := .fields #[.int lo t, .int hi u, .int 1 v] }, toks := tk } := by
  have I1 : Inv X pins σ H { s with heap := s.heap.push { cls := .type "range", data := .fields #[.int lo t, .int hi u, .int 1 v] }, toks := tk } := I.kept fun b o e => Heap.get?_push_of_some _ e
  have e1 : lo + ((0 : Nat) : Int) * 1 = lo := by simp
  have e2 : (((hi - lo).toNat : Nat) : Int) - ((0 : Nat) : Int) = Builtin.Range.rangeSize lo hi 1 := by rw [rangeSize_one]; split <;> omega
  cases hs : Builtin.Range.small lo hi 1 with
  | true =>
    refine wpAny_pyIter_range (IsRange.new ..) hs ?_
    refine ⟨_, [(s.heap.push { cls := .type "range", data := .fields #[.int lo t, .int hi u, .int 1 v] }).objs.size], _, _, H, rfl, I1.kept (t' := tk) fun b o e => Heap.get?_push_of_some _ e, turn_range _ lo (hi - lo).toNat, ?_, fun b hb => ?_, q⟩
    · show IsRangeIter _ _ (lo + ((0 : Nat) : Int) * 1) ((((hi - lo).toNat : Nat) : Int) - ((0 : Nat) : Int)) 1
      rw [e1, e2]
      exact Heap.get?_push_size _ rfl
    · rw [List.mem_singleton.mp hb]
      exact I1.fpOk (Nat.le_refl _) (I1.hok.fresh (Nat.le_refl _))
  | false =>
    refine wpAny_pyIter_longrange (IsRange.new ..) hs ?_
    refine ⟨_, [(s.heap.push { cls := .type "range", data := .fields #[.int lo t, .int hi u, .int 1 v] }).objs.size], _, _, H, rfl, I1.kept (t' := tk) fun b o e => Heap.get?_push_of_some _ e, turn_long _ lo (hi - lo).toNat, ?_, fun b hb => ?_, q⟩
    · show IsLongIter _ _ (lo + ((0 : Nat) : Int) * 1) ((((hi - lo).toNat : Nat) : Int) - ((0 : Nat) : Int)) 1
      rw [e1, e2]
      exact Heap.get?_push_size _ rfl
    · rw [List.mem_singleton.mp hb]
      exact I1.fpOk (Nat.le_refl _) (I1.hok.fresh (Nat.le_refl _))
def iRngA (ta : TA) : TI := fun σ H R => ta σ H fun vs H1 => ∃ i j : Int, vs = [.int i, .int j] ∧ R (Itr i (j - i).toNat) H1
theorem pi_rangeA {a b : Expr} {ta : TA} {p pos : Pos} (hg : Gl X "range") (hm : X.mg "range" = none) (ha : PA X [a, b] ta) (hs : starEach [a, b] X.env = [(false, eval a X.env), (false, eval b X.env)] := by rfl) (hs2 : starEach [b] X.env = [(false, eval b X.env)] := by rfl) :
    PI X tg (.Call (.Name "range" p) [a, b] [] pos) (iRngA ta) := by
  intro pins s σ H R I h
  refine Call_ (ld_blt I hg hm boot_range (PyProof.Rows.callWith_type1 (thn (ha pos pins s σ H _ I h) fun us s1 ⟨vs, H1, I1, r1, q1⟩ => ?_) (by rw [hs, hs2]) (by rw [hs2]; rfl)))
  obtain ⟨i, j, e, q⟩ := q1
  subst e
  cases r1 with
  | cons r rr =>
    cases rr with
    | cons r' rr =>
      cases rr
      obtain ⟨t, rfl⟩ := r
      obtain ⟨t', rfl⟩ := r'
      exact call_range_2 (range_any I1 q)
end
/-! ### sum(ints) -/
section
variable {X : Cx}
theorem preSum_list (ns : List Int) : ∀ n, n ≤ ns.length → preSum (fun i => ns.getD i 0) n = (ns.take n).sum
  | 0, _ => by simp [preSum]
  | n + 1, h => by
    have ih := preSum_list ns n (by omega)
    show preSum (fun i => ns.getD i 0) n + ns.getD n 0 = _
    have e : ns.take (n + 1) = ns.take n ++ [ns.getD n 0] := by
      rw [List.take_add_one, List.getElem?_eq_getElem (show n < ns.length by omega)]
      simp [List.getD, List.getElem?_eq_getElem (show n < ns.length by omega)]
    rw [ih, e, List.sum_append]
    simp
theorem call_sum (hc : X.calm = true) : CallR X (.builtin "sum") (fun xs H Q => ∃ (p : Addr) (ns : List Int), xs = [.ref p] ∧ SqL X.K H p (ns.map V.int) ∧ Q (.int ns.sum) H) := by
  intro pins s σ H xs us Q I r h
  obtain ⟨p, ns, rfl, hq, q⟩ := h
  obtain ⟨u, rfl, ru⟩ := vals1 r
  cases ru
  obtain ⟨its, rv, pl, hz⟩ := I.list hq
  have hi : IntsAre its ns := intsAre_of rv
  have hlen : its.length = ns.length := hi.length
  obtain ⟨o, ho, _⟩ := id pl.isList
  have hlt : p < s.heap.objs.size := Heap.lt_size ho
  refine call_sum_walkAnyS (wpAny_pyIter_list pl.isList ?_)
  refine ⟨s.heap.objs.size, [s.heap.objs.size, p], [s.heap.objs.size], _, its.toArray.size, _, _, fun i => ns.getD i 0, rfl, (Walks.list (A := X.A.in1) (by simpa using I.ok.hd hc) _ p (Nat.ne_of_lt hlt) its.toArray).toS,
    ⟨⟨_, Heap.get?_push_size _ rfl, rfl, rfl⟩, pl.isList.push _⟩, fun b hb => ?_, fun i v hv => ?_, fun s' t' hm => ?_⟩
  · show b < (s.heap.push _).objs.size
    rw [Heap.size_push]
    rcases List.mem_cons.mp hb with rfl | hb
    · exact Nat.lt_succ_self _
    · rw [List.mem_singleton.mp hb]; exact Nat.lt_succ_of_lt hlt
  · exact PyProof.Rows.IntsAre.int_at hi i v (by simpa using hv)
  · have e : preSum (fun i => ns.getD i 0) its.toArray.size = ns.sum := by
      rw [List.size_toArray, hlen, preSum_list ns _ (Nat.le_refl _), List.take_length]
    rw [e]
    obtain ⟨h', g', d', tk', os'⟩ := s'
    have eg : g' = s.gens := hm.gens
    have ed : d' = s.drawn := hm.drawn
    have eo : os' = s.os := hm.os
    subst eg ed eo
    exact ⟨.int ns.sum, H, I.kept (t' := tk') fun b ob e => hm.heap b ob (fun z => by rw [List.mem_singleton.mp z] at e; exact Nat.lt_irrefl _ (Heap.lt_size e)) (Heap.get?_push_of_some _ e), ⟨t', rfl⟩, q⟩
/-! ### isinstance -/
theorem call_isi : CallR X (.builtin "isinstance") (fun xs H Q => ∃ x c t b, xs = [x, .ty c] ∧ TyOf X.K H x t ∧ PySem.W.kitOne X.K t (.type c) = some b ∧ Q (.bl b) H) := by
  intro pins s σ H xs us Q I r h
  obtain ⟨x, c, t, b, rfl, ty, e, q⟩ := h
  obtain ⟨u, v, rfl, ru, rv⟩ := Vals.two r
  cases rv
  exact isinst_ok I ru ty e fun tk => ⟨.bl b, H, I.tok tk, rfl, q⟩
/-! ### set(ints), sorted(set) -/
def setO (w : World) (a : Addr) (ks : List Int) : HO := .ext fun h => Stb.SetR w h a ks
theorem call_set (hc : X.calm = true) : CallR X (.type "set") (fun xs H Q => ∃ (p : Addr) (ns : List Int), xs = [.ref p] ∧ SqL X.K H p (ns.map V.int) ∧ ns.length < 4000 ∧ ∀ (l : Addr) (ks : List Int), H l = none → ks.Nodup → ks.length ≤ ns.length → (∀ d, d ∈ ks ↔ d ∈ ns) → Q (.ref l) (upd H l (setO X.w l ks))) := by
  intro pins s σ H xs us Q I r h
  obtain ⟨p, ns, rfl, hq, hn, q⟩ := h
  obtain ⟨u, rfl, ru⟩ := vals1 r
  cases ru
  obtain ⟨its, rv, pl, hz⟩ := I.list hq
  have hi : IntsAre its ns := intsAre_of rv
  have hlen : its.length = ns.length := hi.length
  refine Stb.set_list (I.ok.hd hc) pl.isList (by simpa using hi) (by rw [List.size_toArray]; unfold scanBound; omega) fun h' tk hS hk => ?_
  rw [List.size_toArray] at hS
  have nd : (Stb.met (fun i => ns.getD i 0) its.length).Nodup := by
    obtain ⟨o, es, ep, t, ls, _, _, _, _, _, nd, _⟩ := hS
    exact nd
  have hl := Stb.met_len (fun i => ns.getD i 0) its.length
  refine ⟨.ref s.heap.objs.size, _, I.laid (t' := tk) (o := setO X.w s.heap.objs.size (Stb.met (fun i => ns.getD i 0) its.length)) hk (Nat.le_refl _) ⟨hS, hS.there, fun h1 h2 z k => z.at k⟩, rfl, q _ _ I.fresh nd (by omega) fun d => ?_⟩
  rw [Stb.met_mem]
  constructor
  · rintro ⟨j, hj, rfl⟩
    have hj' : j < ns.length := by omega
    simp [List.getD, List.getElem?_eq_getElem hj']
  · intro hd
    obtain ⟨j, hj, e⟩ := List.getElem_of_mem hd
    exact ⟨j, by omega, by simp [List.getD, List.getElem?_eq_getElem hj, e]⟩
theorem call_sortedSet (hc : X.calm = true) : CallR X (.builtin "sorted") (fun xs H Q => ∃ (p : Addr) (ks : List Int), xs = [.ref p] ∧ H p = some (setO X.w p ks) ∧ ks.length < 64 ∧ ∀ (l : Addr) (ns : List Int), H l = none → ns.Perm ks → ns.Pairwise (· ≤ ·) → Q (.ref l) (upd H l (.lst (ns.map V.int)))) := by
  intro pins s σ H xs us Q I r h
  obtain ⟨p, ks, rfl, hp, h64, q⟩ := h
  obtain ⟨u, rfl, ru⟩ := vals1 r
  cases ru
  obtain ⟨hS, _, _⟩ := (show ObjOk X.prog X.w H s.heap p (setO X.w p ks) from I.hok p _ hp)
  refine Stb.sorted_set (I.ok.hd hc) hS h64 fun l h' tk d out ns n hl hk hg hi hp' hs' => ?_
  have hf : H l = none := I.hok.fresh hl
  have hnl : ns.length ≤ sizeLine := by rw [hp'.length_eq, sizeLine_eq]; omega
  have I1 : Inv X pins σ (upd H l (.lst (ns.map V.int))) { s with heap := h', toks := tk } := I.laid hk hl ⟨by rw [List.length_map]; exact hnl, out, n, vals_ints hi, hg⟩
  have I2 : Inv X pins σ (upd H l (.lst (ns.map V.int))) { s with heap := h', toks := tk, drawn := d } := by
    refine ⟨I1.ok, I1.os, I1.bare, I1.base, I1.loc, I1.cell, I1.free, I1.freeC, I1.pin, I1.hok, I1.len⟩
  exact ⟨.ref l, _, I2, rfl, q l ns hf hp' hs'⟩
/-! ### what xs[a:b] is, a and b not below nought -/
theorem sIx_nat (n d : Nat) (a : Nat) : HT.sIx n d (some (a : Int)) = min a n := by
  unfold HT.sIx
  simp only
  split <;> omega
theorem cutV_nat (xs : List V) (a b : Nat) : cutV xs (some (a : Int)) (some (b : Int)) = (xs.drop a).take (b - a) := by
  unfold cutV
  rw [sIx_nat, sIx_nat]
  by_cases ha : a ≤ xs.length
  · rw [Nat.min_eq_left ha]
    by_cases hb : b ≤ xs.length
    · rw [Nat.min_eq_left hb]
    · rw [Nat.min_eq_right (by omega), List.take_of_length_le (by simp), List.take_of_length_le (by simp; omega)]
  · rw [Nat.min_eq_right (show xs.length ≤ a by omega), List.drop_eq_nil_of_le (Nat.le_refl _), List.drop_eq_nil_of_le (show xs.length ≤ a by omega)]
    simp
end
end L2
end

section
set_option Elab.async false
set_option linter.unusedVariables false
set_option maxRecDepth 100000
set_option maxHeartbeats 1000000
namespace L2
open PySem PySem.Spec PyProof.Rows
/-! ### isinstance of built-in types -/
theorem ki_NoneType_bool (K : PySem.W.Frag) : PySem.W.kitOne K (.type "NoneType") (.type "bool") = some false := by kernel_rfl
theorem ki_NoneType_int (K : PySem.W.Frag) : PySem.W.kitOne K (.type "NoneType") (.type "int") = some false := by kernel_rfl
theorem ki_NoneType_str (K : PySem.W.Frag) : PySem.W.kitOne K (.type "NoneType") (.type "str") = some false := by kernel_rfl
theorem ki_NoneType_list (K : PySem.W.Frag) : PySem.W.kitOne K (.type "NoneType") (.type "list") = some false := by kernel_rfl
theorem ki_NoneType_tuple (K : PySem.W.Frag) : PySem.W.kitOne K (.type "NoneType") (.type "tuple") = some false := by kernel_rfl
theorem ki_bool_bool (K : PySem.W.Frag) : PySem.W.kitOne K (.type "bool") (.type "bool") = some true := by kernel_rfl
theorem ki_bool_int (K : PySem.W.Frag) : PySem.W.kitOne K (.type "bool") (.type "int") = some true := by kernel_rfl
theorem ki_bool_str (K : PySem.W.Frag) : PySem.W.kitOne K (.type "bool") (.type "str") = some false := by kernel_rfl
theorem ki_bool_list (K : PySem.W.Frag) : PySem.W.kitOne K (.type "bool") (.type "list") = some false := by kernel_rfl
theorem ki_bool_tuple (K : PySem.W.Frag) : PySem.W.kitOne K (.type "bool") (.type "tuple") = some false := by kernel_rfl
theorem ki_int_bool (K : PySem.W.Frag) : PySem.W.kitOne K (.type "int") (.type "bool") = some false := by kernel_rfl
theorem ki_int_int (K : PySem.W.Frag) : PySem.W.kitOne K (.type "int") (.type "int") = some true := by kernel_rfl
theorem ki_int_str (K : PySem.W.Frag) : PySem.W.kitOne K (.type "int") (.type "str") = some false := by kernel_rfl
theorem ki_int_list (K : PySem.W.Frag) : PySem.W.kitOne K (.type "int") (.type "list") = some false := by kernel_rfl
theorem ki_int_tuple (K : PySem.W.Frag) : PySem.W.kitOne K (.type "int") (.type "tuple") = some false := by kernel_rfl
theorem ki_str_bool (K : PySem.W.Frag) : PySem.W.kitOne K (.type "str") (.type "bool") = some false := by kernel_rfl
theorem ki_str_int (K : PySem.W.Frag) : PySem.W.kitOne K (.type "str") (.type "int") = some false := by kernel_rfl
theorem ki_str_str (K : PySem.W.Frag) : PySem.W.kitOne K (.type "str") (.type "str") = some true := by kernel_rfl
theorem ki_str_list (K : PySem.W.Frag) : PySem.W.kitOne K (.type "str") (.type "list") = some false := by kernel_rfl
theorem ki_str_tuple (K : PySem.W.Frag) : PySem.W.kitOne K (.type "str") (.type "tuple") = some false := by kernel_rfl
theorem ki_list_bool (K : PySem.W.Frag) : PySem.W.kitOne K (.type "list") (.type "bool") = some false := by kernel_rfl
theorem ki_list_int (K : PySem.W.Frag) : PySem.W.kitOne K (.type "list") (.type "int") = some false := by kernel_rfl
theorem ki_list_str (K : PySem.W.Frag) : PySem.W.kitOne K (.type "list") (.type "str") = some false := by kernel_rfl
theorem ki_list_list (K : PySem.W.Frag) : PySem.W.kitOne K (.type "list") (.type "list") = some true := by kernel_rfl
theorem ki_list_tuple (K : PySem.W.Frag) : PySem.W.kitOne K (.type "list") (.type "tuple") = some false := by kernel_rfl
theorem ki_tuple_bool (K : PySem.W.Frag) : PySem.W.kitOne K (.type "tuple") (.type "bool") = some false := by kernel_rfl
theorem ki_tuple_int (K : PySem.W.Frag) : PySem.W.kitOne K (.type "tuple") (.type "int") = some false := by kernel_rfl
theorem ki_tuple_str (K : PySem.W.Frag) : PySem.W.kitOne K (.type "tuple") (.type "str") = some false := by kernel_rfl
theorem ki_tuple_list (K : PySem.W.Frag) : PySem.W.kitOne K (.type "tuple") (.type "list") = some false := by kernel_rfl
theorem ki_tuple_tuple (K : PySem.W.Frag) : PySem.W.kitOne K (.type "tuple") (.type "tuple") = some true := by kernel_rfl
section
variable {X : Cx} {pins : List (Addr × Obj)} {σ : St} {H : Hp} {s : Shared}
/-- isinstance(x, (c, ..)) -/
theorem isinst_tup {A : Around} {E : Value → Shared → Prop} {Q : Value → Shared → Prop} {x : V} {u t : Value} {tp : Addr} {cs : List Value} {b : Bool} (I : Inv X pins σ H s) (rx : RelV x u) (ty : TyOf X.K H x t)
    (htp : IsTup s.heap tp cs.toArray) (e : PySem.W.kitAny X.K t cs = some b) (h : ∀ tk, Q (.bool b) { s with toks := tk }) : wpAny (model X.prog X.w) A (call (.builtin "isinstance") [u, .ref tp]) Q E s := by
  obtain ⟨⟨cls, dd, data, sl⟩, ho, hc, n, hd⟩ := htp
  simp only at hc hd
  subst hc hd
  cases ty with
  | non => cases (show u = Value.none from rx); exact PySem.W.kia_tup PySem.W.kitx_none I.kIn True.intro ho e (fun z => nomatch z) h
  | bl y => cases (show u = Value.bool y from rx); exact PySem.W.kia_tup PySem.W.kitx_bool I.kIn True.intro ho e (fun z => nomatch z) h
  | int i => obtain ⟨t, q⟩ := (show ∃ t, u = Value.int i t from rx); cases q; exact PySem.W.kia_tup PySem.W.kitx_int I.kIn True.intro ho e (fun z => nomatch z) h
  | str y => obtain ⟨t, q⟩ := (show ∃ t, u = Value.str y t from rx); cases q; exact PySem.W.kia_tup PySem.W.kitx_str I.kIn True.intro ho e (fun z => nomatch z) h
  | flt y => obtain ⟨t, q⟩ := (show ∃ t, u = Value.float y t from rx); cases q; exact PySem.W.kia_tup PySem.W.kitx_float I.kIn True.intro ho e (fun z => nomatch z) h
  | @lst a xs ea =>
    cases (show u = Value.ref a from rx)
    obtain ⟨_, _, n, _, h1⟩ := (show ObjOk X.prog X.w H s.heap a (.lst xs) from I.hok a _ ea)
    exact PySem.W.kia_tup PySem.W.kitx_list I.kIn ⟨_, h1, rfl⟩ ho e (fun z => nomatch z) h
  | @frz a ob xs ea =>
    cases (show u = Value.ref a from rx)
    obtain ⟨_, _, _, n, _, h1⟩ := (show ObjOk X.prog X.w H s.heap a (.frz ob (.lst xs)) from I.hok a _ ea)
    exact PySem.W.kia_tup PySem.W.kitx_list I.kIn ⟨_, h1, rfl⟩ ho e (fun z => nomatch z) h
  | @tup a xs ea =>
    cases (show u = Value.ref a from rx)
    obtain ⟨_, _, _, p⟩ := (show ObjOk X.prog X.w H s.heap a (.tup xs) from I.hok a _ ea)
    obtain ⟨o, h1, h2, _⟩ := p
    exact PySem.W.kia_tup PySem.W.kitx_tuple I.kIn ⟨o, h1, h2⟩ ho e (fun z => nomatch z) h
  | @dK a kvs ea =>
    cases (show u = Value.ref a from rx)
    obtain ⟨_, _, vs, _, p⟩ := (show ObjOk X.prog X.w H s.heap a (.dK kvs) from I.hok a _ ea)
    obtain ⟨o, es, ep, h1, h2, _⟩ := p
    exact PySem.W.kia_tup PySem.W.kitx_dict I.kIn ⟨o, h1, h2.1⟩ ho e (fun z => nomatch z) h
  | @dT a kvs ea =>
    cases (show u = Value.ref a from rx)
    obtain ⟨_, _, xs, _, o, es, ep, h1, h2, _⟩ := (show ObjOk X.prog X.w H s.heap a (.dT kvs) from I.hok a _ ea)
    exact PySem.W.kia_tup PySem.W.kitx_dict I.kIn ⟨o, h1, h2.1⟩ ho e (fun z => nomatch z) h
  | @ins a C dx fs ea cl ha hn htk hm =>
    cases (show u = Value.ref a from rx)
    obtain ⟨mA, O, _⟩ := ins_get I.hok ea
    obtain ⟨od, J, _⟩ := O.look
    exact PySem.W.kia_tup (PySem.W.kitx_own (cl.get _) cl.hd ha hn htk hm) I.kIn J ho e (fun z => nomatch z) h
end
section
variable {X : Cx}
/-- isinstance(x, (c, d)) of two built-in types: what the two answers are -/
theorem call_isi2 : CallR X (.builtin "isinstance") (fun xs H Q => ∃ x p c d t b b', xs = [x, .ref p] ∧ SqT X.K H p [.ty c, .ty d] ∧ TyOf X.K H x t ∧ PySem.W.kitOne X.K t (.type c) = some b ∧ PySem.W.kitOne X.K t (.type d) = some b' ∧ Q (.bl (b || b')) H) := by
  intro pins s σ H xs us Q I r h
  obtain ⟨x, p, c, d, t, b, b', rfl, hp, ty, e1, e2, q⟩ := h
  obtain ⟨u, v, rfl, ru, rv⟩ := Vals.two r
  cases rv
  obtain ⟨its, r2, pl, _⟩ := I.tuple hp
  obtain ⟨i1, i2, rfl, q1, q2⟩ := Vals.two r2
  cases q1
  cases q2
  refine isinst_tup I ru ty pl (b := b || b') ?_ fun tk => ⟨.bl (b || b'), H, I.tok tk, rfl, q⟩
  unfold PySem.W.kitAny
  rw [e1]
  cases b
  · simp only [Bool.false_or]
    unfold PySem.W.kitAny
    rw [e2]
    cases b' <;> rfl
  · rfl
/-! ### lists compared -/
def rEqNil (K : PySem.W.Frag) : R2 := fun x y H Q => ∃ a b xs, x = .ref a ∧ y = .ref b ∧ SqL K H a xs ∧ SqL K H b [] ∧ Q (.bl xs.isEmpty) H
def rNeNil (K : PySem.W.Frag) : R2 := fun x y H Q => ∃ a b xs, x = .ref a ∧ y = .ref b ∧ SqL K H a xs ∧ SqL K H b [] ∧ Q (.bl (!xs.isEmpty)) H
theorem op_eqNil (hu : X.A.units < cLine) : OpR X (compareOp .Eq) (rEqNil X.K) := by
  intro pins s σ H x y v u Q I rx ry h
  obtain ⟨a, b, xs, rfl, rfl, ha, hb, q⟩ := h
  cases rx
  cases ry
  obtain ⟨i1, r1, p1, _⟩ := I.list ha
  obtain ⟨i2, r2, p2, _⟩ := I.list hb
  cases r2
  cases r1 with
  | nil => exact SeqAt.eq_listAt (e := fun _ => true) p1.isList p2.isList rfl hu (fun j h1 h2 => absurd h1 (Nat.not_lt_zero _)) ⟨.bl true, H, I, rfl, q⟩
  | cons _ _ => exact SeqAt.eq_list_lengthsAt p1.isList p2.isList (by simp) hu ⟨.bl false, H, I, rfl, q⟩
theorem op_neNil (hu : X.A.units < cLine) : OpR X (compareOp .NotEq) (rNeNil X.K) := by
  intro pins s σ H x y v u Q I rx ry h
  obtain ⟨a, b, xs, rfl, rfl, ha, hb, q⟩ := h
  cases rx
  cases ry
  obtain ⟨i1, r1, p1, _⟩ := I.list ha
  obtain ⟨i2, r2, p2, _⟩ := I.list hb
  cases r2
  cases r1 with
  | nil =>
    have z := SeqAt.RcNeAt.lists (A := X.A) (s := s) (e := fun _ => true) p1.isList p2.isList rfl hu (fun j h1 h2 => absurd h1 (Nat.not_lt_zero _))
    exact z X.prog X.w X.xe _ ⟨.bl false, H, I, rfl, q⟩
  | cons _ _ => exact (SeqAt.RcNeAt.lists_lengths p1.isList p2.isList (by simp) hu) X.prog X.w X.xe _ ⟨.bl true, H, I, rfl, q⟩
/-! ### is True, is not True, of a bool -/
theorem op_isTrue : OpR X (compareOp .Is) (fun x y H Q => ∃ b c, x = .bl b ∧ y = .bl c ∧ Q (.bl (b == c)) H) := by
  intro pins s σ H x y v u Q I rx ry h
  obtain ⟨b, c, rfl, rfl, q⟩ := h
  cases rx
  cases ry
  exact is_bool ⟨.bl _, H, I, rfl, q⟩
theorem op_notTrue : OpR X (compareOp .IsNot) (fun x y H Q => ∃ b c, x = .bl b ∧ y = .bl c ∧ Q (.bl (b != c)) H) := by
  intro pins s σ H x y v u Q I rx ry h
  obtain ⟨b, c, rfl, rfl, q⟩ := h
  cases rx
  cases ry
  exact isnot_bool ⟨.bl _, H, I, rfl, q⟩
/-! ### a def of the text, called -/
/-- a def that stands at its name and keeps a promise -/
structure FnG (P : Program) (w : World) (K : PySem.W.Frag) (mg : Str → Option Value) (base : Heap) (k : Nat) (x : Str) (ps : List Str) (sp : Sp) : Prop where
  ex : ∃ f fd, FnOk P w K mg base CX0 k f fd ps sp ∧ Binds K fd ps [] ∧ PySem.W.keepIn K (.ref f) = true ∧ mg x = some (.ref f)
theorem FnG.mono {P : Program} {w : World} {K : PySem.W.Frag} {mg : Str → Option Value} {base : Heap} {j k : Nat} {x : Str} {ps : List Str} {sp : Sp} (G : FnG P w K mg base j x ps sp) (h : j ≤ k) : FnG P w K mg base k x ps sp :=
  let ⟨f, fd, a, b⟩ := G.ex; ⟨f, fd, a.mono h, b⟩
theorem pe_fn {k : Nat} {x : Str} {ps : List Str} {sp : Sp} {e : Expr} {es : List Expr} {t : TA} {p pos : Pos} (G : FnG X.prog X.w X.K X.mg X.base k x ps sp) (hr : Room k X.A) (hg : Gl X x) (ha : PA X (e :: es) t)
    (hdb : (x == ("__debug__" : Str)) = false := by decide) (he : starEach (e :: es) X.env = (false, eval e X.env) :: starEach es X.env := by rfl) (hpl : (backTo pos (starEach es X.env)).any (·.1) = false := by rfl) :
    PE X (.Call (.Name x p) (e :: es) [] pos) (tCall sp [] E0 t) := by
  obtain ⟨f, fd, F, b, kp, m⟩ := G.ex
  exact pe_call F hr hg m kp b .nil pass0 ha hdb he hpl
end
/-! ### plain data in the heap -/
inductive Dt where
  | non | bl (b : Bool) | int (n : Int) | str (x : Str) | lst (ds : List Dt) | tup (ds : List Dt)
mutual
def Is (H : Hp) : V → Dt → Prop
  | v, .non => v = .non
  | v, .bl b => v = .bl b
  | v, .int n => v = .int n
  | v, .str x => v = .str x
  | v, .lst ds => ∃ a xs, v = .ref a ∧ H a = some (.lst xs) ∧ IsAll H xs ds
  | v, .tup ds => ∃ a xs, v = .ref a ∧ H a = some (.tup xs) ∧ IsAll H xs ds
def IsAll (H : Hp) : List V → List Dt → Prop
  | [], [] => True
  | x :: xs, d :: ds => Is H x d ∧ IsAll H xs ds
  | _, _ => False
end
mutual
def Dt.size : Dt → Nat
  | .lst ds => 1 + sizes ds
  | .tup ds => 1 + sizes ds
  | _ => 1
def sizes : List Dt → Nat
  | [] => 0
  | d :: ds => d.size + sizes ds
end
theorem IsAll.length {H : Hp} : ∀ {xs : List V} {ds : List Dt}, IsAll H xs ds → xs.length = ds.length
  | [], [], _ => rfl
  | _ :: xs, _ :: ds, h => by unfold IsAll at h; simp [IsAll.length h.2]
  | [], _ :: _, h => by unfold IsAll at h; exact h.elim
  | _ :: _, [], h => by unfold IsAll at h; exact h.elim
theorem IsAll.get {H : Hp} : ∀ {xs : List V} {ds : List Dt} {i : Nat} {d : Dt}, IsAll H xs ds → ds[i]? = some d → ∃ x, xs[i]? = some x ∧ Is H x d
  | x :: xs, d :: ds, 0, _, h, e => by unfold IsAll at h; simp at e; subst e; exact ⟨x, rfl, h.1⟩
  | _ :: xs, _ :: ds, i + 1, d, h, e => by unfold IsAll at h; simpa using IsAll.get (i := i) (d := d) h.2 (by simpa using e)
  | [], [], _, _, _, e => by simp at e
  | [], _ :: _, _, _, h, _ => by unfold IsAll at h; exact h.elim
  | _ :: _, [], _, _, h, _ => by unfold IsAll at h; exact h.elim
mutual
theorem Is.same {H H' : Hp} (k : Same H H') : ∀ {v : V} {d : Dt}, Is H v d → Is H' v d
  | _, .non, h => by unfold Is at h ⊢; exact h
  | _, .bl _, h => by unfold Is at h ⊢; exact h
  | _, .int _, h => by unfold Is at h ⊢; exact h
  | _, .str _, h => by unfold Is at h ⊢; exact h
  | _, .lst ds, h => by unfold Is at h ⊢; obtain ⟨a, xs, e, h1, h2⟩ := h; exact ⟨a, xs, e, k _ _ h1, IsAll.same k h2⟩
  | _, .tup ds, h => by unfold Is at h ⊢; obtain ⟨a, xs, e, h1, h2⟩ := h; exact ⟨a, xs, e, k _ _ h1, IsAll.same k h2⟩
theorem IsAll.same {H H' : Hp} (k : Same H H') : ∀ {xs : List V} {ds : List Dt}, IsAll H xs ds → IsAll H' xs ds
  | [], [], _ => by unfold IsAll; trivial
  | x :: xs, d :: ds, h => by unfold IsAll at h ⊢; exact ⟨Is.same k h.1, IsAll.same k h.2⟩
  | [], _ :: _, h => by unfold IsAll at h; exact h.elim
  | _ :: _, [], h => by unfold IsAll at h; exact h.elim
end
theorem isAll_ints {H : Hp} : ∀ ns : List Int, IsAll H (ns.map V.int) (ns.map Dt.int)
  | [] => by rw [List.map_nil, List.map_nil]; unfold IsAll; trivial
  | n :: r => by rw [List.map_cons, List.map_cons]; unfold IsAll; exact ⟨by unfold Is; rfl, isAll_ints r⟩
theorem seq_join {t u : TS} {D : Ends} {σ : L2.St} {H : Hp} (R : L2.St → Hp → Prop) (h2 : ∀ σ' H', R σ' H' → u D σ' H') (h1 : (∀ σ' H', R σ' H' → u D σ' H') → t { D with nx := u D } σ H) : tSeq t u D σ H := h1 h2
theorem onT {c : Bool} {A B : Prop} (e : c = true) (h : A) : if c = true then A else B := by rw [e]; exact h
theorem onF {c : Bool} {A B : Prop} (e : c = false) (h : B) : if c = true then A else B := by rw [e]; exact h
theorem z0 : ([] : List V).length ≤ sizeLine := by decide
theorem z1 {a : V} : [a].length ≤ sizeLine := by show 1 ≤ sizeLine; decide
theorem z2 {a b : V} : [a, b].length ≤ sizeLine := by show 2 ≤ sizeLine; decide
theorem z3 {a b c : V} : [a, b, c].length ≤ sizeLine := by show 3 ≤ sizeLine; decide
theorem z4 {a b c d : V} : [a, b, c, d].length ≤ sizeLine := by show 4 ≤ sizeLine; decide
theorem z5 {a b c d e : V} : [a, b, c, d, e].length ≤ sizeLine := by show 5 ≤ sizeLine; decide
theorem zn {l : List V} (h : l.length ≤ 100000) : l.length ≤ sizeLine := by rw [sizeLine_eq]; omega
theorem zlt {l : List V} (h : l.length ≤ 100000) : l.length < sizeLine := by rw [sizeLine_eq]; omega
theorem Same.fresh {H H' : Hp} (k : Same H H') {p : Addr} (h : H' p = none) : H p = none := by
  cases e : H p with
  | none => rfl
  | some o => rw [k _ _ e] at h; cases h
theorem same_upd {H : Hp} {p : Addr} (h : H p = none) (o : HO) : Same H (upd H p o) := fun b u q => by rw [upd_ne (ne_of_none q h)]; exact q
end L2
end

section
set_option Elab.async false
set_option linter.unusedVariables false
set_option maxRecDepth 100000
set_option maxHeartbeats 1000000
namespace Rvl
open PySem PyProof.Rows
theorem rev_no_len : typeLookup (.type "list_reverseiterator") "__len__" = pure none := by rw [typeLookup_type, builtinLookup_eq_fast]; kernel_rfl
theorem rev_hint : typeLookup (.type "list_reverseiterator") "__length_hint__" = pure (some (.builtin "list_reverseiterator.__length_hint__")) := by rw [typeLookup_type, builtinLookup_eq_fast]; kernel_rfl
section
variable {prog : Program} {w : World} {A : Around} {E : Value → Shared → Prop} {s : Shared}
theorem hint_ok {r : Addr} {Q : Bool → Shared → Prop} (hT : s.TypeIs (.ref r) "list_reverseiterator") (h : Q false s) : wpAny (model prog w) A (Builtin.List.listLengthHint (.ref r)) Q E s := by
  unfold Builtin.List.listLengthHint
  refine wpAny_bind (wpAny_specialOf hT rev_no_len ?_)
  dsimp only
  refine wpAny_ite_split (fun z => absurd z (by decide)) (fun _ => ?_)
  refine wpAny_ite_split (fun z => absurd z (by decide)) (fun _ => ?_)
  refine wpAny_bind (wpAny_specialOf hT rev_hint ?_)
  generalize hid : ("list_reverseiterator.__length_hint__" : String) = q
  wp_delta
  rw [show splitId q = some ("list_reverseiterator", "__length_hint__") from by subst hid; decide +kernel]
  subst hid
  refine wpAny_bind (wpAny_isInstance (T := "list_reverseiterator") (b := true) hT (by rw [isSubtype_type]; kernel_rfl) ?_)
  refine wpAny_ite_split (fun z => absurd z (by decide)) (fun _ => ?_)
  refine wpAny_ite_split (fun _ => ?_) (fun z => absurd (by decide +kernel) z)
  refine wpAny_ite_split (fun z => absurd z (by decide)) (fun _ => ?_)
  exact wpAny_pure h

theorem at_rev {items : Array Value} {acc : Array Value} (h : ItemsOf (fun i v => items[items.size - 1 - i]? = some v) acc items.size) : acc.toList = items.toList.reverse := by
  apply List.ext_getElem?
  intro i
  by_cases hi : i < items.size
  · have hi2 : i < acc.toList.length := by rw [Array.length_toList, h.1]; exact hi
    have q := h.2 i acc.toList[i] (by rw [← Array.getElem?_toList]; exact List.getElem?_eq_getElem hi2)
    rw [List.getElem?_eq_getElem hi2, List.getElem?_reverse (by simpa using hi), Array.length_toList, Array.getElem?_toList]
    exact q.symm
  · rw [List.getElem?_eq_none (by rw [Array.length_toList, h.1]; omega), List.getElem?_eq_none (by simp; omega)]
/-- list(it) of an iterator that walks a list from its end -/
theorem list_rev {r l : Addr} {items : Array Value} {Q : Value → Shared → Prop} (hh : A.handled = none) (hr : s.heap.IsRevIter r l ((items.size : Int) - 1)) (hl : s.heap.IsList l items) (hne : l ≠ r) (hn : items.size ≤ sizeLine)
    (hQ : ∀ (h' : Heap) (tk c : Nat) (out : Array Value), (∀ b o, b ≠ r → s.heap.get? b = some o → h'.get? b = some o) → h'.get? s.heap.objs.size = some { cls := .type "list", dict := none, data := .seq out c, slots := #[] } → out.toList = items.toList.reverse →
      Q (.ref s.heap.objs.size) { s with heap := h', toks := tk }) : wpAny (model prog w) A (call (.type "list") [.ref r]) Q E s := by
  obtain ⟨orr, hor, _⟩ := id hr
  obtain ⟨ol, hol, _⟩ := id hl
  have hrl : r < s.heap.objs.size := Heap.lt_size hor
  have hll : l < s.heap.objs.size := Heap.lt_size hol
  refine callType_codes (Q₁ := fun obj s₁ => obj = .ref s.heap.objs.size ∧ s₁ = { s with heap := s.heap.push { cls := .type "list", data := .seq #[] } }) PySem.F.called_list (PySem.F.typeCall_list_1 _) PySem.F.entry_list_init
    (code_list_new _ ⟨rfl, rfl⟩) fun obj s₁ h₁ => ?_
  obtain ⟨rfl, rfl⟩ := h₁
  have hS : (s.heap.push { cls := .type "list", data := .seq #[] }).get? s.heap.objs.size = some { cls := .type "list", data := .seq #[] } := Heap.get?_push_size _ rfl
  refine ⟨⟨_, hS, rfl⟩, PySem.F.args_list_init_2 _ _, ?_⟩
  have hk1 : ∀ b o, s.heap.get? b = some o → (s.heap.push { cls := .type "list", data := .seq #[] }).get? b = some o := fun b o e => Heap.get?_push_of_some _ e
  generalize hH1 : s.heap.push { cls := .type "list", data := .seq #[] } = H1 at hS hk1 ⊢
  show wpAny _ _ (do let old ← Builtin.List.listItems (.ref s.heap.objs.size); Builtin.List.listUpdate (.ref s.heap.objs.size) (fun _ => #[]); letGo old.toList.reverse; Builtin.List.listExtendWith (.ref s.heap.objs.size) (.ref r) .none) _ _ { s with heap := H1 }
  refine wpAny_bind ?_
  unfold Builtin.List.listItems
  refine wpAny_bind (wpAny_seqItems hS rfl (wpAny_pure ?_))
  show wpAny _ _ (updateSeq s.heap.objs.size (fun _ => #[]) >>= fun _ => letGo (#[] : Array Value).toList.reverse >>= fun _ => Builtin.List.listExtendWith (.ref s.heap.objs.size) (.ref r) .none) _ _ { s with heap := H1 }
  refine wpAny_bind (wpAny_updateSeq hS rfl ?_)
  have hS2 := Heap.get?_update_self (Obj.mapSeq (fun _ => (#[] : Array Value))) hS rfl
  have hk2 : ∀ b o, s.heap.get? b = some o → (H1.update s.heap.objs.size (Obj.mapSeq (fun _ => (#[] : Array Value)))).get? b = some o := fun b o e =>
    (Heap.get?_update_other _ _ (Nat.ne_of_gt (Heap.lt_size e))).trans (hk1 b o e)
  refine wpAny_bind (wpAny_letGo ?_)
  generalize hH2 : H1.update s.heap.objs.size (Obj.mapSeq (fun _ => (#[] : Array Value))) = H2 at hS2 hk2 ⊢
  have hr2 : H2.IsRevIter r l ((items.size : Int) - 1) := hr.at fun o e => hk2 _ _ e
  have hl2 : H2.IsList l items := hl.at fun o e => hk2 _ _ e
  unfold Builtin.List.listExtendWith
  have hT2 : Shared.TypeIs { s with heap := H2 } (.ref r) "list_reverseiterator" := Heap.IsRevIter.typeIs (s := { s with heap := H2 }) hr2
  refine wpAny_bind (wpAny_typeOf (T := "list_reverseiterator") hT2 ?_)
  have q1 : Builtin.List.listSameRef (.ref s.heap.objs.size) (.ref r) = false := by simp [Builtin.List.listSameRef, Nat.ne_of_gt hrl]
  have q2 : (Value.type "list_reverseiterator" == Value.type "list") = false := by decide
  have q3 : (Value.type "list_reverseiterator" == Value.type "tuple") = false := by decide
  simp only [q1, q2, q3, Bool.or_false, Bool.false_eq_true, if_false]
  refine wpAny_bind (wpAny_pyIter_revIter hr2 ?_)
  have W := Walks.listRev (prog := prog) (w := w) (A := A.in1.in1) (by simpa using hh) r l hne items
  have hSf : s.heap.objs.size ∉ [r, l] := by simp only [List.mem_cons, List.not_mem_nil, or_false, not_or]; exact ⟨Nat.ne_of_gt hrl, Nat.ne_of_gt hll⟩
  have st0 : 0 ≤ items.size ∧ H2.IsRevIter r l ((items.size : Int) - 1 - ((0 : Nat) : Int)) ∧ H2.IsList l items := ⟨Nat.zero_le _, by simpa using hr2, hl2⟩
  have key : ∀ (h3 : Heap) (c : Nat), (0 ≤ items.size ∧ h3.IsRevIter r l ((items.size : Int) - 1 - ((0 : Nat) : Int)) ∧ h3.IsList l items) → (∀ b o, b ≠ s.heap.objs.size → H2.get? b = some o → h3.get? b = some o) → h3.get? s.heap.objs.size = some { cls := .type "list", data := .seq #[] c } →
      codeAny (model prog w) A.in1 (.builtin "list.extend.loop" ⟨[.ref s.heap.objs.size, .ref r, .none], []⟩) (wants (fun r s₂ => r = Value.none ∧ Q (Value.ref s.heap.objs.size) s₂) E) { s with heap := h3 } := by
    intro h3 c hst3 hk3 hS3
    refine codeAny_extend_loopS W.toS hn s.heap.objs.size hSf .none items.size 0 _ #[] c rfl (Nat.zero_le _) hst3 hS3 (ItemsOf.nil _) fun s' acc' c' hm hS' hacc => ?_
    obtain ⟨hp', g', d', tk', os'⟩ := s'
    have eg : g' = s.gens := hm.gens
    have ed : d' = s.drawn := hm.drawn
    have eo : os' = s.os := hm.os
    subst eg ed eo
    refine ⟨rfl, hQ hp' tk' c' acc' (fun b o hb e => ?_) hS' (at_rev hacc)⟩
    have hbl : b < s.heap.objs.size := Heap.lt_size e
    refine hm.heap b o (fun z => ?_) (hk3 b o (Nat.ne_of_lt hbl) (hk2 b o e))
    simp only [List.mem_cons, List.not_mem_nil, or_false] at z
    rcases z with z | z
    · exact Nat.ne_of_lt hbl z
    · exact hb z
  refine wpAny_bind (wpAny_holding (hint_ok hT2 ?_))
  refine wpAny_ite_split (fun _ => ?_) (fun _ => ?_)
  · refine wpAny_bind (wpAny_rule ?_)
    refine wpAny_bind ?_
    show wpAny _ _ (updateSeq s.heap.objs.size (·.push .none) >>= fun _ => updateSeq s.heap.objs.size (·.pop)) _ _ _
    refine wpAny_bind (wpAny_updateSeq hS2 rfl ?_)
    have hS3 := Heap.get?_update_self (Obj.mapSeq (·.push Value.none)) hS2 rfl
    refine wpAny_updateSeq (hz := by seq_fits) hS3 rfl ?_
    have hS4 := Heap.get?_update_self (Obj.mapSeq (·.pop)) hS3 rfl
    refine wpAny_pure ⟨plainId_quiet PySem.F.plain_extend_loop _, key _ _ ?_ (fun b o hb e => ?_) hS4⟩
    · refine W.frame 0 _ _ st0 fun b hb o e => ?_
      have hbS : b ≠ s.heap.objs.size := fun z => hSf (z ▸ hb)
      exact (Heap.get?_update_other _ _ (Ne.symm hbS)).trans ((Heap.get?_update_other _ _ (Ne.symm hbS)).trans e)
    · exact (Heap.get?_update_other _ _ (Ne.symm hb)).trans ((Heap.get?_update_other _ _ (Ne.symm hb)).trans e)
  · exact wpAny_pure ⟨plainId_quiet PySem.F.plain_extend_loop _, key _ _ st0 (fun b o _ e => e) hS2⟩
end
end Rvl
namespace L2
open PySem PySem.Spec PyProof.Rows
section
variable {X : Cx}
/-- list(reversed(xs)) -/
def tListRev (K : PySem.W.Frag) (te : TE) : TE := fun σ H Q => te σ H fun x H1 => ∃ a ys, x = .ref a ∧ SqL K H1 a ys ∧ ∀ l, H1 l = none → Q (.ref l) (upd H1 l (.lst ys.reverse))
theorem pe_listRev {e : Expr} {te : TE} {p p' pos pos' : Pos} (hc : X.calm = true) (hg1 : Gl X "list") (hm1 : X.mg "list" = none) (hg2 : Gl X "reversed") (hm2 : X.mg "reversed" = none) (he : PE X e te)
    (b1 : bootBuiltins "list" = some (.type "list") := by decide +kernel) (b2 : bootBuiltins "reversed" = some (.type "reversed") := by decide +kernel)
    (s1 : starEach [.Call (.Name "reversed" p') [e] [] pos'] X.env = [(false, eval (.Call (.Name "reversed" p') [e] [] pos') X.env)] := by rfl)
    (s2 : starEach [e] X.env = [(false, eval e X.env)] := by rfl) : PE X (.Call (.Name "list" p) [.Call (.Name "reversed" p') [e] [] pos'] [] pos) (tListRev X.K te) := by
  intro pins s σ H Q I h
  refine wpAny_Call_Name_kw (ld_blt I hg1 hm1 b1 ?_)
  refine PyProof.Rows.callWith_type1 ?_ s1 rfl
  rw [s1]
  show wpAny _ _ (spliced ((false, eval (.Call (.Name "reversed" p') [e] [] pos') X.env) :: [])) _ _ s
  refine Calls.spliced_cons ?_
  refine wpAny_Call_Name_kw (ld_blt I hg2 hm2 b2 ?_)
  refine PyProof.Rows.callWith_type1 ?_ s2 rfl
  refine thn (pa_cons he pa_nil s2 pos' pins s σ H (fun vs H1 => match vs with | [x] => ∃ a ys, x = .ref a ∧ SqL X.K H1 a ys ∧ ∀ l, H1 l = none → Q (.ref l) (upd H1 l (.lst ys.reverse)) | _ => False) I h) fun us s1 ⟨vs, H1, I1, r1, z⟩ => ?_
  match vs, z with
  | [x], ⟨a, ys, e2, hq, q⟩ =>
    subst e2
    obtain ⟨u, rfl, ru⟩ := vals1 r1
    cases ru
    obtain ⟨its, rv, pl, hz⟩ := I1.list hq
    obtain ⟨oa, hoa, _⟩ := id pl.isList
    have hla : a < s1.heap.objs.size := Heap.lt_size hoa
    refine call_reversed_list pl.isList ?_
    refine Calls.spliced_nil ?_
    have hrI : (s1.heap.push (revObj a ((its.toArray.size : Int) - 1))).IsRevIter s1.heap.objs.size a ((its.toArray.size : Int) - 1) := ⟨_, Heap.get?_push_size _ rfl, rfl, rfl⟩
    have hsz : (s1.heap.push (revObj a ((its.toArray.size : Int) - 1))).objs.size = s1.heap.objs.size + 1 := Heap.size_push ..
    refine Rvl.list_rev (s := { s1 with heap := s1.heap.push (revObj a ((its.toArray.size : Int) - 1)) }) (I.ok.hd hc) hrI (pl.isList.push _) (Nat.ne_of_lt hla) (by rw [List.size_toArray, ← rv.length]; exact hz) fun h' tk c out hk hg ho => ?_
    have hle : s1.heap.objs.size ≤ (s1.heap.push (revObj a ((its.toArray.size : Int) - 1))).objs.size := by rw [hsz]; exact Nat.le_succ _
    have hv : Vals ys.reverse out.toList := by rw [ho]; simpa using rv.reverse
    refine ⟨.ref _, _, I1.laid (t' := tk) (o := .lst ys.reverse) (fun b o e => hk b o (Nat.ne_of_lt (Heap.lt_size e)) (Heap.get?_push_of_some _ e)) hle ⟨by rw [List.length_reverse]; exact hz, out.toList, c, hv, ?_⟩, rfl, q _ (I1.hok.fresh hle)⟩
    simpa using hg
end
end L2
end

section
set_option Elab.async false
set_option linter.unusedVariables false
set_option maxRecDepth 100000
set_option maxHeartbeats 1000000
/-! The sort that asks: with keys that differ, what it answers is the order. -/
namespace Stree
open PySem PySem.W PyProof.Rows
def Asks {α : Type} (n : Nat) (lt : Nat → Nat → Bool) : KasT α → (α → Prop) → Prop
  | .ret a, Q => Q a
  | .ask i j k, Q => i < n ∧ j < n ∧ Asks n lt (k (lt i j)) Q
theorem Asks.bind {α β : Type} {n : Nat} {lt : Nat → Nat → Bool} {f : α → KasT β} {Q : β → Prop} : ∀ {t : KasT α} {R : α → Prop}, Asks n lt t R → (∀ a, R a → Asks n lt (f a) Q) → Asks n lt (t.bind f) Q
  | .ret a, R, h, hf => hf a h
  | .ask i j k, R, h, hf => ⟨h.1, h.2.1, Asks.bind (t := k (lt i j)) h.2.2 hf⟩
theorem Asks.wp {α : Type} {n : Nat} {lt : Nat → Nat → Bool} {cmp : Nat → Nat → (Bool → Shared → Prop) → Shared → Prop} {s : Shared} {G : α → Shared → Prop} (hc : ∀ i j C, i < n → j < n → C (lt i j) s → cmp i j C s) :
    ∀ {t : KasT α} {R : α → Prop}, Asks n lt t R → (∀ a, R a → G a s) → t.kasWp cmp G s
  | .ret a, R, h, hf => hf a h
  | .ask i j k, R, h, hf => hc i j _ h.1 h.2.1 (Asks.wp hc (t := k (lt i j)) h.2.2 hf)
section
variable {n : Nat} {r : Nat → Int} {p : Array Nat}
abbrev ltOf (r : Nat → Int) : Nat → Nat → Bool := fun i j => decide (r i < r j)
abbrev R (r : Nat → Int) (p : Array Nat) (k : Nat) : Int := r (p.getD k 0)
structure Ok (n : Nat) (p : Array Nat) : Prop where
  perm : p.toList.Perm (List.range n)
theorem Ok.size (h : Ok n p) : p.size = n := by have := h.perm.length_eq; simpa using this
theorem Ok.lt (h : Ok n p) (h0 : 0 < n) (k : Nat) : p.getD k 0 < n := by
  by_cases hk : k < p.size
  · have : p.toList[k]'(by simpa using hk) ∈ p.toList := List.getElem_mem _
    have := List.mem_range.mp (h.perm.mem_iff.mp this)
    simpa [Array.getD, hk] using this
  · simpa [Array.getD, hk] using h0
theorem Ok.ne (h : Ok n p) {i j : Nat} (hi : i < n) (hj : j < n) (hij : i ≠ j) : p.getD i 0 ≠ p.getD j 0 := by
  have hs := h.size
  have nd : p.toList.Nodup := h.perm.nodup_iff.mpr List.nodup_range
  intro e
  have hi' : i < p.size := by omega
  have hj' : j < p.size := by omega
  simp [Array.getD, hi', hj'] at e
  have := (List.getElem_inj (xs := p.toList) (h₀ := by simpa using hi') (h₁ := by simpa using hj') nd).mp (by simpa using e)
  exact hij this
def Inj (n : Nat) (r : Nat → Int) : Prop := ∀ i j, i < n → j < n → r i = r j → i = j
theorem Ok.rne (h : Ok n p) (hr : Inj n r) {i j : Nat} (hi : i < n) (hj : j < n) (hij : i ≠ j) : R r p i ≠ R r p j := fun e =>
  h.ne hi hj hij (hr _ _ (h.lt (by omega) i) (h.lt (by omega) j) e)
def Srt (r : Nat → Int) (p : Array Nat) (k : Nat) : Prop := ∀ i j, i < j → j < k → R r p i < R r p j
def Dsc (r : Nat → Int) (p : Array Nat) (k : Nat) : Prop := ∀ i j, i < j → j < k → R r p j < R r p i
theorem Srt.one : Srt r p 1 := fun i j h1 h2 => by omega
theorem getD_eq (p : Array Nat) (k : Nat) : p.getD k 0 = (p[k]?).getD 0 := by simp [Array.getD, Array.getElem?_eq_some_iff]; split <;> simp_all
theorem asc_ok (h : Ok n p) (hr : Inj n r) : ∀ (f m : Nat), 1 ≤ m → m + f ≤ n → Srt r p m → Asks n (ltOf r) (kas_asc p f m) (fun m' => m ≤ m' ∧ m' ≤ m + f ∧ Srt r p m' ∧ (m' < m + f → R r p m' < R r p (m' - 1)))
  | 0, m, h1, h2, hs => ⟨Nat.le_refl _, Nat.le_refl _, hs, fun z => absurd z (by omega)⟩
  | f + 1, m, h1, h2, hs => by
    refine ⟨h.lt (by omega) _, h.lt (by omega) _, ?_⟩
    by_cases c : r (p.getD m 0) < r (p.getD (m - 1) 0)
    · have e : ltOf r (p.getD m 0) (p.getD (m - 1) 0) = true := decide_eq_true c
      rw [e]; show Asks n (ltOf r) (ite _ _ _) _; rw [if_pos rfl]
      exact ⟨Nat.le_refl _, by omega, hs, fun _ => c⟩
    · have e : ltOf r (p.getD m 0) (p.getD (m - 1) 0) = false := decide_eq_false c
      rw [e]; show Asks n (ltOf r) (ite _ _ _) _; rw [if_neg (by decide)]
      have hne := h.rne hr (i := m) (j := m - 1) (by omega) (by omega) (by omega)
      have hlt : R r p (m - 1) < R r p m := by
        have : ¬ R r p m < R r p (m - 1) := c
        omega
      have hs' : Srt r p (m + 1) := fun i j hij hj => by
        by_cases hjm : j < m
        · exact hs i j hij hjm
        · have : j = m := by omega
          subst this
          by_cases hi : i = j - 1
          · rw [hi]; exact hlt
          · have := hs i (j - 1) (by omega) (by omega); omega
      have z := asc_ok h hr f (m + 1) (by omega) (by omega) hs'
      have e2 : m + 1 + f = m + (f + 1) := by omega
      rw [e2] at z
      exact Asks.mono z fun m' ⟨a, b, c, d⟩ => ⟨by omega, b, c, d⟩
where
  Asks.mono {α : Type} {n : Nat} {lt : Nat → Nat → Bool} {Q Q' : α → Prop} : ∀ {t : KasT α}, Asks n lt t Q → (∀ a, Q a → Q' a) → Asks n lt t Q'
    | .ret a, h, hf => hf a h
    | .ask i j k, h, hf => ⟨h.1, h.2.1, Asks.mono (t := k (lt i j)) h.2.2 hf⟩
theorem desc_ok (h : Ok n p) (hr : Inj n r) : ∀ (f m : Nat), 1 ≤ m → m + f ≤ n → Dsc r p m → Asks n (ltOf r) (kas_desc f p m 0) (fun z => z.1 = p ∧ z.2.2 = 0 ∧ m ≤ z.2.1 ∧ z.2.1 ≤ m + f ∧ Dsc r p z.2.1)
  | 0, m, h1, h2, hs => ⟨rfl, rfl, Nat.le_refl _, Nat.le_refl _, hs⟩
  | f + 1, m, h1, h2, hs => by
    refine ⟨h.lt (by omega) _, h.lt (by omega) _, ?_⟩
    by_cases c : r (p.getD m 0) < r (p.getD (m - 1) 0)
    · have e : ltOf r (p.getD m 0) (p.getD (m - 1) 0) = true := decide_eq_true c
      rw [e]; show Asks n (ltOf r) (ite _ _ _) _; rw [if_pos rfl, if_neg (by omega)]
      have hs' : Dsc r p (m + 1) := fun i j hij hj => by
        by_cases hjm : j < m
        · exact hs i j hij hjm
        · have : j = m := by omega
          subst this
          have c' : R r p j < R r p (j - 1) := c
          by_cases hi : i = j - 1
          · rw [hi]; exact c'
          · have := hs i (j - 1) (by omega) (by omega); omega
      have z := desc_ok h hr f (m + 1) (by omega) (by omega) hs'
      have e2 : m + 1 + f = m + (f + 1) := by omega
      rw [e2] at z
      exact asc_ok.Asks.mono z fun z ⟨a, b, c, d, e⟩ => ⟨a, b, by omega, d, e⟩
    · have e : ltOf r (p.getD m 0) (p.getD (m - 1) 0) = false := decide_eq_false c
      rw [e]; show Asks n (ltOf r) (ite _ _ _) _; rw [if_neg (by decide)]
      refine ⟨h.lt (by omega) _, h.lt (by omega) _, ?_⟩
      have hne := h.rne hr (i := m) (j := m - 1) (by omega) (by omega) (by omega)
      have hlt : R r p (m - 1) < R r p m := by
        have : ¬ R r p m < R r p (m - 1) := c
        omega
      have e : ltOf r (p.getD (m - 1) 0) (p.getD m 0) = true := decide_eq_true hlt
      rw [e]; show Asks n (ltOf r) (ite _ _ _) _; rw [if_pos rfl]
      exact ⟨rfl, rfl, Nat.le_refl _, Nat.le_add_right _ _, hs⟩
theorem R_rev {m : Nat} (hm : m ≤ p.size) (k : Nat) (hk : k < m) : R r (kas_rev p 0 m) k = R r p (m - 1 - k) := by
  unfold R kas_rev
  rw [getD_eq, getD_eq, getElem?_mirror_all hm, if_pos ⟨Nat.zero_le _, hk⟩, Nat.zero_add]
theorem rev_ok (h : Ok n p) (m : Nat) : Ok n (kas_rev p 0 m) := ⟨(Array.perm_iff_toList_perm.mp (mirror_perm p 0 m _)).trans h.perm⟩
theorem tail3_ok (h : Ok n p) (hr : Inj n r) {m : Nat} (h1 : 1 ≤ m) (hm : m ≤ n) (hs : Dsc r p m) : Asks n (ltOf r) (kas_tail3 m n p) (fun z => 1 ≤ z.1 ∧ z.1 ≤ n ∧ Ok n z.2 ∧ Srt r z.2 z.1) := by
  have hs' : Srt r (kas_rev p 0 m) m := fun i j hij hj => by
    rw [R_rev (by rw [h.size]; exact hm) i (by omega), R_rev (by rw [h.size]; exact hm) j hj]
    exact hs _ _ (by omega) (by omega)
  refine Asks.bind (asc_ok (rev_ok h m) hr (n - m) m h1 (by omega) hs') fun m' ⟨a, b, c, _⟩ => ?_
  exact ⟨by omega, by omega, rev_ok h m, c⟩
theorem count_ok (h : Ok n p) (hr : Inj n r) (hn : 1 ≤ n) : Asks n (ltOf r) (kas_count n p) (fun z => 1 ≤ z.1 ∧ z.1 ≤ n ∧ Ok n z.2 ∧ Srt r z.2 z.1) := by
  refine Asks.bind (asc_ok h hr (n - 1) 1 (Nat.le_refl _) (by omega) Srt.one) fun m ⟨a, b, c, d⟩ => ?_
  by_cases e : m = n
  · rw [if_pos (by simpa using e)]
    exact ⟨a, by omega, h, c⟩
  · rw [if_neg (by simpa using e)]
    by_cases hm : m > 1
    · rw [if_pos hm]
      refine ⟨h.lt (by omega) _, h.lt (by omega) _, ?_⟩
      have hlt : R r p 0 < R r p (m - 1) := c 0 (m - 1) (by omega) (by omega)
      have e2 : ltOf r (p.getD 0 0) (p.getD (m - 1) 0) = true := decide_eq_true hlt
      rw [e2]; show Asks n (ltOf r) (ite _ _ _) _; rw [if_pos rfl]
      exact ⟨a, by omega, h, c⟩
    · rw [if_neg hm]
      have e1 : m = 1 := by omega
      subst e1
      have d' := d (by omega)
      refine Asks.bind (desc_ok h hr (n - 2) 2 (by omega) (by omega) ?_) fun z ⟨z1, z2, z3, z4, z5⟩ => ?_
      · intro i j hij hj
        have hi : i = 0 := by omega
        have hj : j = 1 := by omega
        subst hi
        subst hj
        exact d'
      · obtain ⟨q, m', t⟩ := z
        simp only at z1 z2 z3 z4 z5
        subst z1
        subst z2
        rw [if_neg (by simp)]
        exact tail3_ok h hr (by show 1 ≤ m'; omega) (by show m' ≤ n; omega) z5
theorem place_ok (h : Ok n p) (hr : Inj n r) {k : Nat} (hk : k < n) (hs : Srt r p k) : ∀ (f l u : Nat), l ≤ u → u ≤ k → u - l ≤ f → (∀ i, i < l → R r p i < R r p k) → (∀ i, u ≤ i → i < k → R r p k < R r p i) →
    Asks n (ltOf r) (kas_place p k f l u) (fun l' => l' ≤ k ∧ (∀ i, i < l' → R r p i < R r p k) ∧ ∀ i, l' ≤ i → i < k → R r p k < R r p i)
  | 0, l, u, h1, h2, h3, h4, h5 => ⟨by omega, h4, fun i hi hi' => h5 i (by omega) hi'⟩
  | f + 1, l, u, h1, h2, h3, h4, h5 => by
    unfold kas_place
    by_cases c : l ≥ u
    · rw [if_pos c]
      exact ⟨by omega, h4, fun i hi hi' => h5 i (by omega) hi'⟩
    · rw [if_neg c]
      refine ⟨h.lt (by omega) _, h.lt (by omega) _, ?_⟩
      have hm : (l + u) / 2 < u := by omega
      have hl : l ≤ (l + u) / 2 := by omega
      by_cases d : r (p.getD k 0) < r (p.getD ((l + u) / 2) 0)
      · have e : ltOf r (p.getD k 0) (p.getD ((l + u) / 2) 0) = true := decide_eq_true d
        rw [e]; show Asks n (ltOf r) (ite _ _ _) _; rw [if_pos rfl]
        refine place_ok h hr hk hs f l _ hl (by omega) (by omega) h4 fun i hi hi' => ?_
        have d' : R r p k < R r p ((l + u) / 2) := d
        by_cases ei : i = (l + u) / 2
        · rw [ei]; exact d'
        · have := hs ((l + u) / 2) i (by omega) hi'; omega
      · have e : ltOf r (p.getD k 0) (p.getD ((l + u) / 2) 0) = false := decide_eq_false d
        rw [e]; show Asks n (ltOf r) (ite _ _ _) _; rw [if_neg (by decide)]
        have d' : ¬ R r p k < R r p ((l + u) / 2) := d
        have hne := h.rne hr (i := k) (j := (l + u) / 2) (by omega) (by omega) (by omega)
        refine place_ok h hr hk hs f _ u (by omega) h2 (by omega) (fun i hi => ?_) h5
        by_cases ei : i = (l + u) / 2
        · rw [ei]; omega
        · have := hs i ((l + u) / 2) (by omega) (by omega); omega
theorem R_bub {k l : Nat} (hk : k < p.size) (hl : l ≤ k) (i : Nat) : R r (bubble p k (k - l)) i = if i = l then R r p k else if l < i ∧ i ≤ k then R r p (i - 1) else R r p i := by
  have e := getElem?_bubble hk (k - l) (by omega) i
  rw [show k - (k - l) = l by omega] at e
  have e' : ∀ q : Array Nat, ∀ a b : Nat, ∀ c : Array Nat, q[a]? = c[b]? → R r q a = R r c b := fun q a b c z => by unfold R; rw [getD_eq, getD_eq, z]
  by_cases h1 : i = l
  · rw [if_pos h1] at e ⊢; exact e' _ _ _ _ e
  · rw [if_neg h1] at e ⊢
    by_cases h2 : l < i ∧ i ≤ k
    · rw [if_pos h2] at e ⊢; exact e' _ _ _ _ e
    · rw [if_neg h2] at e ⊢; exact e' _ _ _ _ e
theorem bin_ok (hr : Inj n r) : ∀ (f k : Nat) (p : Array Nat), Ok n p → k + f = n → Srt r p k → Asks n (ltOf r) (kas_bin f p k) (fun p' => Ok n p' ∧ Srt r p' n)
  | 0, k, p, h, e, hs => ⟨h, by rw [← e]; exact hs⟩
  | f + 1, k, p, h, e, hs => by
    refine Asks.bind (place_ok h hr (k := k) (by omega) hs k 0 k (by omega) (Nat.le_refl _) (by omega) (fun i hi => absurd hi (by omega)) (fun i hi hi' => absurd hi' (by omega))) fun l ⟨h1, h2, h3⟩ => ?_
    refine bin_ok hr f (k + 1) _ ⟨(Array.perm_iff_toList_perm.mp (bubble_perm p k _)).trans h.perm⟩ (by omega) fun i j hij hj => ?_
    have hk : k < p.size := by rw [h.size]; omega
    rw [R_bub hk h1, R_bub hk h1]
    by_cases ei : i = l
    · rw [if_pos ei]
      by_cases ej : j = l
      · omega
      · rw [if_neg ej, if_pos ⟨by omega, by omega⟩]
        exact h3 _ (by omega) (by omega)
    · rw [if_neg ei]
      by_cases ej : j = l
      · rw [if_pos ej, if_neg (by omega)]
        exact h2 i (by omega)
      · rw [if_neg ej]
        by_cases ci : l < i ∧ i ≤ k
        · rw [if_pos ci, if_pos ⟨by omega, by omega⟩]
          exact hs _ _ (by omega) (by omega)
        · rw [if_neg ci]
          by_cases cj : l < j ∧ j ≤ k
          · rw [if_pos cj]
            by_cases cl : i = j - 1
            · omega
            · exact hs _ _ (by omega) (by omega)
          · rw [if_neg cj]
            exact hs _ _ (by omega) (by omega)
theorem sort_ok (hr : Inj n r) (hn : 1 ≤ n) : Asks n (ltOf r) (kas_sort n) (fun p => Ok n p ∧ Srt r p n) := by
  have h0 : Ok n (List.toArray (List.range n)) := ⟨by simp⟩
  refine Asks.bind (count_ok h0 hr hn) fun z ⟨h1, h2, h3, h4⟩ => ?_
  by_cases c : z.1 < n
  · rw [if_pos c, Nat.max_eq_left h1]
    exact bin_ok hr _ _ _ h3 (by omega) h4
  · rw [if_neg c]
    exact ⟨h3, by rw [show n = z.1 by omega]; exact h4⟩
/-- what comes out: the places in order -/
theorem sort_list (hr : Inj n r) (hn : 1 ≤ n) : Asks n (ltOf r) (kas_sort n) (fun p => p.toList.Perm (List.range n) ∧ p.toList.Pairwise (fun i j => r i < r j)) := by
  refine asc_ok.Asks.mono (sort_ok hr hn) fun p ⟨h1, h2⟩ => ⟨h1.perm, ?_⟩
  rw [List.pairwise_iff_getElem]
  intro i j hi hj hij
  have hi' : i < p.size := by simpa using hi
  have hj' : j < p.size := by simpa using hj
  have z := h2 i j hij (by rw [← h1.size]; exact hj')
  simpa [R, Array.getD, hi', hj'] using z
end
end Stree
end

section
set_option Elab.async false
set_option linter.unusedVariables false
set_option maxRecDepth 100000
set_option maxHeartbeats 1000000
/-! list.sort by a key, over any heap: a claim J goes with the keys that have been made. -/
namespace Stree
open PySem PySem.W PySem.Calls PyProof.Rows
section
variable {prog : Program} {w : World} {A : Around} {E : Value → Shared → Prop}
theorem fold_keys {f : Value} {vs : List Value} {kS : Addr} {J : List Value → Shared → Prop} {body : Value → PUnit → Sem (ForInStep PUnit)}
    (hb : ∀ ks s v, J ks s → vs[ks.length]? = some v → wpAny (model prog w) A (body v ⟨⟩) (fun r s' => r = .yield ⟨⟩ ∧ ∃ k, J (ks ++ [k]) s') E s) :
    ∀ (r ks : List Value) (s : Shared), vs.drop ks.length = r → ks.length ≤ vs.length → J ks s → wpAny (model prog w) A (forIn r PUnit.unit body) (fun _ s' => ∃ ks, ks.length = vs.length ∧ J ks s') E s
  | [], ks, s, hr, hle, hJ => by
    rw [List.forIn_nil]
    refine wpAny_pure ⟨ks, ?_, hJ⟩
    have := congrArg List.length hr
    rw [List.length_drop] at this
    simp at this
    omega
  | v :: r, ks, s, hr, hle, hJ => by
    rw [List.forIn_cons]
    have hv : vs[ks.length]? = some v := by
      have := congrArg (fun l => l[0]?) hr
      simpa using this
    have hlt : ks.length < vs.length := by
      rcases Nat.lt_or_ge ks.length vs.length with h | h
      · exact h
      · rw [List.getElem?_eq_none h] at hv; cases hv
    refine wpAny_bind (wpAny_mono (hb ks s v hJ hv) (fun q s' hq => ?_) fun _ _ x => x)
    obtain ⟨rfl, k, hJ'⟩ := hq
    show wpAny (model prog w) A (forIn r PUnit.unit body) _ E s'
    refine fold_keys (kS := kS) (f := f) hb r (ks ++ [k]) s' ?_ (by rw [List.length_append, List.length_singleton]; omega) hJ'
    rw [List.length_append, List.length_singleton, List.drop_add_one_eq_tail_drop, hr]
    rfl
theorem sortBy {s : Shared} {a : Addr} {vs : List Value} {f : Value} {b : Bool} {P : PySem.Fin → Shared → Prop} {n0 : Nat} (ho : s.heap.get? a = some (seqObj "list" vs.toArray n0)) (h64 : vs.length < 64) (J : Nat → List Value → Shared → Prop)
    (h0 : ∀ e1 h', (∀ c o, c ≠ a → s.heap.get? c = some o → h'.get? c = some o) → h'.get? a = some (seqObj "list" #[] e1) → h'.get? (s.heap.objs.size + 1) = some (seqObj "list" #[] 0) → J e1 [] { s with heap := h' })
    (hget : ∀ e1 ks s', J e1 ks s' → (∃ e, s'.heap.get? (s.heap.objs.size + 1) = some (seqObj "list" ks.toArray e)) ∧ s'.heap.get? a = some (seqObj "list" #[] e1))
    (hcall : ∀ e1 ks s' v, J e1 ks s' → vs[ks.length]? = some v → wpAny (model prog w) A (call f [v]) (fun k s'' => (∃ e, s''.heap.get? (s.heap.objs.size + 1) = some (seqObj "list" ks.toArray e)) ∧
      ∀ h' c, Heap.SameBut (s.heap.objs.size + 1) s''.heap h' → h'.get? (s.heap.objs.size + 1) = some (seqObj "list" (ks ++ [k]).toArray c) → J e1 (ks ++ [k]) { s'' with heap := h' }) (fun _ _ => False) s')
    (hend : ∀ e1 ks s', J e1 ks s' → ks.length = vs.length → ∃ r : Nat → Int, Inj vs.length r ∧
      (2 ≤ vs.length → ∃ κ, (∀ Q : SortKind → Shared → Prop, Q κ s' → wpAny (model prog w) A (keyKind' ks.toArray) Q (fun _ _ => False) s') ∧ ∀ i j C, i < vs.length → j < vs.length → C (decide (r i < r j)) s' → kas_ask prog w A κ (katRev b ks) i j C s') ∧
      ∀ (p : List Nat) h' c c2, p.Perm (List.range vs.length) → p.Pairwise (fun i j => r i < r j) → (∀ d, d ≠ a → d ≠ s.heap.objs.size + 1 → h'.get? d = s'.heap.get? d) → h'.get? (s.heap.objs.size + 1) = some (seqObj "list" #[] c) →
        h'.get? a = some (seqObj "list" (katRev b (p.map fun i => (katRev b vs).getD i Value.none)).toArray c2) → P (.done (.ret .none)) { s' with heap := h' }) :
    wpAny (model prog w) A (ksk_tree a f b) P E s := by
  have ha : a < s.heap.objs.size := Heap.lt_size ho
  have hak : a ≠ s.heap.objs.size + 1 := Nat.ne_of_lt (Nat.lt_succ_of_lt ha)
  obtain ⟨e1, ho1⟩ : ∃ e1, (s.heap.update a (Obj.mapSeq fun _ => (#[] : Array Value))).get? a = some (seqObj "list" #[] e1) := ⟨_, get?_update_seq ho fun _ => #[]⟩
  have hkS : ((s.heap.update a (Obj.mapSeq fun _ => (#[] : Array Value))).push (seqObj "tuple" vs.toArray 0)).objs.size = s.heap.objs.size + 1 := by rw [size_push', Heap.size_update]
  unfold ksk_tree
  refine wpAny_bind (listItems_at ho rfl ?_)
  refine wpAny_bind (listUpdate_at ho rfl ?_ (by rw [List.size_toArray, sizeLine_eq]; omega) (Nat.zero_le _))
  refine wpAny_bind (seqEpoch_at ho1 rfl ?_)
  refine wpAny_bind (wpAny_newTuple ?_ (by show vs.length ≤ _; rw [sizeLine_eq]; omega))
  refine wpAny_bind (wpAny_newList ?_ (Nat.zero_le _))
  refine wpAny_holding ?_
  have J0 := h0 e1 (((s.heap.update a (Obj.mapSeq fun _ => (#[] : Array Value))).push (seqObj "tuple" vs.toArray 0)).push (seqObj "list" #[] 0))
    (fun c o hc e => Heap.get?_push_of_some _ (Heap.get?_push_of_some _ ((Heap.get?_update_other _ _ (Ne.symm hc)).trans e)))
    (Heap.get?_push_of_some _ (Heap.get?_push_of_some _ ho1)) (by rw [← hkS]; exact Heap.get?_push_size _ rfl)
  show wpAny _ _ (ksk_rest a f b vs.toArray e1 (.ref ((s.heap.update a (Obj.mapSeq fun _ => (#[] : Array Value))).push (seqObj "tuple" vs.toArray 0)).objs.size)) _ _ _
  rw [hkS]
  unfold ksk_rest
  refine wpAny_bind (wpAny_rule ?_)
  first
    | rw [List.forIn_toArray]
    | (rw [← Array.forIn_toList]; simp only [List.toList_toArray])
    | rw [← Array.forIn_toList]
  refine wpAny_bind (wpAny_mono (fold_keys (f := f) (kS := s.heap.objs.size + 1) (J := J e1) (vs := vs) (fun ks s' v hJ hv => ?_) vs [] _ (by simp) (Nat.zero_le _) J0) (fun _ s' hd => ?_) fun _ _ x => x)
  · have hlt : ks.length < vs.length := by
      rcases Nat.lt_or_ge ks.length vs.length with h | h
      · exact h
      · rw [List.getElem?_eq_none h] at hv; cases hv
    refine wpAny_bind (wpAny_attempt (wpAny_mono (hcall e1 ks s' v hJ hv) (fun k s'' hk => ?_) fun _ _ hF => hF.elim))
    obtain ⟨⟨e, nk⟩, c⟩ := hk
    have s1 := Heap.SameBut.update s''.heap (s.heap.objs.size + 1) (Obj.mapSeq (·.push k))
    have ea : (List.toArray ks).push k = List.toArray (ks ++ [k]) := by simp
    obtain ⟨c2, hc2⟩ : ∃ c2, (s''.heap.update (s.heap.objs.size + 1) (Obj.mapSeq (·.push k))).get? (s.heap.objs.size + 1) = some (seqObj "list" (List.toArray (ks ++ [k])) c2) := ⟨_, by rw [← ea]; exact get?_update_seq nk (·.push k)⟩
    try dsimp only
    refine wpAny_bind (listUpdate_at nk rfl ?_ (by rw [List.size_toArray, sizeLine_eq]; omega) (Nat.le_trans (Nat.le_of_eq (Array.size_push ..)) (by rw [List.size_toArray, sizeLine_eq]; omega)))
    exact wpAny_pure ⟨rfl, k, c _ c2 s1 hc2⟩
  · obtain ⟨ks, hl, hJ⟩ := hd
    obtain ⟨⟨e, hk'⟩, haa⟩ := hget e1 ks s' hJ
    try dsimp only
    refine wpAny_bind (listItems_at hk' rfl ?_)
    obtain ⟨r, hr, hask, hfin⟩ := hend e1 ks s' hJ hl
    have step : ∀ t : Sem PySem.Fin, wpAny (model prog w) A t P E s' → wpAny (model prog w) A (if b = true then (do let _ ← rule "list.sort.reverse"; t) else t) P E s' := by
      intro t ht
      split
      · exact wpAny_bind (wpAny_rule ht)
      · exact ht
    have hlr : (katRev b ks).length = (katRev b vs).length := by rw [kat_len, kat_len, hl]
    -- the end, from the places in order
    have tail : ∀ (st : SortSt) (p : List Nat), p.Perm (List.range vs.length) → p.Pairwise (fun i j => r i < r j) → (arrOf st).map (·.2) = List.toArray (p.map fun i => (katRev b vs).getD i Value.none) → failedOf st = none →
        wpAny (model prog w) A (ksk_tail a b e1 (.ref (s.heap.objs.size + 1)) st) P E s' := by
      intro st p hp1 hp2 hout hf
      have hpl : p.length = vs.length := by rw [hp1.length_eq, List.length_range]
      obtain ⟨ck, hck⟩ : ∃ ck, (s'.heap.update (s.heap.objs.size + 1) (Obj.mapSeq fun _ => (#[] : Array Value))).get? (s.heap.objs.size + 1) = some (seqObj "list" #[] ck) := ⟨_, get?_update_seq hk' fun _ => #[]⟩
      have na : (s'.heap.update (s.heap.objs.size + 1) (Obj.mapSeq fun _ => (#[] : Array Value))).get? a = some (seqObj "list" #[] e1) := (Heap.get?_update_other _ _ (Ne.symm hak)).trans haa
      obtain ⟨c2, hc2⟩ : ∃ c2, ((s'.heap.update (s.heap.objs.size + 1) (Obj.mapSeq fun _ => (#[] : Array Value))).update a (Obj.mapSeq fun _ => List.toArray (katRev b (p.map fun i => (katRev b vs).getD i Value.none)))).get? a = some (seqObj "list" (List.toArray (katRev b (p.map fun i => (katRev b vs).getD i Value.none))) c2) :=
        ⟨_, get?_update_seq na fun _ => List.toArray (katRev b (p.map fun i => (katRev b vs).getD i Value.none))⟩
      have hsz : (List.toArray (katRev b (p.map fun i => (katRev b vs).getD i Value.none))).size = vs.length := by rw [List.size_toArray, kat_len, List.length_map, hpl]
      unfold ksk_tail
      try dsimp only
      rw [hout, kat_outs]
      refine wpAny_bind (listUpdate_at hk' rfl ?_ (by rw [List.size_toArray, sizeLine_eq]; omega) (Nat.zero_le _))
      refine wpAny_bind (wpAny_letGo ?_)
      refine wpAny_bind (seqEpoch_at na rfl ?_)
      refine wpAny_bind (listUpdate_at na rfl ?_ (Nat.zero_le _) (Nat.le_trans (Nat.le_of_eq hsz) (by rw [sizeLine_eq]; omega)))
      rw [hf]
      simp only [bne_self_eq_false, Bool.false_eq_true, if_false]
      refine wpAny_pure (hfin p _ ck c2 hp1 hp2 (fun d h1 h2 => ?_) ?_ hc2)
      · exact (Heap.get?_update_other _ _ (Ne.symm h1)).trans (Heap.get?_update_other _ _ (Ne.symm h2))
      · exact (Heap.get?_update_other _ _ hak).trans hck
    unfold ksk_end
    try dsimp only
    refine step _ ?_
    rw [kat_pairs b hl]
    by_cases h2 : vs.toArray.size < 2
    · rw [if_pos h2, if_pos h2]
      refine wpAny_bind (wpAny_pure ?_)
      refine wpAny_bind (wpAny_pure ?_)
      have h2' : vs.length < 2 := by rw [List.size_toArray] at h2; exact h2
      refine tail _ (List.range vs.length) (List.Perm.refl _) ?_ ?_ rfl
      · rw [List.pairwise_iff_getElem]
        intro i j hi hj hij
        rw [List.length_range] at hi hj
        omega
      · show ((List.toArray (katRev b ks)).zip (List.toArray (katRev b vs))).map (·.2) = _
        apply Array.toList_inj.mp
        rw [Array.toList_map, Array.toList_zip]
        simp only [List.toList_toArray]
        have e1 : (List.zip (katRev b ks) (katRev b vs)).map (·.2) = katRev b vs := List.map_snd_zip (Nat.le_of_eq hlr.symm)
        rw [e1]
        apply List.ext_getElem?
        intro i
        rw [List.getElem?_map]
        by_cases hi : i < vs.length
        · have hi' : i < (katRev b vs).length := by rw [kat_len]; exact hi
          rw [List.getElem?_range hi]
          simp [List.getD, List.getElem?_eq_getElem hi']
        · have hi' : (katRev b vs).length ≤ i := by rw [kat_len]; omega
          rw [List.getElem?_eq_none hi', List.getElem?_eq_none (by rw [List.length_range]; omega)]
          rfl
    · have h2' : 2 ≤ vs.length := by rw [List.size_toArray] at h2; omega
      rw [if_neg h2, if_neg h2]
      obtain ⟨κ, hκ, hcmp⟩ := hask h2'
      refine wpAny_bind (wpAny_mono (hκ (fun k s'' => k = κ ∧ s'' = s') ⟨rfl, rfl⟩) (fun k s'' hq => ?_) fun _ _ x => x.elim)
      obtain ⟨rfl, rfl⟩ := hq
      have hk2 : (kas_sort (katRev b vs).length).kasWp (kas_ask prog w A k (katRev b ks)) (fun p s3 => s3 = s'' ∧ p.toList.Perm (List.range vs.length) ∧ p.toList.Pairwise (fun i j => r i < r j)) s'' := by
        rw [kat_len]
        exact Asks.wp (lt := ltOf r) hcmp (sort_list hr (by omega)) fun p hp => ⟨rfl, hp⟩
      refine wpAny_bind (wpAny_mono (kat_run (Q := fun st' s3 => ∃ p : Array Nat, arrOf st' = p.map (kas_item ((List.toArray (katRev b ks)).zip (List.toArray (katRev b vs)))) ∧ failedOf st' = none ∧
          s3 = s'' ∧ p.toList.Perm (List.range vs.length) ∧ p.toList.Pairwise (fun i j => r i < r j))
        hlr (by rw [kat_len]; exact h2') (by rw [kat_len]; exact h64) (fun p' st' s3 a1 a2 a3 a4 => ⟨p', a2, a3, a4⟩) hk2) ?_ fun _ _ x => x)
      rintro ⟨⟨⟩, st'⟩ s3 ⟨p, har, hf, rfl, hp1, hp2⟩
      try dsimp only
      exact tail _ p.toList hp1 hp2 (kat_snds hlr har) hf
end
end Stree
end

section
set_option Elab.async false
set_option linter.unusedVariables false
set_option maxRecDepth 100000
set_option maxHeartbeats 1000000
/-! LAMBDAS in the hand layer: made, called. -/
namespace L2
open PySem PySem.Spec PyProof.Rows
/-- the context of a lambda's body -/
abbrev lamX (X : Cx) (A : Around) (N : List Str) (qual : Str) (sc : Scope) (L q : Addr) (cd : Value) (cl : List (Str × Addr)) (s : Shared) (H : Hp) : Cx :=
  { X with A := A.deeper (PySem.W.envX qual sc L q cd cl), N := N, s₀ := s, H₀ := H, env := PySem.W.envX qual sc L q cd cl, outer := X.stack, stack := PySem.W.envX qual sc L q cd cl :: X.stack, ex := [], fn := fun _ => false, calm := true, pn := [], xe := fun _ _ => False }
section
variable {X : Cx} {pins : List (Addr × Obj)} {σ : St} {H : Hp} {s : Shared}
theorem lam_call {A : Around} {x : Str} {names : List Str} {fr : List Nat} {sc : Scope} {cl : List (Str × Addr)} {name qual : Str} {params : Arguments} {body : Expr} {pm ctv : Value} {q c' : Addr} {te : TE} {v : V} {u : Value} {Q : VK}
    (I : Inv X pins σ H s) (hA : A.frames = some X.stack) (hd : A.handled = none) (hroom : A.depth < recursionLimit) (S : LcScope X.N X.env.scope x names fr sc) (hco : sc.isCoroutine = false) (hgen : sc.isGenerator = false)
    (hcl1 : ∀ y c, cl.lookup y = some c → X.env.cells.lookup y = some c) (hcl2 : ∀ y, (y, NameKind.free) ∈ sc.names → ∃ c, cl.lookup y = some c)
    (ho : s.heap.get? q = some (PySem.W.kla_obj name qual params body sc cl pm c' ctv)) (hcd : s.heap.CodeRec (.ref c') qual)
    (hb : ∀ u : Value, bindArgs (PySem.W.kla_fn name qual params body sc cl pm (.ref c') ctv) ⟨[u], []⟩ = pure [(x, u)])
    (he : ∀ A L cd s H, PE (lamX X A (x :: names) qual sc L q cd cl s H) body te) (r : RelV v u) (h : te (sub σ fr (some v)) H Q) :
    wpAny (model X.prog X.w) A (call (.ref q) [u]) (EP X pins σ Q) (fun _ _ => False) s := by
  have key : codeAny (model X.prog X.w) A (.call (.ref q) ⟨[u], []⟩) (fun r s' => match r with | .ok (.ret u) => EP X pins σ Q u s' | _ => False) s := by
    refine PySem.W.kla_callFunE hroom ho rfl hco hgen rfl hcd ?_
    rw [hb u]
    refine wpAny_pure (wpAny_newFunctionEnv S.nocell (fun y hy => by rw [List.mem_singleton.mp hy]; exact S.var) (fun h₁ hns hsb => ?_) S.kind)
    have keep : ∀ b o, s.heap.get? b = some o → h₁.get? b = some o := fun b o e => hsb.extBut b o (Nat.ne_of_lt (Heap.lt_size e)) (Heap.get?_push_of_some _ e)
    refine ⟨I.nolimit.keeps keep, ?_⟩
    show codeAny _ _ (.expr body (PySem.W.envX qual sc s.heap.objs.size q (.ref c') cl)) _ _
    have okY : (lamX X A (x :: names) qual sc s.heap.objs.size q (.ref c') cl s H).Ok := by
      refine ⟨I.ok.mod, S.kind, rfl, rfl, Nat.le_refl _, ?_, ?_, ?_, fun _ => hd, Around.frames_deeper hA, .inr ⟨rfl, rfl⟩, ?_, I.bs, Nat.le_trans I.ok.bsz I.sz, ?_, ?_, I.stack, I.stkFree⟩
      · exact fun y z c h1 h2 => I.ok.inj y z c (hcl1 y c h1) (hcl1 z c h2)
      · intro y hy
        have hy' : sc.names.lookup y = some .cell ∨ sc.names.lookup y = some .free := hy
        rcases hy' with hy' | hy'
        · exact absurd rfl (S.nocell _ (PySem.mem_of_lookup hy'))
        · exact hcl2 y (PySem.mem_of_lookup hy')
      · exact fun y c h _ => by cases h
      · exact fun b hb => absurd (show b ∈ ([] : List Addr) from hb) (by simp)
      · exact fun b o _ hb => absurd (show b ∈ ([] : List Addr) from hb) (by simp)
      · exact fun b hb => absurd (show b ∈ ([] : List Addr) from hb) (by simp)
    have IY : Inv (lamX X A (x :: names) qual sc s.heap.objs.size q (.ref c') cl s H) [] (sub σ fr (some v)) H { s with heap := h₁, toks := s.toks + [(x, u)].length } := by
      refine ⟨okY, rfl, I.bare, Un.kept keep, ⟨_, hns, ?_⟩, ?_, I.hok.fresh (Nat.le_refl _), fun y c e => I.freeC y c (hcl1 y c e), fun p hp => absurd (show p ∈ ([] : List (Addr × Obj)) from hp) (by simp), I.hok.kept keep, ?_⟩
      · intro i y v' h1 h2 h3
        cases i with
        | zero =>
          have h1' : x = y := by simpa using h1
          have h2' : v = v' := by
            have z : (some (some v) : Option (Option V)) = some (some v') := h2
            cases z
            rfl
          subst h1'
          subst h2'
          exact ⟨u, r, .inl ⟨S.var, by simp [List.lookup]⟩⟩
        | succ j =>
          have h1' : names[j]? = some y := h1
          obtain ⟨i', e1, e2, e3⟩ := S.from_ j y h1'
          have h2' : σ[i']? = some (some v') := by
            have z : (fr.map fun i => (σ[i]?).join)[j]? = some (some v') := h2
            rw [List.getElem?_map, e1] at z
            have z' : (σ[i']?).join = some v' := Option.some.inj z
            cases q : σ[i']? with
            | none => rw [q] at z'; cases z'
            | some o => rw [q] at z'; rw [show o = some v' from z']
          obtain ⟨m, hn, hl⟩ := I.loc
          have hvis : Vis X.env.scope y := .inr (S.free _ e3 rfl)
          obtain ⟨u', ru, lk⟩ := hl i' y v' e2 h2' hvis
          refine ⟨u', ru, .inr ⟨?_, ?_⟩⟩
          · exact .inr (S.flk _ e3 rfl)
          · rcases lk with ⟨k, _⟩ | ⟨k, c, e, z⟩
            · rcases S.free _ e3 rfl with z | z
              · have z' : X.env.kindOf y = some .cell := z
                rw [k] at z'; cases z'
              · have z' : X.env.kindOf y = some .free := z
                rw [k] at z'; cases z'
            · obtain ⟨c', e'⟩ := hcl2 y e3
              have := hcl1 y c' e'
              rw [e] at this; cases this
              exact ⟨c, e', z.keeps keep⟩
      · intro y c e
        obtain ⟨v, z⟩ := I.cell y c (hcl1 y c e)
        exact ⟨v, z.keeps keep⟩
      · show (sub σ fr (some v)).length = (x :: names).length
        simp [sub, S.len]
    refine PySem.W.kla_codeExpr (wpAny_mono (he A s.heap.objs.size (.ref c') s H [] _ (sub σ fr (some v)) H Q IY h) (fun w s' hq => ?_) (fun _ _ z => z.elim))
    obtain ⟨v', H', J, rv, q⟩ := hq
    exact I.after ⟨v', H', J.os, J.bare, J.base, J.hok, rv, q⟩
  refine wpAny_call (codeAny_mono key fun r s' hq => ?_)
  cases r with
  | error e => exact hq
  | ok fl =>
    cases fl with
    | ret u => exact hq
    | next => exact hq
    | brk => exact hq
    | cont => exact hq
end
end L2
end

section
set_option Elab.async false
set_option linter.unusedVariables false
set_option maxRecDepth 100000
set_option maxHeartbeats 1000000
namespace L2
open PySem PySem.Spec PyProof.Rows
/-- a code object that is known by its name, a function object that is known -/
def codeO (c : Addr) (qual : Str) : HO := .ext fun h => h.CodeRec (.ref c) qual
def objO (q : Addr) (o : Obj) : HO := .ext fun h => h.get? q = some o
theorem codeO_ok {P : Program} {w : World} {H : Hp} {h : Heap} {c : Addr} {qual : Str} (r : h.CodeRec (.ref c) qual) : ObjOk P w H h c (codeO c qual) := by
  obtain ⟨c2, o, vs, t, e, h1, h2, h3⟩ := id r
  cases e
  refine ⟨r, ⟨o, h1⟩, fun h1 h2 z k => ?_⟩
  obtain ⟨c3, o', vs', t', e', a1, a2, a3⟩ := z
  cases e'
  exact ⟨_, o', vs', t', rfl, k _ a1, a2, a3⟩
theorem objO_ok {P : Program} {w : World} {H : Hp} {h : Heap} {q : Addr} {o : Obj} (r : h.get? q = some o) : ObjOk P w H h q (objO q o) := ⟨r, ⟨o, r⟩, fun h1 h2 z k => k _ z⟩
/-- the table of the code of a def that writes one lambda: empty, or the lambda's code stands in it -/
def TabIs (pos : Pos) (qual : Str) (P : Addr) (H : Hp) : Prop :=
  H P = some (.tbl #[]) ∨ ∃ c', H P = some (.tbl (#[] ++ #[rawInt pos.line, rawInt pos.col, .ref c'])) ∧ H c' = some (codeO c' qual)
/-- all is kept but tables -/
def SameT (H H' : Hp) : Prop := ∀ b o, (∀ ps, o ≠ .tbl ps) → H b = some o → H' b = some o
theorem Same.t {H H' : Hp} (k : Same H H') : SameT H H' := fun b o _ e => k b o e
theorem SameT.refl (H : Hp) : SameT H H := fun _ _ _ e => e
theorem SameT.trans {H H1 H2 : Hp} (a : SameT H H1) (b : SameT H1 H2) : SameT H H2 := fun c o n e => b c o n (a c o n e)
theorem SameT.lst {H H' : Hp} (k : SameT H H') {a : Addr} {xs : List V} (h : H a = some (.lst xs)) : H' a = some (.lst xs) := k a _ (fun _ z => nomatch z) h
theorem SameT.tup {H H' : Hp} (k : SameT H H') {a : Addr} {xs : List V} (h : H a = some (.tup xs)) : H' a = some (.tup xs) := k a _ (fun _ z => nomatch z) h
theorem SameT.ext {H H' : Hp} (k : SameT H H') {a : Addr} {φ : Heap → Prop} (h : H a = some (.ext φ)) : H' a = some (.ext φ) := k a _ (fun _ z => nomatch z) h
theorem SameT.seq {K : PySem.W.Frag} {H H' : Hp} {a : Addr} {xs : List V} (k : SameT H H') (h : SqL K H a xs) : SqL K H' a xs := by
  rcases h with h | h
  · rcases h with h | ⟨o, h⟩
    · exact .inl (.inl (k.lst h))
    · exact .inl (.inr ⟨o, k a _ (fun _ z => nomatch z) h⟩)
  · exact .inr h
theorem triples_nil : PySem.TriplesOk (#[] : Array Value).toList := trivial
theorem triples_one {a b : Int} {v : Value} : PySem.TriplesOk ((#[] ++ #[rawInt a, rawInt b, v] : Array Value)).toList := trivial
theorem among_one {pos : Pos} {v : Value} : codeAmong pos ((#[] ++ #[rawInt pos.line, rawInt pos.col, v] : Array Value)).toList = some v := by
  show (if ((pos.line : Int) == pos.line && (pos.col : Int) == pos.col) = true then some v else _) = some v
  simp
section
variable {X : Cx} {pins : List (Addr × Obj)} {σ : St} {H : Hp} {s : Shared}
/-- an entry is added to a table -/
theorem Inv.tab {P : Addr} {ps more : Array Value} {h' : Heap} {t' : Nat} (I : Inv X pins σ H s) (hP : H P = some (.tbl ps)) (hx : Heap.ExtBut P s.heap h') (ht : h'.get? P = some { cls := .none, data := .fields (ps ++ more) }) :
    Inv X pins σ (upd H P (.tbl (ps ++ more))) { s with heap := h', toks := t' } := by
  have nP : ∀ b, H b = none → b ≠ P := fun b n z => by rw [z, hP] at n; cases n
  have ne : ∀ b o, H b = some o → (∀ ps, o ≠ .tbl ps) → b ≠ P := fun b o e n z => by subst z; rw [hP] at e; cases e; exact n _ rfl
  refine I.un (t' := t') ⟨fun b o e n _ _ => hx b o (nP b n) e, fun b o e n _ _ => ⟨o.slots, hx b o (nP b n) e⟩, fun b o e n _ => by rw [upd_ne (nP b n)]; exact n, fun b o e _ => ?_, fun b xs e => ?_, fun b o u e => ?_, fun b qs e => ?_⟩ fun b u e => ?_
  · by_cases hb : b = P
    · exact ⟨_, by rw [hb]; exact ht⟩
    · exact ⟨o, hx b o hb e⟩
  · rw [upd_ne (ne b _ e fun _ z => nomatch z)]; exact e
  · rw [upd_ne (ne b _ e fun _ z => nomatch z)]; exact e
  · by_cases hb : b = P
    · subst hb
      rw [hP] at e; cases e
      exact ⟨more, upd_same⟩
    · exact ⟨#[], by rw [upd_ne hb, e]; simp⟩
  · by_cases hb : b = P
    · subst hb
      rw [upd_same] at e
      cases e
      exact ht
    · rw [upd_ne hb] at e
      refine (I.hok b u e).stay (fun c v hc q => hx c v ?_ q) (fun c q => ?_) fun c xs q => ?_
      · rcases hc with rfl | hc
        · exact hb
        · exact ne c _ hc fun _ z => nomatch z
      · rw [upd_ne (ne c _ q fun _ z => nomatch z)]; exact q
      · rw [upd_ne (ne c _ q fun _ z => nomatch z)]; exact q
theorem lam_make {name qual : Str} {params : Arguments} {body : Expr} {sc : Scope} {c P : Addr} {pos : Pos} {fl : Nat} {cl : List (Str × Addr)} {E : Value → Shared → Prop} {Q : Value → Shared → Prop} (I : Inv X pins σ H s) (hcl : closureFor sc X.env = pure cl) (hcode : X.env.code = .ref c)
    (C : PySem.W.CodeHd X.base c P) (hB : X.base.BuiltinsAt X.mg P) (hT : TabIs pos qual P H)
    (hq : ∀ (q c' : Addr) (ctv : Value) (H' : Hp) (s' : Shared), Inv X pins σ H' s' → H q = none → H' q = some (objO q (PySem.W.kla_obj name qual params body sc cl ((X.mg "__name__").getD .none) c' ctv)) → H' c' = some (codeO c' qual) → TabIs pos qual P H' → SameT H H' → Q (.ref q) s') :
    wpAny (model X.prog X.w) X.A (makeFunction name qual params (.expr body) sc X.env [] [] [] pos fl) Q E s := by
  have hg : s.heap.Ns mainGlobals X.mg := I.ok.mod.glob.keeps I.bk
  have hC := C.keeps I.bk
  obtain ⟨bm, ob, b1, b2, b3, b4, b5, b6⟩ := hB
  have hBs : s.heap.BuiltinsAt X.mg P := ⟨bm, ob, b1, b2, b3, b4, I.bk _ _ b5, b6⟩
  rcases hT with hP | ⟨c', hP, hc'⟩
  · have hPo : s.heap.get? P = some (PySem.W.tabObj #[]) := I.hok P _ hP
    have hgP : mainGlobals ≠ P := fun z => by
      obtain ⟨o, es, ep, e, hd, _⟩ := hg
      rw [z, hPo] at e; cases e; cases hd
    refine PySem.W.kla_makeFunction (mg := X.mg) hcl I.ok.glob hg hcode hC hPo triples_nil rfl hgP hBs fun c' ctv h' tk hx hge hlt hrec htb => ?_
    have I1 := I.tab (t' := tk) hP hx htb
    have hPc : P ≠ c' := Nat.ne_of_lt (Nat.lt_of_lt_of_le (Heap.lt_size hPo) hge)
    have nc : H c' = none := I.hok.fresh hge
    have nc1 : upd H P (.tbl (#[] ++ #[rawInt pos.line, rawInt pos.col, .ref c'])) c' = none := by rw [upd_ne (Ne.symm hPc)]; exact nc
    -- the code object is known now
    have I2 : Inv X pins σ (upd (upd H P (.tbl (#[] ++ #[rawInt pos.line, rawInt pos.col, .ref c']))) c' (codeO c' qual)) { s with heap := h', toks := tk } := by
      have hx' : Heap.ExtBut P s.heap h' := hx
      have nP : ∀ b, H b = none → b ≠ P := fun b n z => by rw [z, hP] at n; cases n
      have ne : ∀ b o, H b = some o → (∀ ps, o ≠ .tbl ps) → b ≠ P := fun b o e n z => by subst z; rw [hP] at e; cases e; exact n _ rfl
      have nec : ∀ b o, s.heap.get? b = some o → b ≠ c' := fun b o e => Nat.ne_of_lt (Nat.lt_of_lt_of_le (Heap.lt_size e) hge)
      have u2 : ∀ b, b ≠ P → b ≠ c' → upd (upd H P (.tbl (#[] ++ #[rawInt pos.line, rawInt pos.col, .ref c']))) c' (codeO c' qual) b = H b := fun b h1 h2 => by rw [upd_ne h2, upd_ne h1]
      have hl : ∀ b u, H b = some u → b ≠ c' := fun b u e => ne_of_none e nc
      refine I.un (t' := tk) ⟨fun b o e n _ _ => hx b o (nP b n) e, fun b o e n _ _ => ⟨o.slots, hx b o (nP b n) e⟩, fun b o e n _ => by rw [u2 b (nP b n) (nec b o e)]; exact n, fun b o e _ => ?_, fun b xs e => ?_, fun b o u e => ?_, fun b qs e => ?_⟩ fun b u e => ?_
      · by_cases hb : b = P
        · exact ⟨_, by rw [hb]; exact htb⟩
        · exact ⟨o, hx b o hb e⟩
      · rw [u2 b (ne b _ e fun _ z => nomatch z) (hl b _ e)]; exact e
      · rw [u2 b (ne b _ e fun _ z => nomatch z) (hl b _ e)]; exact e
      · by_cases hb : b = P
        · subst hb
          rw [hP] at e; cases e
          exact ⟨_, by rw [upd_ne hPc]; exact upd_same⟩
        · exact ⟨#[], by rw [u2 b hb (hl b _ e), e]; simp⟩
      · by_cases hbc : b = c'
        · subst hbc
          rw [upd_same] at e
          cases e
          exact codeO_ok hrec
        · rw [upd_ne hbc] at e
          refine (I1.hok b u e).stay (fun c v _ q => q) (fun c q => ?_) fun c xs q => ?_
          · rw [upd_ne (ne_of_none q nc1)]; exact q
          · rw [upd_ne (ne_of_none q nc1)]; exact q
    have hq0 : H h'.objs.size = none := I.hok.fresh (Nat.le_trans hge (Nat.le_of_lt hlt))
    have I3 := I2.laid (a := h'.objs.size) (o := objO h'.objs.size (PySem.W.kla_obj name qual params body sc cl ((X.mg "__name__").getD .none) c' ctv)) (t' := tk) (h' := h'.push (PySem.W.kla_obj name qual params body sc cl ((X.mg "__name__").getD .none) c' ctv))
      (fun b o e => Heap.get?_push_of_some _ e) (Nat.le_refl _) (objO_ok (Heap.get?_push_size _ rfl))
    have hcq : c' ≠ h'.objs.size := Nat.ne_of_lt hlt
    have hPq : P ≠ h'.objs.size := Nat.ne_of_lt (Heap.lt_size htb)
    refine hq h'.objs.size c' ctv _ _ I3 hq0 upd_same (by rw [upd_ne hcq]; exact upd_same) (.inr ⟨c', by rw [upd_ne hPq, upd_ne hPc]; exact upd_same, by rw [upd_ne hcq]; exact upd_same⟩) fun b o n e => ?_
    have h1 : b ≠ P := fun z => by subst z; rw [hP] at e; cases e; exact n _ rfl
    rw [upd_ne (ne_of_none e hq0), upd_ne (ne_of_none e nc), upd_ne h1]
    exact e
  · have hPo : s.heap.get? P = some (PySem.W.tabObj (#[] ++ #[rawInt pos.line, rawInt pos.col, .ref c'])) := I.hok P _ hP
    refine PySem.W.kla_makeFunctionHit (mg := X.mg) hcl I.ok.glob hg hcode hC hPo triples_one among_one hBs fun ctv h' tk hk hge => ?_
    have I1 : Inv X pins σ H { s with heap := h', toks := tk } := I.kept hk
    have hq0 : H h'.objs.size = none := I1.hok.fresh (Nat.le_refl _)
    have I3 := I1.laid (a := h'.objs.size) (o := objO h'.objs.size (PySem.W.kla_obj name qual params body sc cl ((X.mg "__name__").getD .none) c' ctv)) (t' := tk) (h' := h'.push (PySem.W.kla_obj name qual params body sc cl ((X.mg "__name__").getD .none) c' ctv))
      (fun b o e => Heap.get?_push_of_some _ e) (Nat.le_refl _) (objO_ok (Heap.get?_push_size _ rfl))
    have k := same_upd hq0 (objO h'.objs.size (PySem.W.kla_obj name qual params body sc cl ((X.mg "__name__").getD .none) c' ctv))
    exact hq h'.objs.size c' ctv _ _ I3 hq0 upd_same (k _ _ hc') (.inr ⟨c', k _ _ hP, k _ _ hc'⟩) k.t
end
end L2
end

section
set_option Elab.async false
set_option linter.unusedVariables false
set_option maxRecDepth 100000
set_option maxHeartbeats 1000000
namespace Stree
open PySem PySem.W PySem.Calls PyProof.Rows
/-- a strict order of places by numbers -/
theorem countP_lt {α : Type} (p q : α → Bool) : ∀ (l : List α), (∀ a ∈ l, p a = true → q a = true) → (∃ a ∈ l, p a = false ∧ q a = true) → l.countP p < l.countP q
  | [], _, h => by obtain ⟨a, ha, _⟩ := h; cases ha
  | x :: r, hs, h => by
    have hle : r.countP p ≤ r.countP q := List.countP_mono_left fun a ha => hs a (List.mem_cons_of_mem _ ha)
    obtain ⟨a, ha, h1, h2⟩ := h
    rcases List.mem_cons.mp ha with rfl | ha
    · rw [List.countP_cons, List.countP_cons, h1, h2]
      simp
      omega
    · have ih := countP_lt p q r (fun a ha => hs a (List.mem_cons_of_mem _ ha)) ⟨a, ha, h1, h2⟩
      rw [List.countP_cons, List.countP_cons]
      have := hs x List.mem_cons_self
      cases hp : p x with
      | false => cases q x <;> simp <;> omega
      | true => rw [this hp]; simp; omega
theorem rank_of {n : Nat} (lt : Nat → Nat → Bool) (irr : ∀ i, i < n → lt i i = false) (tr : ∀ i j k, i < n → j < n → k < n → lt i j = true → lt j k = true → lt i k = true) (tot : ∀ i j, i < n → j < n → i ≠ j → lt i j = true ∨ lt j i = true) :
    ∃ r : Nat → Int, Inj n r ∧ ∀ i j, i < n → j < n → decide (r i < r j) = lt i j := by
  refine ⟨fun i => ((List.range n).countP fun m => lt m i : Nat), ?_, ?_⟩
  · have up : ∀ i j, i < n → j < n → lt i j = true → ((List.range n).countP fun m => lt m i) < ((List.range n).countP fun m => lt m j) := fun i j hi hj h =>
      countP_lt _ _ _ (fun m hm hmi => tr m i j (List.mem_range.mp hm) hi hj hmi h) ⟨i, List.mem_range.mpr hi, irr i hi, h⟩
    intro i j hi hj e
    by_cases hij : i = j
    · exact hij
    · exfalso
      have e' : (((List.range n).countP fun m => lt m i : Nat) : Int) = ((List.range n).countP fun m => lt m j : Nat) := e
      rcases tot i j hi hj hij with h | h
      · have := up i j hi hj h; omega
      · have := up j i hj hi h; omega
  · intro i j hi hj
    have up : ∀ i j, i < n → j < n → lt i j = true → ((List.range n).countP fun m => lt m i) < ((List.range n).countP fun m => lt m j) := fun i j hi hj h =>
      countP_lt _ _ _ (fun m hm hmi => tr m i j (List.mem_range.mp hm) hi hj hmi h) ⟨i, List.mem_range.mpr hi, irr i hi, h⟩
    cases h : lt i j with
    | true =>
      have := up i j hi hj h
      exact decide_eq_true (by show (((List.range n).countP fun m => lt m i : Nat) : Int) < ((List.range n).countP fun m => lt m j : Nat); omega)
    | false =>
      refine decide_eq_false ?_
      show ¬ (((List.range n).countP fun m => lt m i : Nat) : Int) < ((List.range n).countP fun m => lt m j : Nat)
      by_cases hij : i = j
      · subst hij; omega
      · rcases tot i j hi hj hij with h' | h'
        · rw [h] at h'; cases h'
        · have := up j i hj hi h'; omega
section
variable {prog : Program} {w : World} {A : Around} {E : Value → Shared → Prop} {s : Shared}
theorem collect_range {r : Addr} {n : Nat} {t u v : Tok} {Q : List Value → Shared → Prop} (hh : A.handled = none) (hr : IsRange s.heap r 0 n 1 t u v) (hn : n < 64)
    (hQ : ∀ h' tk vs, (∀ b o, s.heap.get? b = some o → h'.get? b = some o) → s.heap.objs.size < h'.objs.size → IntsAre vs ((List.range n).map Int.ofNat) → Q vs { s with heap := h', toks := tk }) : wpAny (model prog w) A (collect (.ref r)) Q E s := by
  have hz : Builtin.Range.rangeSize 0 n 1 = (n : Int) := by rw [rangeSize_one]; split <;> omega
  have hsm : Builtin.Range.small 0 n 1 = true := small_one (by decide) (by decide) (by omega) (by omega)
  unfold collect
  refine wpAny_bind (wpAny_runValue (codeAny_builtin F.entry_proto_collect ?_))
  rw [Around.under_plainId F.plain_proto_collect _]
  show wpAny _ A.in1 (newList [] >>= fun l => again (.builtin "list.__iadd__" ⟨[l, .ref r], []⟩)) _ _ s
  refine wpAny_bind (wpAny_newObj_type ?_)
  refine wpAny_pure ⟨plainId_quiet F.plain_list_iadd _, codeAny_builtin F.entry_list_iadd ?_⟩
  rw [Around.under_plainId F.plain_list_iadd _]
  have hS₁ : (s.heap.push { cls := .type "list", data := .seq ([] : List Value).toArray }).get? s.heap.objs.size = some { cls := .type "list", data := .seq ([] : List Value).toArray } := Heap.get?_push_size _ rfl
  show wpAny _ A.in1 (Builtin.List.listExtendWith (.ref s.heap.objs.size) (.ref r) (.ref s.heap.objs.size)) _ _ _
  refine wpAny_mono (wpAny_extend_range (A := A) (R := fun q s' => q = .ok (.ret (.ref s.heap.objs.size)) ∧ ∃ acc' c', s'.heap.get? s.heap.objs.size = some { cls := .type "list", dict := none, data := .seq acc' c', slots := #[] } ∧ Q acc'.toList s') (s := { s with heap := s.heap.push { cls := .type "list", data := .seq ([] : List Value).toArray } }) hh (Heap.get?_push_of_some _ hr) hsm hz (by omega) s.heap.objs.size (.ref s.heap.objs.size) 0 hS₁ fun h' tk acc' c' hk hS' hacc => ⟨rfl, acc', c', hS', ?_⟩) (fun fin s' hf => ?_) fun e s' he => by obtain ⟨z, _⟩ := he; cases z
  rotate_left
  · cases fin with
    | done f =>
      obtain ⟨e, acc', c', h1, h2⟩ := hf
      have e' : f = .ret (.ref s.heap.objs.size) := by cases e; rfl
      subst e'
      exact wpAny_bind (wpAny_load h1 (wpAny_pure h2))
    | again c' =>
      exact ⟨hf.1, codeAny_mono hf.2 fun q s'' hq => by
        obtain ⟨rfl, acc', c', h1, h2⟩ := hq
        exact wpAny_bind (wpAny_load h1 (wpAny_pure h2))⟩
  refine hQ h' tk acc'.toList (fun b o e => hk b o (Nat.ne_of_lt (Heap.lt_size e)) (Heap.get?_push_of_some _ e)) (Heap.lt_size hS') ?_
  have len : acc'.toList.length = n := by rw [Array.length_toList]; exact hacc.1
  have all : ∀ (k : Nat) (l : List Value), l.length ≤ n → k + l.length = n → (∀ i v, l[i]? = some v → ∃ t, v = Value.int ((k + i : Nat) : Int) t) → IntsAre l ((List.range' k l.length).map Int.ofNat) := by
    intro k l
    induction l generalizing k with
    | nil => intro _ _ _; exact .nil
    | cons x l ih =>
      intro h1 h2 h3
      obtain ⟨t, rfl⟩ := h3 0 x rfl
      rw [List.length_cons, List.range'_succ, List.map_cons]
      exact .cons _ _ (ih (k + 1) (by rw [List.length_cons] at h1; omega) (by rw [List.length_cons] at h2; omega) fun i v hv => by
        obtain ⟨t', e⟩ := h3 (i + 1) v hv
        exact ⟨t', by rw [e, show k + (i + 1) = k + 1 + i by omega]⟩)
  have z := all 0 acc'.toList (by omega) (by omega) fun i v hv => by
    obtain ⟨t, e⟩ := hacc.2 i v (by rw [← Array.getElem?_toList]; exact hv)
    exact ⟨t, by rw [e, show (0 : Int) + (i : Int) * 1 = ((0 + i : Nat) : Int) by omega]⟩
  rw [len] at z
  rw [List.range_eq_range']
  exact z
theorem sorted_range {r : Addr} {n : Nat} {t u v : Tok} {b : Bool} {f : Value} {kw : List (Str × Value)} {Q : Value → Shared → Prop} (hh : A.handled = none) (hr : IsRange s.heap r 0 n 1 t u v) (hn : n < 64)
    (ha1 : argsOk "sorted" ⟨[.ref r], kw⟩) (ha2 : ∀ x, argsOk "list.sort" ⟨[.ref x], kw⟩) (ht : ∀ x, Builtin.«list.sort» ⟨[.ref x], kw⟩ = ksk_tree x f b)
    (h : ∀ a h' tk vs, (∀ b o, s.heap.get? b = some o → h'.get? b = some o) → s.heap.objs.size ≤ a → h'.get? a = some (seqObj "list" vs.toArray 0) → IntsAre vs ((List.range n).map Int.ofNat) →
      wpAny (model prog w) A.in1.in1 (ksk_tree a f b) (fun fin s' => fin = .done (.ret .none) ∧ Q (.ref a) s') (fun _ _ => False) { s with heap := h', toks := tk }) :
    wpAny (model prog w) A (call (.builtin "sorted") [.ref r] kw) Q E s := by
  refine call_function_entry_kw kind_sorted plain_sorted entry_sorted ha1 ?_
  unfold Builtin.«sorted»
  refine wpAny_bind (m := checkCount "sorted" 1 1 _) (wpAny_pure ?_)
  refine wpAny_bind (collect_range (A := A.in1) (by simpa using hh) hr hn fun h' tk vs hk hlt hI => ?_)
  have hvl : vs.length = n := by rw [hI.length]; simp
  refine wpAny_bind (wpAny_newList ?_ (by rw [sizeLine_eq]; omega))
  have hoL : (h'.push (seqObj "list" vs.toArray 0)).get? h'.objs.size = some (seqObj "list" vs.toArray 0) := Heap.get?_push_size _ rfl
  have hle : s.heap.objs.size ≤ h'.objs.size := Nat.le_of_lt hlt
  refine wpAny_bind (wpAny_holding (wpAny_call_entry_kw slot_list_sort ⟨_, hoL, rfl⟩ entry_list_sort ?body (ha2 _)))
  case body =>
    show wpAny (model prog w) A.in1.in1 (Builtin.«list.sort» ⟨[.ref h'.objs.size], kw⟩) _ _ _
    rw [ht h'.objs.size]
    refine wpAny_mono (h h'.objs.size (h'.push (seqObj "list" vs.toArray 0)) tk vs (fun b o e => Heap.get?_push_of_some _ (hk b o e)) hle hoL hI) (fun fin s' hq => ?_) fun _ _ x => x.elim
    obtain ⟨rfl, hq⟩ := hq
    exact ⟨_, rfl, wpAny_pure ⟨_, rfl, hq⟩⟩
end
end Stree
end

section
set_option Elab.async false
set_option linter.unusedVariables false
set_option maxRecDepth 100000
set_option maxHeartbeats 1000000
namespace Stree
open PySem PySem.W PySem.Calls PyProof.Rows
/-- pairs of numbers, in order -/
def lex2 (a b : Int × Int) : Bool := decide (a.1 < b.1) || (decide (a.1 = b.1) && decide (a.2 < b.2))
theorem lex2_irr (a : Int × Int) : lex2 a a = false := by simp [lex2]
theorem lex2_tr {a b c : Int × Int} (h1 : lex2 a b = true) (h2 : lex2 b c = true) : lex2 a c = true := by
  simp only [lex2, Bool.or_eq_true, Bool.and_eq_true, decide_eq_true_eq] at h1 h2 ⊢
  omega
theorem lex2_tot {a b : Int × Int} (h : a ≠ b) : lex2 a b = true ∨ lex2 b a = true := by
  have h' : ¬ (a.1 = b.1 ∧ a.2 = b.2) := fun ⟨x, y⟩ => h (Prod.ext x y)
  simp only [lex2, Bool.or_eq_true, Bool.and_eq_true, decide_eq_true_eq]
  omega
section
variable {prog : Program} {w : World} {A : Around} {E : Value → Shared → Prop} {s : Shared}
theorem eq_ints {a c : Int} {t t' : Tok} {Q : Bool → Shared → Prop} (h : Q (a == c) s) : wpAny (model prog w) A (eqBool (.int a t) (.int c t')) Q E s :=
  (L2.eqAt_V (A := A) (s := s) (y := .int a) (x := .int c) ⟨t, rfl⟩ ⟨t', rfl⟩ rfl rfl) prog w E Q h
theorem lt_pair {x y : Addr} {ox oy : Obj} {n k : Nat} {a b c d : Int} {t1 t2 t3 t4 : Tok} {Q : Bool → Shared → Prop} (hx : s.heap.get? x = some ox) (dx : ox.data = .seq #[.int a t1, .int b t2] n) (hy : s.heap.get? y = some oy) (dy : oy.data = .seq #[.int c t3, .int d t4] k)
    (h : Q (lex2 (a, b) (c, d)) s) : wpAny (model prog w) A (keyLt' (tuples' true) (.ref x) (.ref y)) Q E s := by
  refine kat_lt hx dx hy dy ?_
  refine kat_cons (eq_ints ?_)
  unfold lex2 at h
  by_cases e : a = c
  · subst e
    simp only [Int.lt_irrefl, decide_false, Bool.false_or, decide_true, Bool.true_and] at h
    rw [beq_self_eq_true]
    refine kat_yes (kat_cons (eq_ints ?_))
    by_cases e2 : b = d
    · subst e2
      rw [beq_self_eq_true]
      refine kat_yes (kat_nil ?_)
      simpa using h
    · rw [beq_eq_false_iff_ne.mpr e2]
      refine kat_no (kat_one _ _ ?_)
      exact lt_int h
  · rw [beq_eq_false_iff_ne.mpr e]
    have h' : Q (decide (a < c)) s := by
      have : decide (a = c) = false := decide_eq_false e
      simpa [this] using h
    refine kat_no ?_
    exact oneLt_int h'
end
end Stree
namespace L2
open PySem PySem.Spec PyProof.Rows
def ixb (b : Bool) (n i : Nat) : Nat := if b = true then n - 1 - i else i
theorem ixb_lt {b : Bool} {n i : Nat} (h : i < n) : ixb b n i < n := by unfold ixb; split <;> omega
theorem ixb_inj {b : Bool} {n i j : Nat} (hi : i < n) (hj : j < n) (h : ixb b n i = ixb b n j) : i = j := by unfold ixb at h; split at h <;> omega
theorem rev_getD {α : Type} {b : Bool} {l : List α} {n i : Nat} {d : α} (hn : l.length = n) (hi : i < n) : (PySem.W.katRev b l).getD i d = l.getD (ixb b n i) d := by
  unfold PySem.W.katRev ixb
  split
  · simp only [List.getD]
    rw [List.getElem?_reverse (by omega), hn]
  · rfl
theorem out_ok {n : Nat} {b : Bool} {kz : Nat → Int × Int} {r : Nat → Int} {p : List Nat} (hp : p.Perm (List.range n)) (hp2 : p.Pairwise fun i j => r i < r j) (hr2 : ∀ i j, i < n → j < n → decide (r i < r j) = Stree.lex2 (kz (ixb b n i)) (kz (ixb b n j))) :
    (PySem.W.katRev b (p.map (ixb b n))).Perm (List.range n) ∧ (PySem.W.katRev b (p.map (ixb b n))).Pairwise fun i j => Stree.lex2 (if b = true then kz j else kz i) (if b = true then kz i else kz j) = true := by
  have h2 : (p.map (ixb b n)).Pairwise fun i j => Stree.lex2 (kz i) (kz j) = true := by
    rw [List.pairwise_map]
    have hm : ∀ i ∈ p, i < n := fun i hi => List.mem_range.mp (hp.mem_iff.mp hi)
    refine hp2.imp_of_mem fun {i j} hi hj h => ?_
    rw [← hr2 i j (hm i hi) (hm j hj)]
    exact decide_eq_true h
  have h1 := hp.map (ixb b n)
  cases b with
  | false =>
    have e : ixb false n = id := by funext i; rfl
    rw [e] at h1 h2 ⊢
    rw [List.map_id, List.map_id] at h1
    rw [List.map_id] at h2 ⊢
    exact ⟨h1, h2⟩
  | true =>
    have e : (List.range n).map (ixb true n) = (List.range n).reverse := by
      apply List.ext_getElem?
      intro i
      by_cases hi : i < n
      · rw [List.getElem?_map, List.getElem?_range hi, List.getElem?_reverse (by simpa using hi), List.length_range, List.getElem?_range (by omega)]
        rfl
      · rw [List.getElem?_eq_none (by simp; omega), List.getElem?_eq_none (by simp; omega)]
    rw [e] at h1
    refine ⟨(List.reverse_perm _).trans (h1.trans (List.reverse_perm _)), ?_⟩
    show ((p.map (ixb true n)).reverse).Pairwise _
    rw [List.pairwise_reverse]
    exact h2
/-- keys that have been made: pairs -/
def KeysAre (H : Hp) (kz : Nat → Int × Int) (ks : List Value) : Prop := ∀ i v, ks[i]? = some v → ∃ a, v = .ref a ∧ H a = some (.tup [.int (kz i).1, .int (kz i).2])
/-- sorted(range(e), key=lambda x: body, reverse=b), the keys pairs of ints that differ -/
def tSortLam (te : TE) (fr : List Nat) (tb : TE) (P : Addr) (lpos : Pos) (qual : Str) (b : Bool) : TE := fun σ H Q => te σ H fun v H1 => ∃ n : Nat, v = .int n ∧ n < 64 ∧ TabIs lpos qual P H1 ∧ ∃ kz : Nat → Int × Int,
  (∀ i j, i < n → j < n → kz i = kz j → i = j) ∧
  (∀ i H3, i < n → SameT H1 H3 → TabIs lpos qual P H3 → ∀ R : VK, (∀ a H4, SameT H3 H4 → H4 P = H3 P → H4 a = some (.tup [.int (kz i).1, .int (kz i).2]) → R (.ref a) H4) → tb (sub σ fr (some (.int i))) H3 R) ∧
  ∀ H5 l (out : List Nat), SameT H1 H5 → TabIs lpos qual P H5 → H1 l = none → out.Perm (List.range n) → (out.Pairwise fun i j => Stree.lex2 (if b = true then kz j else kz i) (if b = true then kz i else kz j) = true) → H5 l = some (.lst (out.map fun i => .int (i : Nat))) → Q (.ref l) H5
theorem TabIs.keep {lpos : Pos} {qual : Str} {P : Addr} {H H' : Hp} (t : TabIs lpos qual P H) (k : SameT H H') (e : H' P = H P) : TabIs lpos qual P H' := by
  rcases t with t | ⟨c, t1, t2⟩
  · exact .inl (e.trans t)
  · exact .inr ⟨c, e.trans t1, k.ext t2⟩
section
variable {X : Cx} {e body : Expr} {te tb : TE} {x : Str} {names : List Str} {fr : List Nat} {sc : Scope} {params : Arguments} {qual : Str} {p p2 p3 pos lpos kp kp2 bp : Pos} {j : Nat} {b : Bool} {c P : Addr} {k : Nat}
theorem pe_sortLam (hgS : Gl X "sorted") (hmS : X.mg "sorted" = none) (hgR : Gl X "range") (hmR : X.mg "range" = none) (he : PE X e te) (S : LcScope X.N X.env.scope x names fr sc) (hco : sc.isCoroutine = false) (hgen : sc.isGenerator = false)
    (hcode : X.env.code = .ref c) (C : PySem.W.CodeHd X.base c P) (hB : X.base.BuiltinsAt X.mg P) (hr : Room (k + 1) X.A) (hdef : defaultsOf params X.env = ([], [])) (hq : X.env.qual ++ "<lambda>" = qual)
    (hb : ∀ (cl : List (Str × Addr)) (pm cdv ctv u : Value), bindArgs (PySem.W.kla_fn "<lambda>" qual params body sc cl pm cdv ctv) ⟨[u], []⟩ = pure [(x, u)])
    (hbody : ∀ A L q cd cl s H, PE (lamX X A (x :: names) qual sc L q cd cl s H) body tb) (b1 : bootBuiltins "sorted" = some (.builtin "sorted") := by decide +kernel)
    (s2 : starEach [e] X.env = [(false, eval e X.env)] := by rfl) :
    PE X (.Call (.Name "sorted" p) [.Call (.Name "range" p2) [e] [] p3] [⟨some "key", .Lambda params body sc lpos, kp⟩, ⟨some "reverse", .Constant (.bool b) j bp, kp2⟩] pos) (tSortLam te fr tb P lpos qual b) := by
  intro pins s σ H Q I h
  refine wpAny_Call_Name_kw (ld_blt I hgS hmS b1 ?_)
  refine callWith_kw ?_
  show wpAny _ _ (spliced ((false, eval (.Call (.Name "range" p2) [e] [] p3) X.env) :: [])) _ _ s
  refine Calls.spliced_cons ?_
  refine wpAny_Call_Name_kw (ld_blt I hgR hmR boot_range ?_)
  refine PyProof.Rows.callWith_type1 ?_ s2 rfl
  refine thn (pa_cons he pa_nil s2 p3 pins s σ H (fun vs H1 => match vs with | [v] => (∃ n : Nat, v = .int n ∧ n < 64 ∧ TabIs lpos qual P H1 ∧ ∃ kz : Nat → Int × Int,
      (∀ i j, i < n → j < n → kz i = kz j → i = j) ∧
      (∀ i H3, i < n → SameT H1 H3 → TabIs lpos qual P H3 → ∀ R : VK, (∀ a H4, SameT H3 H4 → H4 P = H3 P → H4 a = some (.tup [.int (kz i).1, .int (kz i).2]) → R (.ref a) H4) → tb (sub σ fr (some (.int i))) H3 R) ∧
      ∀ H5 l (out : List Nat), SameT H1 H5 → TabIs lpos qual P H5 → H1 l = none → out.Perm (List.range n) → (out.Pairwise fun i j => Stree.lex2 (if b = true then kz j else kz i) (if b = true then kz i else kz j) = true) → H5 l = some (.lst (out.map fun i => .int (i : Nat))) → Q (.ref l) H5) | _ => False) I h) fun us s1 ⟨vs, H1, I1, r1, z⟩ => ?_
  match vs, z with
  | [v], ⟨n, e2, hn, hT, kz, hinj, hkey, hfin⟩ =>
    subst e2
    obtain ⟨u, rfl, ru⟩ := vals1 r1
    obtain ⟨t, rfl⟩ := ru
    refine call_range_1 (Calls.spliced_nil ?_)
    -- the range object is pinned while the lambda is made
    have fR := I1.fpOk (b := s1.heap.objs.size) (Nat.le_refl _) I1.fresh
    have I2 : Inv X ((s1.heap.objs.size, { cls := .type "range", data := .fields #[.int 0 s1.toks, .int (n : Int) t, .int 1 (s1.toks + 1)] }) :: pins) σ H1 { s1 with heap := s1.heap.push { cls := .type "range", data := .fields #[.int 0 s1.toks, .int (n : Int) t, .int 1 (s1.toks + 1)] }, toks := s1.toks + 1 + 1 } := by
      have I0 : Inv X pins σ H1 { s1 with heap := s1.heap.push { cls := .type "range", data := .fields #[.int 0 s1.toks, .int (n : Int) t, .int 1 (s1.toks + 1)] }, toks := s1.toks + 1 + 1 } := I1.kept fun b o e => Heap.get?_push_of_some _ e
      refine I0.pins_of fun q hq => ?_
      rcases List.mem_cons.mp hq with rfl | hq
      · exact ⟨Heap.get?_push_size _ rfl, fR.1, fR.2.1, fR.2.2.1, fun v z => by cases z⟩
      · exact I0.pin q (List.mem_append_right _ hq)
    obtain ⟨cl, c1, c2, c4⟩ := lc_clos S I2
    refine kws_cons (PySem.W.kla_eval hdef ?_)
    rw [hq]
    refine lam_make I2 c1 hcode C hB hT fun q c' ctv H' s' I3 hq0 hq1 hc1 hT1 hS1 => ?_
    refine kws_cons (Constant_bool (kws_nil ?_))
    show wpAny _ _ (call (.builtin "sorted") [.ref s1.heap.objs.size] [(Str.ofString "key", .ref q), (Str.ofString "reverse", .bool b)]) _ _ s'
    have hrng : IsRange s'.heap s1.heap.objs.size 0 n 1 s1.toks t (s1.toks + 1) := (I3.pin _ (List.mem_append_right _ (List.mem_cons_self ..))).1
    have I4 : Inv X pins σ H' s' := I3.pins_of fun p hp => I3.pin p (List.mem_append_right _ (List.mem_cons_of_mem _ hp))
    refine Stree.sorted_range hr.hd hrng hn (ksk_s2 _ _ _) (fun x => ksk_l2 _ _ _) (fun x => ksk_t2 q x b) fun a h1 tk vs hk hle ha hI => ?_
    have hvl : vs.length = n := by rw [hI.length]; simp
    have I5 : Inv X pins σ H' { s' with heap := h1, toks := tk } := I4.kept hk
    have fa := I4.fpOk (b := a) hle (I4.hok.fresh hle)
    have hal : a < h1.objs.size := Heap.lt_size ha
    have hks : s'.heap.objs.size ≤ h1.objs.size + 1 := Nat.le_trans hle (Nat.le_of_lt (Nat.lt_succ_of_lt hal))
    have fk := I4.fpOk (b := h1.objs.size + 1) hks (I4.hok.fresh hks)
    refine Stree.sortBy (s := { s' with heap := h1, toks := tk }) ha (by rw [hvl]; exact hn) (fun e1 ks st => ∃ (H3 : Hp) (e : Nat), Inv X ((a, seqObj "list" #[] e1) :: (h1.objs.size + 1, seqObj "list" ks.toArray e) :: pins) σ H3 st ∧ SameT H' H3 ∧ TabIs lpos qual P H3 ∧ KeysAre H3 kz ks) ?h0 ?hget ?hcall ?hend
    case h0 =>
      intro e1 h2 k2 a2 q2
      have I6 : Inv X pins σ H' { s' with heap := h2, toks := tk } := I5.turned (t' := tk) (h' := h2) (fun b o hb e => k2 b o hb e) fa.1 fa.2.1 fa.2.2.2.1 fa.2.2.2.2.1 fa.2.2.2.2.2
      refine ⟨H', 0, I6.pins_of fun p hp => ?_, SameT.refl _, hT1, fun i v hv => by simp at hv⟩
      rcases List.mem_cons.mp hp with rfl | hp
      · exact ⟨a2, fa.1, fa.2.1, fa.2.2.1, fun v z => by cases z⟩
      · rcases List.mem_cons.mp hp with rfl | hp
        · exact ⟨q2, fk.1, fk.2.1, fk.2.2.1, fun v z => by cases z⟩
        · exact I6.pin p (List.mem_append_right _ hp)
    case hget =>
      rintro e1 ks st ⟨H3, e, J, _, _, _⟩
      exact ⟨⟨e, (J.pin _ (List.mem_append_right _ (List.mem_cons_of_mem _ (List.mem_cons_self ..)))).1⟩, (J.pin _ (List.mem_append_right _ (List.mem_cons_self ..))).1⟩
    case hcall =>
      rintro e1 ks st v ⟨H3, e, J, k3, t3, z3⟩ hv
      have hi : ks.length < n := by
        rcases Nat.lt_or_ge ks.length vs.length with h | h
        · omega
        · rw [List.getElem?_eq_none h] at hv; cases hv
      obtain ⟨t', rfl⟩ : ∃ t', v = Value.int (ks.length : Nat) t' := by
        have r := vals_ints hI
        have e3 : ((((List.range n).map Int.ofNat)).map V.int)[ks.length]? = some (V.int (ks.length : Nat)) := by simp [hi]
        obtain ⟨u, hu, ru⟩ := r.get e3
        rw [hv] at hu
        cases hu
        exact ru
      have hqo : st.heap.get? q = some (PySem.W.kla_obj "<lambda>" qual params body sc cl ((X.mg "__name__").getD .none) c' ctv) := (J.hok q _ (k3.ext hq1)).1
      have hco' : st.heap.CodeRec (.ref c') qual := (J.hok c' _ (k3.ext hc1)).1
      refine wpAny_mono (lam_call (A := X.A.in1.in1) J I.ok.frames hr.hd (by have := hr.dp; show X.A.depth < _; omega) S hco hgen c2 c4 hqo hco' (fun u => hb cl _ _ _ u) (fun A L cd s H => hbody A L q cd cl s H) (v := .int (ks.length : Nat)) ⟨t', rfl⟩
        (Q := fun v H4 => ∃ a4, v = .ref a4 ∧ SameT H3 H4 ∧ H4 P = H3 P ∧ H4 a4 = some (.tup [.int (kz ks.length).1, .int (kz ks.length).2])) (hkey ks.length H3 hi (hS1.trans k3) t3 _ fun a4 H4 k4 p4 e4 => ⟨a4, rfl, k4, p4, e4⟩)) (fun kv s4 hq4 => ?_) fun _ _ x => x
      obtain ⟨v4, H4, J4, rv4, a4, rfl, k4, p4, e4⟩ := hq4
      cases rv4
      refine ⟨⟨e, (J4.pin _ (List.mem_append_right _ (List.mem_cons_of_mem _ (List.mem_cons_self ..)))).1⟩, fun h5 c5 sb hk5 => ?_⟩
      have J4' : Inv X pins σ H4 s4 := J4.pins_of fun p hp => J4.pin p (List.mem_append_right _ (List.mem_cons_of_mem _ (List.mem_cons_of_mem _ hp)))
      have pa := J4.pin _ (List.mem_append_right _ (List.mem_cons_self ..))
      have pk := J4.pin _ (List.mem_append_right _ (List.mem_cons_of_mem _ (List.mem_cons_self ..)))
      have J5 : Inv X pins σ H4 { s4 with heap := h5, toks := s4.toks } := J4'.turned (t' := s4.toks) (h' := h5) (it := h1.objs.size + 1) (fun b o hb e => (sb.2 b hb).trans e) pk.2.1 fk.2.1 fk.2.2.2.1 fk.2.2.2.2.1 fk.2.2.2.2.2
      refine ⟨H4, c5, J5.pins_of fun p hp => ?_, k3.trans k4, t3.keep k4 p4, fun i v hv => ?_⟩
      · rcases List.mem_cons.mp hp with rfl | hp
        · exact ⟨(sb.2 _ (Nat.ne_of_lt (Nat.lt_succ_of_lt hal))).trans pa.1, pa.2⟩
        · rcases List.mem_cons.mp hp with rfl | hp
          · exact ⟨hk5, pk.2.1, fk.2.1, fk.2.2.1, fun v z => by cases z⟩
          · exact J5.pin p (List.mem_append_right _ hp)
      · by_cases hil : i < ks.length
        · rw [List.getElem?_append_left hil] at hv
          obtain ⟨a6, e6, h6⟩ := z3 i v hv
          exact ⟨a6, e6, k4.tup h6⟩
        · rw [List.getElem?_append_right (by omega)] at hv
          have : i - ks.length = 0 := by
            rcases Nat.lt_or_ge (i - ks.length) 1 with h | h
            · omega
            · rw [List.getElem?_eq_none (by simpa using h)] at hv; cases hv
          have ei : i = ks.length := by omega
          subst ei
          simp at hv
          exact ⟨a4, hv.symm, e4⟩
    case hend =>
      rintro e1 ks st ⟨H3, e, J, k3, t3, z3⟩ hl
      have J' : Inv X pins σ H3 st := J.pins_of fun p hp => J.pin p (List.mem_append_right _ (List.mem_cons_of_mem _ (List.mem_cons_of_mem _ hp)))
      have hkl : ks.length = n := by omega
      obtain ⟨r, hr1, hr2⟩ := Stree.rank_of (n := n) (fun i j => Stree.lex2 (kz (ixb b n i)) (kz (ixb b n j))) (fun i _ => Stree.lex2_irr _) (fun i j k _ _ _ h1 h2 => Stree.lex2_tr h1 h2)
        (fun i j hi hj hij => Stree.lex2_tot fun z => hij (ixb_inj hi hj (hinj _ _ (ixb_lt hi) (ixb_lt hj) z)))
      -- a key's object
      have ob : ∀ i, i < n → ∃ a o t1 t2 m, ks.getD i Value.none = .ref a ∧ st.heap.get? a = some o ∧ o.cls = .type "tuple" ∧ o.data = .seq #[.int (kz i).1 t1, .int (kz i).2 t2] m := fun i hi => by
        obtain ⟨a6, e6, h6⟩ := z3 i (ks.getD i Value.none) (by simp [List.getD, List.getElem?_eq_getElem (show i < ks.length by omega)])
        obtain ⟨its, rv, pl, _⟩ := J'.tuple (SqT.of h6)
        obtain ⟨u1, u2, rfl, r1, r2⟩ := Vals.two rv
        obtain ⟨t1, rfl⟩ := r1
        obtain ⟨t2, rfl⟩ := r2
        obtain ⟨o, g1, g2, m, g3⟩ := pl
        exact ⟨a6, o, t1, t2, m, e6, g1, g2, g3⟩
      refine ⟨r, by rw [hvl]; exact hr1, fun _ => ⟨tuples' true, fun Q' hQ' => ?_, fun i j C' hi hj hC => ?_⟩, fun p h5 c5 c6 hp1 hp2 k5 g5 o5 => ?_⟩
      · have tups : ∀ (l : List Value) (k : Nat), (∀ (i : Nat) (v : Value), l[i]? = some v → ∃ a o t1 t2 m x y, v = Value.ref a ∧ st.heap.get? a = some o ∧ o.cls = .type "tuple" ∧ o.data = .seq #[.int x t1, .int y t2] m) →
            ∃ fs, PySem.W.KatTups st.heap l fs ∧ fs.length = l.length ∧ ∀ f ∈ fs, ∃ x t, f = Value.int x t := by
          intro l
          induction l with
          | nil => intro _ _; exact ⟨[], trivial, rfl, fun f hf => by cases hf⟩
          | cons v l ih =>
            intro k hv
            obtain ⟨a, o, t1, t2, m, x, y, rfl, g1, g2, g3⟩ := hv 0 v rfl
            obtain ⟨fs, f1, f2, f3⟩ := ih (k + 1) fun i v h => hv (i + 1) v h
            refine ⟨.int x t1 :: fs, PySem.W.KatTups.cons g1 g2 g3 rfl f1, by simp [f2], fun f hf => ?_⟩
            rcases List.mem_cons.mp hf with rfl | hf
            · exact ⟨x, t1, rfl⟩
            · exact f3 f hf
        obtain ⟨fs, f1, f2, f3⟩ := tups ks 0 fun i v hv => by
          have hi : i < n := by
            rcases Nat.lt_or_ge i ks.length with h | h
            · omega
            · rw [List.getElem?_eq_none h] at hv; cases hv
          obtain ⟨a, o, t1, t2, m, g0, g1, g2, g3⟩ := ob i hi
          have : ks.getD i Value.none = v := by simp [List.getD, hv]
          rw [this] at g0
          exact ⟨a, o, t1, t2, m, _, _, g0, g1, g2, g3⟩
        refine PySem.W.kat_kind (T := .type "int") f1 (by omega) (fun v hv => ?_) rfl hQ'
        obtain ⟨x, t, rfl⟩ := f3 v hv
        exact .now
      · rw [hvl] at hi hj
        obtain ⟨ai, oi, t1, t2, m1, g0, g1, g2, g3⟩ := ob _ (ixb_lt (b := b) hi)
        obtain ⟨aj, oj, t3, t4, m2, d0, d1, d2, d3⟩ := ob _ (ixb_lt (b := b) hj)
        show wpAny _ _ (keyLt' _ ((PySem.W.katRev b ks).getD i Value.none) ((PySem.W.katRev b ks).getD j Value.none)) _ _ _
        rw [rev_getD hkl hi, rev_getD hkl hj, g0, d0]
        refine Stree.lt_pair g1 g3 d1 d3 ?_
        have := hr2 i j hi hj
        rw [this] at hC
        exact hC
      · rw [hvl] at hp1
        obtain ⟨q1, q2⟩ := out_ok hp1 hp2 hr2
        have hm : ∀ i ∈ p, i < n := fun i hi => List.mem_range.mp (hp1.mem_iff.mp hi)
        have vv : ∀ l : List Nat, (∀ i ∈ l, i < n) → Vals ((l.map (ixb b n)).map fun i => V.int (i : Nat)) (l.map fun i => (PySem.W.katRev b vs).getD i Value.none) := by
          intro l
          induction l with
          | nil => intro _; exact .nil
          | cons i l ih =>
            intro h
            refine .cons ?_ (ih fun j hj => h j (List.mem_cons_of_mem _ hj))
            have hi := h i List.mem_cons_self
            show RelV (V.int (ixb b n i : Nat)) ((PySem.W.katRev b vs).getD i Value.none)
            rw [rev_getD hvl hi]
            have hx := ixb_lt (b := b) hi
            have e3 : ((((List.range n).map Int.ofNat)).map V.int)[ixb b n i]? = some (V.int (ixb b n i : Nat)) := by simp [hx]
            obtain ⟨u, hu, ru⟩ := (vals_ints hI).get e3
            have : vs.getD (ixb b n i) Value.none = u := by simp [List.getD, hu]
            rw [this]
            exact ru
        have v2 := vv p hm
        have v3 : Vals ((PySem.W.katRev b (p.map (ixb b n))).map fun i => V.int (i : Nat)) (PySem.W.katRev b (p.map fun i => (PySem.W.katRev b vs).getD i Value.none)) := by
          unfold PySem.W.katRev at v2 ⊢
          split
          · rw [List.map_reverse]
            rename_i hb1
            simp only [hb1] at v2 ⊢
            exact v2.reverse
          · rename_i hb1
            simp only [hb1] at v2 ⊢
            exact v2
        have na : H3 a = none := (J.pin _ (List.mem_append_right _ (List.mem_cons_self ..))).2.1
        have nk : H3 (h1.objs.size + 1) = none := (J.pin _ (List.mem_append_right _ (List.mem_cons_of_mem _ (List.mem_cons_self ..)))).2.1
        have olen : (PySem.W.katRev b (p.map (ixb b n))).length = n := by rw [q1.length_eq, List.length_range]
        have hI5 : Inv X pins σ (upd H3 a (.lst ((PySem.W.katRev b (p.map (ixb b n))).map fun i => V.int (i : Nat)))) { st with heap := h5, gens := st.gens, drawn := st.drawn, toks := st.toks } := by
          have nch : ∀ d, d ∉ [a, h1.objs.size + 1] → d ≠ a ∧ d ≠ h1.objs.size + 1 := fun d hd => ⟨fun z => hd (by simp [z]), fun z => hd (by simp [z])⟩
          refine J'.step (ch := [a, h1.objs.size + 1]) (fun d hd => ?_) (fun d o _ _ hd e _ => ?_) (fun d o _ _ hd e _ => ?_) (fun d o hd e n => ?_) (fun d o hd e => ?_) (fun d xs e => ?_) (fun d o u e => ?_) (fun d qs e => ?_) (fun m hm' => ?_) (fun d u e => ?_) J'.bare
          · rcases List.mem_cons.mp hd with rfl | hd
            · exact ⟨fa.2.2.2.1, fa.2.1, fa.2.2.2.2.1, fa.2.2.2.2.2⟩
            · rw [List.mem_singleton.mp hd]
              exact ⟨fk.2.2.2.1, fk.2.1, fk.2.2.2.2.1, fk.2.2.2.2.2⟩
          · exact (k5 d (nch d hd).1 (nch d hd).2).trans e
          · exact ⟨o.slots, (k5 d (nch d hd).1 (nch d hd).2).trans e⟩
          · rw [upd_ne (nch d hd).1]; exact n
          · exact ⟨o, (k5 d (nch d hd).1 (nch d hd).2).trans e⟩
          · rw [upd_ne (ne_of_none e na)]; exact e
          · rw [upd_ne (ne_of_none e na)]; exact e
          · exact ⟨#[], by rw [upd_ne (ne_of_none e na), e]; simp⟩
          · obtain ⟨o, es, ep, ho, r⟩ := hm'
            exact ⟨o, es, ep, (k5 _ (Ne.symm fa.2.1) (Ne.symm fk.2.1)).trans ho, r⟩
          · by_cases hd : d = a
            · subst hd
              rw [upd_same] at e
              cases e
              exact ⟨by rw [List.length_map, olen, sizeLine_eq]; omega, _, c6, v3, o5⟩
            · rw [upd_ne hd] at e
              refine (J'.hok d u e).stay (fun c v hc q => ?_) (fun c q => by rw [upd_ne (ne_of_none q na)]; exact q) fun c xs q => by rw [upd_ne (ne_of_none q na)]; exact q
              have hc1 : c ≠ a := by
                rcases hc with rfl | hc
                · exact hd
                · exact ne_of_none hc na
              have hc2 : c ≠ h1.objs.size + 1 := by
                rcases hc with rfl | hc
                · exact ne_of_none e nk
                · exact ne_of_none hc nk
              exact (k5 c hc1 hc2).trans q
        have ks5 := same_upd na (.lst ((PySem.W.katRev b (p.map (ixb b n))).map fun i => V.int (i : Nat)))
        have hP : upd H3 a (.lst ((PySem.W.katRev b (p.map (ixb b n))).map fun i => V.int (i : Nat))) P = H3 P := by
          rcases t3 with t | ⟨_, t, _⟩
          · rw [upd_ne (ne_of_none t na)]
          · rw [upd_ne (ne_of_none t na)]
        have nl : H1 a = none := by
          cases hz : H1 a with
          | none => rfl
          | some o =>
            exact absurd (I1.hok.lt hz) (Nat.not_lt.mpr (Nat.le_trans (Nat.le_of_lt (Heap.lt_size hrng)) hle))
        exact ⟨rfl, .ref a, _, hI5, rfl, hfin _ a _ (hS1.trans (k3.trans ks5.t)) (t3.keep ks5.t hP) nl q1 q2 upd_same⟩
end
end L2
end

section
set_option Elab.async false
set_option linter.unusedVariables false
set_option maxRecDepth 100000
set_option maxHeartbeats 1000000
/-! sorted(xs) of a list of pairs (a tuple of pairs of ints, an int). -/
namespace Stree
open PySem PySem.W PySem.Calls PyProof.Rows
open PySem.SeqAt
open PySem.AutoSeq1 (wpAny_loadPart')
open PySem.MeetsSeq PySem.MeetsSeq2 PySem.MeetsSeq3
def lexG {α : Type} [DecidableEq α] (lt : α → α → Bool) : List α → List α → Bool
  | [], [] => false
  | [], _ :: _ => true
  | _ :: _, [] => false
  | x :: xs, y :: ys => if x = y then lexG lt xs ys else lt x y
theorem lexG_cons {α : Type} [DecidableEq α] {lt : α → α → Bool} (x y : α) (xs ys : List α) : lexG lt (x :: xs) (y :: ys) = if x = y then lexG lt xs ys else lt x y := rfl
theorem tuple_lt_rep {α : Type} [DecidableEq α] {lt : α → α → Bool} {rep : α → Value → Prop} (l b : Addr) (items items2 : Array Value) (n n2 : Nat) (dd dd2 : Option Addr) (sl sl2 : Array (Option Value)) (xs ys : List α) (hi : Paired rep xs items.toList) (hj : Paired rep ys items2.toList) :
    Meets (Builtin.«tuple.__lt__» ⟨[.ref l, .ref b], []⟩)
      (fun A R s => s.heap.get? l = some { cls := .type "tuple", dict := dd, data := .seq items n, slots := sl } ∧ s.heap.get? b = some { cls := .type "tuple", dict := dd2, data := .seq items2 n2, slots := sl2 } ∧
        (∀ x y u v, rep x u → rep y v → EqAt A.in1 s u v (decide (x = y))) ∧ (∀ x y u v, x ≠ y → rep x u → rep y v → ∀ (prog : Program) (w : World) (E : Value → Shared → Prop) (Q : Value → Shared → Prop), Q (.bool (lt x y)) s → wpAny (model prog w) A.in1 (richCompare .Lt u v) Q E s) ∧
        R (.ok (.ret (.bool (lexG lt xs ys)))) s) :=
  .of_wp fun prog w A R s h => by
    obtain ⟨hp, g, d, tk, os⟩ := s; obtain ⟨hl, hb, heq, hlt, h⟩ := h
    have f2 := AutoSeq1.sub_tuple_tuple
    have z1 : items.size = xs.length := by have := hi.length; simpa using this.symm
    have z2 : items2.size = ys.length := by have := hj.length; simpa using this.symm
    wp_walk using wpAny_loadPart' hl, wpAny_loadPart' hb, wpAny_forIn_list _ (fun rest b s' => b.1 = none ∧ s' = ⟨hp, g, d, tk, os⟩ ∧ ∃ (vs ws : List Value) (ns' ms' : List α), rest = vs.zip ws ∧
      Paired rep ns' vs ∧ Paired rep ms' ws ∧ ns'.length + items2.size = ms'.length + items.size ∧ R (.ok (.ret (.bool (lexG lt ns' ms')))) ⟨hp, g, d, tk, os⟩) _
    case turn =>
      rintro ⟨y, x⟩ rest b s' ⟨hb', rfl, vs, ws, ns', ms', hz, hvi, hwi, hlen, hR⟩
      cases hvi with
      | nil => rw [List.zip_nil_left] at hz; cases hz
      | @cons a y' ns2 vs2 ra hvi' =>
        cases hwi with
        | nil => rw [List.zip_nil_right] at hz; cases hz
        | @cons c x' ms2 ws2 rc hwi' =>
          rw [List.zip_cons_cons] at hz
          injection hz with hyx hrest
          injection hyx with hy hx
          subst hy hx
          rw [lexG_cons] at hR
          simp only [List.length_cons] at hlen
          refine wpAny_bind (heq a c _ _ ra rc prog w _ _ ?_)
          by_cases e : a = c
          · rw [if_pos e] at hR
            rw [decide_eq_true e]
            wp_walk
            exact ⟨rfl, rfl, _, _, _, _, hrest, hvi', hwi', by omega, hR⟩
          · rw [if_neg e] at hR
            rw [decide_eq_false e]
            have hri := hlt a c _ _ e ra rc prog w
            wp_walk using hri
            exact ⟨_, rfl, by simpa using hR⟩
    case fin =>
      rintro ⟨b1, b2⟩ s' ⟨hb', rfl, vs, ws, ns', ms', hz, hvi, hwi, hlen, hR⟩
      simp only at hb'
      subst hb'
      have hv : lexG lt ns' ms' = decide (items.size < items2.size) := by
        cases hvi with
        | nil =>
          cases hwi with
          | nil =>
            simp only [List.length_nil] at hlen
            exact (decide_eq_false (by omega)).symm
          | cons rc hw =>
            simp only [List.length_nil, List.length_cons] at hlen
            exact (decide_eq_true (by omega)).symm
        | cons ra hv =>
          cases hwi with
          | nil =>
            simp only [List.length_nil, List.length_cons] at hlen
            exact (decide_eq_false (by omega)).symm
          | cons rc hw =>
            rw [List.zip_cons_cons] at hz
            cases hz
      rw [hv] at hR
      wp_walk
      exact ⟨_, rfl, by simpa [Builtin.Tuple.tupleCompareSizes] using hR⟩
    case h =>
      exact ⟨rfl, rfl, items.toList, items2.toList, xs, ys, rfl, hi, hj, by omega, h⟩
section
variable {A : Around} {s : Shared} {α : Type} [DecidableEq α] {lt : α → α → Bool} {rep : α → Value → Prop} {l b : Addr} {items items2 : List Value} {xs ys : List α}
/-- u < v answers c -/
def LtAt (A : Around) (s : Shared) (u v : Value) (c : Bool) : Prop := ∀ (prog : Program) (w : World) (E : Value → Shared → Prop) (Q : Value → Shared → Prop), Q (.bool c) s → wpAny (model prog w) A (richCompare .Lt u v) Q E s
theorem lt_rep (hl : IsTup s.heap l items.toArray) (hb : IsTup s.heap b items2.toArray) (hi : Paired rep xs items) (hj : Paired rep ys items2) (hu : A.units < cLine)
    (heq : ∀ x y u v, rep x u → rep y v → EqAt A.in1 s u v (decide (x = y))) (hlt : ∀ x y u v, x ≠ y → rep x u → rep y v → LtAt A.in1 s u v (lt x y)) : LtAt A s (.ref l) (.ref b) (lexG lt xs ys) := fun prog w E Q h => by
  obtain ⟨⟨cls, dd, data, sl⟩, ho, hc, n, hd⟩ := id hl
  obtain ⟨⟨cls2, dd2, data2, sl2⟩, ho2, hc2, n2, hd2⟩ := id hb
  simp only at hc hd hc2 hd2
  subst hc hd hc2 hd2
  exact richCompare_meets_room (op := .Lt) ⟨_, ho, rfl⟩ ⟨_, ho2, rfl⟩ PySem.F.slot_tuple_lt PySem.F.entry_tuple_lt (PySem.F.args_tuple_lt_2 _ _) (tuple_lt_rep (lt := lt) l b items.toArray items2.toArray n n2 dd dd2 sl sl2 xs ys hi hj)
    ⟨ho, ho2, heq, hlt, show Value.bool (lexG lt xs ys) ≠ Value.notImplemented ∧ Q (.bool (lexG lt xs ys)) s from ⟨(fun x => nomatch x), h⟩⟩ hu
theorem all_eq : ∀ {xs ys : List α}, ((List.range (min xs.length ys.length)).all (fun j => decide (xs[j]? = ys[j]?)) && xs.length == ys.length) = decide (xs = ys) := by
  intro xs ys
  rw [Bool.eq_iff_iff]
  simp only [Bool.and_eq_true, List.all_eq_true, List.mem_range, decide_eq_true_eq, beq_iff_eq]
  constructor
  · rintro ⟨h1, h2⟩
    apply List.ext_getElem?
    intro i
    by_cases hi : i < xs.length
    · exact h1 i (by omega)
    · rw [List.getElem?_eq_none (by omega), List.getElem?_eq_none (by omega)]
  · rintro rfl
    exact ⟨fun _ _ => rfl, rfl⟩
theorem paired_get {rep : α → Value → Prop} : ∀ {xs : List α} {us : List Value} {i : Nat} {u : Value}, Paired rep xs us → us[i]? = some u → ∃ x, xs[i]? = some x ∧ rep x u
  | _, _, 0, _, .cons r _, h => by simp at h; subst h; exact ⟨_, rfl, r⟩
  | _, _, i + 1, _, .cons _ t, h => by simpa using paired_get (i := i) t (by simpa using h)
  | _, _, i, _, .nil, h => by simp at h
theorem paired_fun {rep : α → Value → Prop} (hf : ∀ x y u, rep x u → rep y u → x = y) : ∀ {xs ys : List α} {us : List Value}, Paired rep xs us → Paired rep ys us → xs = ys
  | _, _, _, .nil, .nil => rfl
  | _, _, _, .cons r t, .cons r' t' => by rw [hf _ _ _ r r', paired_fun hf t t']
theorem eq_rep (hl : IsTup s.heap l items.toArray) (hb : IsTup s.heap b items2.toArray) (hi : Paired rep xs items) (hj : Paired rep ys items2) (hu : A.units < cLine) (hf : ∀ x y u, rep x u → rep y u → x = y)
    (heq : ∀ x y u v, rep x u → rep y v → EqAt A.in1 s u v (decide (x = y))) : EqAt A s (.ref l) (.ref b) (decide (xs = ys)) := by
  by_cases e : l = b
  · subst e
    obtain ⟨o, h1, _, n, h2⟩ := hl
    obtain ⟨o', h3, _, n', h4⟩ := hb
    rw [h1] at h3
    cases h3
    rw [h2] at h4
    have e2 : items = items2 := by
      have : items.toArray = items2.toArray := by injection h4
      simpa using congrArg Array.toList this
    subst e2
    rw [decide_eq_true (paired_fun hf hi hj)]
    exact EqAt.same _
  · refine EqAt.of_refs e ?_
    have z := RcAt.tuples (A := A) (s := s) (e := fun j => decide (xs[j]? = ys[j]?)) (show s.heap.IsTuple l items.toArray from hl) (show s.heap.IsTuple b items2.toArray from hb) hu fun j h1 h2 => ?_
    · have e1 : items.toArray.size = xs.length := by rw [List.size_toArray]; exact hi.length.symm
      have e2 : items2.toArray.size = ys.length := by rw [List.size_toArray]; exact hj.length.symm
      rw [e1, e2, all_eq] at z
      exact z
    · have g1 : items[j]? = some items[j] := List.getElem?_eq_getElem (by simpa using h1)
      have g2 : items2[j]? = some items2[j] := List.getElem?_eq_getElem (by simpa using h2)
      obtain ⟨x, hx, rx⟩ := paired_get hi g1
      obtain ⟨y, hy, ry⟩ := paired_get hj g2
      have q := heq x y _ _ rx ry
      show EqAt A.in1 s items[j] items2[j] (decide (xs[j]? = ys[j]?))
      rw [hx, hy]
      have : decide (some x = some y) = decide (x = y) := by simp
      rw [this]
      exact q
end
/-- an int; a pair; a road -/
def rep1 (i : Int) (u : Value) : Prop := ∃ t, u = .int i t
def rep2 (h : Heap) (p : Int × Int) (u : Value) : Prop := ∃ a its, u = .ref a ∧ IsTup h a its.toArray ∧ Paired rep1 [p.1, p.2] its
def rep3 (h : Heap) (ps : List (Int × Int)) (u : Value) : Prop := ∃ a its, u = .ref a ∧ IsTup h a its.toArray ∧ Paired (rep2 h) ps its
theorem rep1_fun (x y : Int) (u : Value) (h1 : rep1 x u) (h2 : rep1 y u) : x = y := by
  obtain ⟨t, rfl⟩ := h1
  obtain ⟨t', e⟩ := h2
  cases e
  rfl
theorem tup_same {h : Heap} {a : Addr} {i j : List Value} (h1 : IsTup h a i.toArray) (h2 : IsTup h a j.toArray) : i = j := by
  obtain ⟨o, g1, _, n, g2⟩ := h1
  obtain ⟨o', g3, _, n', g4⟩ := h2
  rw [g1] at g3
  cases g3
  rw [g2] at g4
  have : i.toArray = j.toArray := by injection g4
  simpa using congrArg Array.toList this
theorem rep2_fun {h : Heap} (x y : Int × Int) (u : Value) (h1 : rep2 h x u) (h2 : rep2 h y u) : x = y := by
  obtain ⟨a, i, rfl, t1, p1⟩ := h1
  obtain ⟨a', j, e, t2, p2⟩ := h2
  cases e
  rw [tup_same t1 t2] at p1
  have := paired_fun rep1_fun p1 p2
  injection this with e1 e2
  injection e2 with e2 _
  exact Prod.ext e1 e2
theorem rep3_fun {h : Heap} (x y : List (Int × Int)) (u : Value) (h1 : rep3 h x u) (h2 : rep3 h y u) : x = y := by
  obtain ⟨a, i, rfl, t1, p1⟩ := h1
  obtain ⟨a', j, e, t2, p2⟩ := h2
  cases e
  rw [tup_same t1 t2] at p1
  exact paired_fun rep2_fun p1 p2
section
variable {A : Around} {s : Shared}
theorem eq1 (x y : Int) (u v : Value) (h1 : rep1 x u) (h2 : rep1 y v) : EqAt A s u v (decide (x = y)) := by
  obtain ⟨t, rfl⟩ := h1
  obtain ⟨t', rfl⟩ := h2
  have : decide (x = y) = (x == y) := by rw [Bool.eq_iff_iff]; simp
  rw [this]
  exact EqAt.int_int x t y t'
theorem lt1 (x y : Int) (u v : Value) (hne : x ≠ y) (h1 : rep1 x u) (h2 : rep1 y v) : LtAt A s u v (decide (x < y)) := by
  obtain ⟨t, rfl⟩ := h1
  obtain ⟨t', rfl⟩ := h2
  exact fun prog w E Q h => HT.rcLt_int A s x t y t' prog w E Q h
theorem eq2 (hu : A.units < cLine) (x y : Int × Int) (u v : Value) (h1 : rep2 s.heap x u) (h2 : rep2 s.heap y v) : EqAt A s u v (decide (x = y)) := by
  obtain ⟨a, i, rfl, t1, p1⟩ := h1
  obtain ⟨b, j, rfl, t2, p2⟩ := h2
  have z := eq_rep t1 t2 p1 p2 hu rep1_fun fun x y u v => eq1 x y u v
  have : decide ([x.1, x.2] = [y.1, y.2]) = decide (x = y) := by
    rw [Bool.eq_iff_iff, decide_eq_true_eq, decide_eq_true_eq]
    constructor
    · intro e; injection e with e1 e2; injection e2 with e2 _; exact Prod.ext e1 e2
    · rintro rfl; rfl
  rw [this] at z
  exact z
theorem lex2_lexG (x y : Int × Int) : lexG (fun a b : Int => decide (a < b)) [x.1, x.2] [y.1, y.2] = lex2 x y := by
  unfold lex2 lexG lexG lexG
  by_cases h1 : x.1 = y.1
  · by_cases h2 : x.2 = y.2 <;> simp [h1, h2]
  · simp [h1]
theorem lt2 (hu : A.units < cLine) (x y : Int × Int) (u v : Value) (hne : x ≠ y) (h1 : rep2 s.heap x u) (h2 : rep2 s.heap y v) : LtAt A s u v (lex2 x y) := by
  obtain ⟨a, i, rfl, t1, p1⟩ := h1
  obtain ⟨b, j, rfl, t2, p2⟩ := h2
  have z := lt_rep (lt := fun a b : Int => decide (a < b)) t1 t2 p1 p2 hu (fun x y u v => eq1 x y u v) (fun x y u v => lt1 x y u v)
  rw [lex2_lexG] at z
  exact z
theorem eq3 (hu : A.units + 1 < cLine) (x y : List (Int × Int)) (u v : Value) (h1 : rep3 s.heap x u) (h2 : rep3 s.heap y v) : EqAt A s u v (decide (x = y)) := by
  obtain ⟨a, i, rfl, t1, p1⟩ := h1
  obtain ⟨b, j, rfl, t2, p2⟩ := h2
  exact eq_rep t1 t2 p1 p2 (by omega) rep2_fun fun x y u v => eq2 (A := A.in1) hu x y u v
theorem lt3 (hu : A.units + 1 < cLine) (x y : List (Int × Int)) (u v : Value) (hne : x ≠ y) (h1 : rep3 s.heap x u) (h2 : rep3 s.heap y v) : LtAt A s u v (lexG lex2 x y) := by
  obtain ⟨a, i, rfl, t1, p1⟩ := h1
  obtain ⟨b, j, rfl, t2, p2⟩ := h2
  exact lt_rep t1 t2 p1 p2 (by omega) (fun x y u v => eq2 (A := A.in1) hu x y u v) (fun x y u v => lt2 (A := A.in1) hu x y u v)
end
section
variable {prog : Program} {w : World} {A : Around} {E : Value → Shared → Prop} {s : Shared}
/-- (road, number) < (road, number), the roads other where the numbers are -/
theorem lt_road {x y : Addr} {ox oy : Obj} {n k : Nat} {u v : Value} {a c : List (Int × Int)} {i j : Int} {t1 t2 : Tok} {Q : Bool → Shared → Prop} (hu : A.units + 1 < cLine) (hx : s.heap.get? x = some ox) (dx : ox.data = .seq #[u, .int i t1] n) (hy : s.heap.get? y = some oy) (dy : oy.data = .seq #[v, .int j t2] k)
    (h1 : rep3 s.heap a u) (h2 : rep3 s.heap c v) (hij : a = c → i = j) (h : Q (decide (a ≠ c) && lexG lex2 a c) s) : wpAny (model prog w) A (keyLt' (tuples' false) (.ref x) (.ref y)) Q E s := by
  refine kat_lt hx dx hy dy ?_
  refine kat_cons (eq3 hu a c u v h1 h2 prog w _ _ ?_)
  by_cases e : a = c
  · rw [decide_eq_true e]
    refine kat_yes (kat_cons (eq_ints ?_))
    rw [beq_iff_eq.mpr (hij e)]
    refine kat_yes (kat_nil ?_)
    simpa [e] using h
  · rw [decide_eq_false e]
    have h' : Q (lexG lex2 a c) s := by simpa [e] using h
    exact kat_no (kat_one _ _ (lt3 hu a c u v e h1 h2 prog w _ _ h'))
/-- list.sort() over any heap -/
theorem sortPlain {a : Addr} {vs : List Value} {P : PySem.Fin → Shared → Prop} {n0 : Nat} (ho : s.heap.get? a = some (seqObj "list" vs.toArray n0)) (h64 : vs.length < 64) (r : Nat → Int) (hr : Inj vs.length r)
    (hask : 2 ≤ vs.length → ∃ κ, ∀ h', (∀ c o, c ≠ a → s.heap.get? c = some o → h'.get? c = some o) → (∀ Q : SortKind → Shared → Prop, Q κ { s with heap := h' } → wpAny (model prog w) A (keyKind' vs.toArray) Q (fun _ _ => False) { s with heap := h' }) ∧
      ∀ i j C, i < vs.length → j < vs.length → C (decide (r i < r j)) { s with heap := h' } → kas_ask prog w A κ vs i j C { s with heap := h' })
    (hfin : ∀ (p : List Nat) h' c, p.Perm (List.range vs.length) → p.Pairwise (fun i j => r i < r j) → (∀ d o, d ≠ a → s.heap.get? d = some o → h'.get? d = some o) → h'.get? a = some (seqObj "list" (p.map fun i => vs.getD i Value.none).toArray c) → P (.done (.ret .none)) { s with heap := h' }) :
    wpAny (model prog w) A (Builtin.«list.sort» ⟨[.ref a], []⟩) P E s := by
  have ha : a < s.heap.objs.size := Heap.lt_size ho
  obtain ⟨e1, ho1⟩ : ∃ e1, (s.heap.update a (Obj.mapSeq fun _ => (#[] : Array Value))).get? a = some (seqObj "list" #[] e1) := ⟨_, get?_update_seq ho fun _ => #[]⟩
  rw [list_sort_plain]
  refine wpAny_bind (listItems_at ho rfl ?_)
  refine wpAny_bind (listUpdate_at ho rfl ?_ (by rw [List.size_toArray, sizeLine_eq]; omega) (Nat.zero_le _))
  refine wpAny_bind (seqEpoch_at ho1 rfl ?_)
  refine wpAny_bind (wpAny_newTuple ?_ (by show vs.length ≤ _; rw [sizeLine_eq]; omega))
  refine wpAny_bind (wpAny_newList ?_ (Nat.zero_le _))
  refine wpAny_holding ?_
  have kp : ∀ c o, c ≠ a → s.heap.get? c = some o → (((s.heap.update a (Obj.mapSeq fun _ => (#[] : Array Value))).push (seqObj "tuple" vs.toArray 0)).push (seqObj "list" #[] 0)).get? c = some o := fun c o hc e =>
    Heap.get?_push_of_some _ (Heap.get?_push_of_some _ ((Heap.get?_update_other _ _ (Ne.symm hc)).trans e))
  have na : (((s.heap.update a (Obj.mapSeq fun _ => (#[] : Array Value))).push (seqObj "tuple" vs.toArray 0)).push (seqObj "list" #[] 0)).get? a = some (seqObj "list" #[] e1) := Heap.get?_push_of_some _ (Heap.get?_push_of_some _ ho1)
  show wpAny (model prog w) A _ P E { s with heap := ((s.heap.update a (Obj.mapSeq fun _ => (#[] : Array Value))).push (seqObj "tuple" vs.toArray 0)).push (seqObj "list" #[] 0) }
  generalize ((s.heap.update a (Obj.mapSeq fun _ => (#[] : Array Value))).push (seqObj "tuple" vs.toArray 0)).push (seqObj "list" #[] 0) = h1 at kp na ⊢
  dsimp only
  have tail : ∀ (st : SortSt) (p : List Nat), p.Perm (List.range vs.length) → p.Pairwise (fun i j => r i < r j) → (arrOf st).map (·.2) = List.toArray (p.map fun i => vs.getD i Value.none) → failedOf st = none →
      wpAny (model prog w) A (do
        let touched := (← seqEpoch a) != e1
        Builtin.List.listUpdate (.ref a) fun _ => (arrOf st).map (·.2)
        if let some e := failedOf st then rule "list.sort.comparison-raised"; throw e
        if touched then rule "list.sort.modified"; raiseError "ValueError" "list modified during sort"
        ret .none) P E { s with heap := h1 } := by
    intro st p hp1 hp2 hout hf
    have hpl : p.length = vs.length := by rw [hp1.length_eq, List.length_range]
    rw [hout]
    obtain ⟨c2, hc2⟩ : ∃ c2, (h1.update a (Obj.mapSeq fun _ => List.toArray (p.map fun i => vs.getD i Value.none))).get? a = some (seqObj "list" (List.toArray (p.map fun i => vs.getD i Value.none)) c2) := ⟨_, get?_update_seq na fun _ => List.toArray (p.map fun i => vs.getD i Value.none)⟩
    have hsz : (List.toArray (p.map fun i => vs.getD i Value.none)).size = vs.length := by rw [List.size_toArray, List.length_map, hpl]
    refine wpAny_bind (seqEpoch_at na rfl ?_)
    refine wpAny_bind (listUpdate_at na rfl ?_ (Nat.zero_le _) (Nat.le_trans (Nat.le_of_eq hsz) (by rw [sizeLine_eq]; omega)))
    rw [hf]
    simp only [bne_self_eq_false, Bool.false_eq_true, if_false]
    exact wpAny_pure (hfin p _ c2 hp1 hp2 (fun d o hd e => (Heap.get?_update_other _ _ (Ne.symm hd)).trans (kp d o hd e)) hc2)
  by_cases h2 : vs.toArray.size < 2
  · rw [if_pos h2, if_pos h2]
    refine wpAny_bind (wpAny_pure ?_)
    refine wpAny_bind (wpAny_pure ?_)
    have h2' : vs.length < 2 := by rw [List.size_toArray] at h2; exact h2
    refine tail (SortSt.mk' general' (vs.toArray.zip vs.toArray) #[] 7 none) (List.range vs.length) (List.Perm.refl _) ?_ ?_ rfl
    · rw [List.pairwise_iff_getElem]
      intro i j hi hj hij
      rw [List.length_range] at hi hj
      omega
    · show ((List.toArray vs).zip (List.toArray vs)).map (·.2) = _
      apply Array.toList_inj.mp
      rw [Array.toList_map, Array.toList_zip]
      simp only [List.toList_toArray]
      have e1 : (List.zip vs vs).map (·.2) = vs := List.map_snd_zip (Nat.le_refl _)
      rw [e1]
      apply List.ext_getElem?
      intro i
      rw [List.getElem?_map]
      by_cases hi : i < vs.length
      · rw [List.getElem?_range hi]
        simp [List.getD, List.getElem?_eq_getElem hi]
      · rw [List.getElem?_eq_none (by omega), List.getElem?_eq_none (by rw [List.length_range]; omega)]
        rfl
  · have h2' : 2 ≤ vs.length := by rw [List.size_toArray] at h2; omega
    rw [if_neg h2, if_neg h2]
    obtain ⟨κ, hκ⟩ := hask h2'
    obtain ⟨hκ, hcmp⟩ := hκ h1 kp
    refine wpAny_bind (wpAny_mono (hκ (fun k s'' => k = κ ∧ s'' = { s with heap := h1 }) ⟨rfl, rfl⟩) (fun k s'' hq => ?_) fun _ _ x => x.elim)
    obtain ⟨rfl, rfl⟩ := hq
    have hk2 : (kas_sort vs.length).kasWp (kas_ask prog w A k vs) (fun p s3 => s3 = { s with heap := h1 } ∧ p.toList.Perm (List.range vs.length) ∧ p.toList.Pairwise (fun i j => r i < r j)) { s with heap := h1 } :=
      Asks.wp (lt := ltOf r) hcmp (sort_list hr (by omega)) fun p hp => ⟨rfl, hp⟩
    refine wpAny_bind (wpAny_mono (kat_run (Q := fun st' s3 => ∃ p : Array Nat, arrOf st' = p.map (kas_item (vs.toArray.zip vs.toArray)) ∧ failedOf st' = none ∧
        s3 = { s with heap := h1 } ∧ p.toList.Perm (List.range vs.length) ∧ p.toList.Pairwise (fun i j => r i < r j))
      rfl h2' h64 (fun p' st' s3 a1 a2 a3 a4 => ⟨p', a2, a3, a4⟩) hk2) ?_ fun _ _ x => x)
    rintro ⟨⟨⟩, st'⟩ s3 ⟨p, har, hf, rfl, hp1, hp2⟩
    dsimp only
    exact tail _ p.toList hp1 hp2 (kat_snds rfl har) hf
end
end Stree
end

section
set_option Elab.async false
set_option linter.unusedVariables false
set_option maxRecDepth 100000
set_option maxHeartbeats 1000000
namespace Stree
open PySem PySem.W PySem.Calls PyProof.Rows
abbrev Road := List (Int × Int)
abbrev lexR : Road → Road → Bool := lexG lex2
theorem lexR_irr : ∀ a : Road, lexR a a = false
  | [] => rfl
  | x :: r => by show (if x = x then lexG lex2 r r else lex2 x x) = false; rw [if_pos rfl]; exact lexR_irr r
theorem lexR_tr : ∀ {a b c : Road}, lexR a b = true → lexR b c = true → lexR a c = true
  | [], [], _, h, _ => by cases h
  | [], _ :: _, [], _, h => by cases h
  | [], _ :: _, _ :: _, _, _ => rfl
  | _ :: _, [], _, h, _ => by cases h
  | _ :: _, _ :: _, [], _, h => by cases h
  | x :: a, y :: b, z :: c, h1, h2 => by
    have h1' : (if x = y then lexG lex2 a b else lex2 x y) = true := h1
    have h2' : (if y = z then lexG lex2 b c else lex2 y z) = true := h2
    show (if x = z then lexG lex2 a c else lex2 x z) = true
    by_cases e1 : x = y
    · rw [if_pos e1] at h1'
      subst e1
      by_cases e2 : x = z
      · rw [if_pos e2] at h2' ⊢
        exact lexR_tr h1' h2'
      · rw [if_neg e2] at h2' ⊢
        exact h2'
    · rw [if_neg e1] at h1'
      by_cases e2 : y = z
      · rw [if_pos e2] at h2'
        subst e2
        rw [if_neg e1]
        exact h1'
      · rw [if_neg e2] at h2'
        have h3 := lex2_tr h1' h2'
        have : x ≠ z := fun e => by rw [e, lex2_irr] at h3; cases h3
        rw [if_neg this]
        exact h3
theorem lexR_tot : ∀ {a b : Road}, a ≠ b → lexR a b = true ∨ lexR b a = true
  | [], [], h => absurd rfl h
  | [], _ :: _, _ => .inl rfl
  | _ :: _, [], _ => .inr rfl
  | x :: a, y :: b, h => by
    show (if x = y then lexG lex2 a b else lex2 x y) = true ∨ (if y = x then lexG lex2 b a else lex2 y x) = true
    by_cases e : x = y
    · subst e
      rw [if_pos rfl, if_pos rfl]
      exact lexR_tot fun z => h (by rw [z])
    · rw [if_neg e, if_neg (Ne.symm e)]
      exact lex2_tot e
/-- ahead of what goes on from it -/
theorem lexR_pre : ∀ (a : Road) {b : Road}, b ≠ [] → lexR a (a ++ b) = true
  | [], [], h => absurd rfl h
  | [], _ :: _, _ => rfl
  | x :: a, b, h => by show (if x = x then lexG lex2 a (a ++ b) else _) = true; rw [if_pos rfl]; exact lexR_pre a h
/-- two that part -/
theorem lexR_part : ∀ (a : Road) {x y : Int × Int} {b c : Road}, lex2 x y = true → lexR (a ++ x :: b) (a ++ y :: c) = true
  | [], x, y, b, c, h => by
    show (if x = y then lexG lex2 b c else lex2 x y) = true
    have : x ≠ y := fun e => by rw [e, lex2_irr] at h; cases h
    rw [if_neg this]
    exact h
  | z :: a, x, y, b, c, h => by show (if z = z then lexG lex2 (a ++ x :: b) (a ++ y :: c) else _) = true; rw [if_pos rfl]; exact lexR_part a h
theorem uniq {α : Type} {lt : α → α → Prop} (irr : ∀ a, ¬ lt a a) (tr : ∀ a b c, lt a b → lt b c → lt a c) : ∀ {l m : List α}, l.Pairwise lt → m.Pairwise lt → (∀ a, a ∈ l ↔ a ∈ m) → l = m
  | [], [], _, _, _ => rfl
  | [], y :: m, _, _, h => by have := (h y).mpr List.mem_cons_self; cases this
  | x :: l, [], _, _, h => by have := (h x).mp List.mem_cons_self; cases this
  | x :: l, y :: m, h1, h2, h => by
    obtain ⟨a1, a2⟩ := List.pairwise_cons.mp h1
    obtain ⟨b1, b2⟩ := List.pairwise_cons.mp h2
    have e : x = y := by
      rcases List.mem_cons.mp ((h x).mp List.mem_cons_self) with e | e
      · exact e
      · rcases List.mem_cons.mp ((h y).mpr List.mem_cons_self) with e' | e'
        · exact e'.symm
        · exact absurd (tr _ _ _ (a1 y e') (b1 x e)) (irr x)
    subst e
    rw [uniq irr tr a2 b2 fun a => ?_]
    constructor
    · intro ha
      rcases List.mem_cons.mp ((h a).mp (List.mem_cons_of_mem _ ha)) with e | e
      · subst e; exact absurd (a1 a ha) (irr a)
      · exact e
    · intro ha
      rcases List.mem_cons.mp ((h a).mpr (List.mem_cons_of_mem _ ha)) with e | e
      · subst e; exact absurd (b1 a ha) (irr a)
      · exact e
theorem IsTup.keep {h h' : Heap} {a x : Addr} {vs its : Array Value} {n : Nat} (ha : h.get? a = some (seqObj "list" vs n)) (k : ∀ c o, c ≠ a → h.get? c = some o → h'.get? c = some o) (t : IsTup h x its) : IsTup h' x its := by
  obtain ⟨o, e, c, m, d⟩ := t
  refine ⟨o, k x o (fun z => ?_) e, c, m, d⟩
  rw [z, ha] at e
  cases e
  have c' : Value.type "list" = Value.type "tuple" := c
  injection c' with c''
  exact absurd c'' (by decide)
theorem rep2.keep {h h' : Heap} {a : Addr} {vs : Array Value} {n : Nat} (ha : h.get? a = some (seqObj "list" vs n)) (k : ∀ c o, c ≠ a → h.get? c = some o → h'.get? c = some o) {p : Int × Int} {u : Value} (t : rep2 h p u) : rep2 h' p u :=
  let ⟨x, its, e, t1, t2⟩ := t; ⟨x, its, e, IsTup.keep ha k t1, t2⟩
theorem rep3.keep {h h' : Heap} {a : Addr} {vs : Array Value} {n : Nat} (ha : h.get? a = some (seqObj "list" vs n)) (k : ∀ c o, c ≠ a → h.get? c = some o → h'.get? c = some o) {p : Road} {u : Value} (t : rep3 h p u) : rep3 h' p u :=
  let ⟨x, its, e, t1, t2⟩ := t; ⟨x, its, e, IsTup.keep ha k t1, L2.Paired.mapP t2 fun _ _ z => rep2.keep ha k z⟩
end Stree
namespace L2
open PySem PySem.Spec PyProof.Rows
open Stree (Road lexR)
/-- a pair, a road, in the abstract heap -/
def PairV (H : Hp) (p : Int × Int) (x : V) : Prop := ∃ c, x = .ref c ∧ H c = some (.tup [.int p.1, .int p.2])
def RoadV (H : Hp) (b : Addr) (ps : Road) : Prop := ∃ xs, H b = some (.tup xs) ∧ Paired (PairV H) ps xs
theorem PairV.same {H H' : Hp} (k : SameT H H') {p : Int × Int} {x : V} (h : PairV H p x) : PairV H' p x := let ⟨c, e, z⟩ := h; ⟨c, e, k.tup z⟩
theorem RoadV.same {H H' : Hp} (k : SameT H H') {b : Addr} {ps : Road} (h : RoadV H b ps) : RoadV H' b ps := let ⟨xs, e, z⟩ := h; ⟨xs, k.tup e, Paired.mapP z fun _ _ w => w.same k⟩
section
variable {X : Cx} {pins : List (Addr × Obj)} {σ : St} {H : Hp} {s : Shared} {k : Nat}
theorem paired2 {α β γ : Type} {F : α → β → Prop} {G : β → γ → Prop} {K : α → γ → Prop} (h : ∀ a b c, F a b → G b c → K a c) : ∀ {l : List α} {m : List β} {n : List γ}, Paired F l m → Paired G m n → Paired K l n
  | _, _, _, .nil, .nil => .nil
  | _, _, _, .cons a r, .cons b t => .cons (h _ _ _ a b) (paired2 h r t)
theorem Inv.rep2 (I : Inv X pins σ H s) {p : Int × Int} {x : V} {u : Value} (h : PairV H p x) (r : RelV x u) : Stree.rep2 s.heap p u := by
  obtain ⟨c, rfl, e⟩ := h
  cases r
  obtain ⟨its, rv, pl, _⟩ := I.tuple (SqT.of e)
  obtain ⟨u1, u2, rfl, r1, r2⟩ := Vals.two rv
  exact ⟨c, _, rfl, pl, .cons r1 (.cons r2 .nil)⟩
theorem Inv.rep3 (I : Inv X pins σ H s) {b : Addr} {ps : Road} (h : RoadV H b ps) : Stree.rep3 s.heap ps (.ref b) := by
  obtain ⟨xs, e, z⟩ := h
  obtain ⟨its, rv, pl, _⟩ := I.tuple (SqT.of e)
  exact ⟨b, its, rfl, pl, paired2 (F := PairV H) (G := RelV) (K := Stree.rep2 s.heap) (fun _ _ _ a c => I.rep2 a c) z rv⟩
/-- sorted(xs): xs the pairs of a road and a number -/
theorem call_sortedRoads (hr : Room k X.A) : CallR X (.builtin "sorted") (fun xs H Q => ∃ (p : Addr) (its : List V) (road : Nat → Road) (kn : Nat → Int), xs = [.ref p] ∧ H p = some (.lst its) ∧ its.length < 64 ∧
    (∀ i j, i < its.length → j < its.length → road i = road j → i = j) ∧ (∀ i x, its[i]? = some x → ∃ a b, x = .ref a ∧ H a = some (.tup [.ref b, .int (kn i)]) ∧ RoadV H b (road i)) ∧
    ∀ l (out : List Nat), H l = none → out.Perm (List.range its.length) → (out.Pairwise fun i j => lexR (road i) (road j) = true) → Q (.ref l) (upd H l (.lst (out.map fun i => its.getD i .non)))) := by
  intro pins s σ H xs us Q I r h
  obtain ⟨p, its, road, kn, rfl, hp, h64, hinj, hit, q⟩ := h
  obtain ⟨u, rfl, ru⟩ := vals1 r
  cases ru
  obtain ⟨vs, rv, pl, hz⟩ := I.list (SqL.of hp)
  have hlen : vs.length = its.length := rv.length.symm
  refine Calls.call_function_entry kind_sorted plain_sorted entry_sorted (args_sorted1 _) ?_
  unfold Builtin.«sorted»
  refine wpAny_bind (m := checkCount "sorted" 1 1 _) (wpAny_pure ?_)
  refine wpAny_bind (collect_list pl.isList ?_ (by rw [sizeLine_eq]; omega))
  refine wpAny_bind (wpAny_newList ?_ (by rw [sizeLine_eq]; omega))
  have hsz : ((s.heap.push (seqObj "list" #[] 0)).update s.heap.objs.size (Obj.mapSeq (· ++ vs.toArray))).objs.size = s.heap.objs.size + 1 := by
    rw [Heap.size_update, size_push']
  have hoL : (((s.heap.push (seqObj "list" #[] 0)).update s.heap.objs.size (Obj.mapSeq (· ++ vs.toArray))).push (seqObj "list" vs.toArray 0)).get? (s.heap.objs.size + 1) = some (seqObj "list" vs.toArray 0) := by
    rw [← hsz]; exact Heap.get?_push_size _ rfl
  have keep : ∀ b o, s.heap.get? b = some o → (((s.heap.push (seqObj "list" #[] 0)).update s.heap.objs.size (Obj.mapSeq (· ++ vs.toArray))).push (seqObj "list" vs.toArray 0)).get? b = some o := fun b o q => by
    have hlt : b < s.heap.objs.size := Heap.lt_size q
    rw [Heap.get?_push_ne _ _ _ (by rw [hsz]; exact Nat.ne_of_lt (Nat.lt_succ_of_lt hlt)), Heap.get?_update_ne _ _ _ _ (Nat.ne_of_lt hlt), Heap.get?_push_ne _ _ _ (Nat.ne_of_lt hlt)]
    exact q
  show wpAny _ _ _ _ _ { s with heap := ((s.heap.push (seqObj "list" #[] 0)).update s.heap.objs.size (Obj.mapSeq (· ++ vs.toArray))).push (seqObj "list" vs.toArray 0) }
  rw [hsz]
  generalize hH1 : ((s.heap.push (seqObj "list" #[] 0)).update s.heap.objs.size (Obj.mapSeq (· ++ vs.toArray))).push (seqObj "list" vs.toArray 0) = h1 at hoL keep ⊢
  refine wpAny_bind (wpAny_holding (wpAny_call_entry PyProof.Rows.slot_list_sort ⟨_, hoL, rfl⟩ PyProof.Rows.entry_list_sort ?body (PyProof.Rows.args_list_sort _)))
  case body =>
    have I1 : Inv X pins σ H { s with heap := h1 } := I.kept (t' := s.toks) keep
    have hle : s.heap.objs.size ≤ s.heap.objs.size + 1 := Nat.le_succ _
    have fa := I.fpOk (b := s.heap.objs.size + 1) hle (I.hok.fresh hle)
    obtain ⟨r, hr1, hr2⟩ := Stree.rank_of (n := vs.length) (fun i j => lexR (road i) (road j)) (fun i _ => Stree.lexR_irr _) (fun i j k _ _ _ h1 h2 => Stree.lexR_tr h1 h2)
      (fun i j hi hj hij => Stree.lexR_tot fun z => hij (hinj i j (by omega) (by omega) z))
    -- an item's object
    have ob : ∀ i, i < vs.length → ∃ a o u t m, vs.getD i Value.none = .ref a ∧ h1.get? a = some o ∧ o.cls = .type "tuple" ∧ o.data = .seq #[u, .int (kn i) t] m ∧ Stree.rep3 h1 (road i) u := fun i hi => by
      have hi' : i < its.length := by omega
      obtain ⟨a, b, e1, e2, e3⟩ := hit i its[i] (List.getElem?_eq_getElem hi')
      obtain ⟨u0, hu0, ru0⟩ := rv.get (List.getElem?_eq_getElem hi')
      rw [e1] at ru0
      cases ru0
      obtain ⟨jts, rj, pj, _⟩ := I1.tuple (SqT.of e2)
      obtain ⟨u1, u2, rfl, q1, q2⟩ := Vals.two rj
      cases q1
      obtain ⟨t, rfl⟩ := q2
      obtain ⟨o, g1, g2, m, g3⟩ := pj
      exact ⟨a, o, _, t, m, by simp [List.getD, hu0], g1, g2, g3, I1.rep3 e3⟩
    refine Stree.sortPlain (s := { s with heap := h1 }) hoL (by omega) r hr1 (fun h2 => ⟨tuples' false, fun h2 k2 => ⟨fun Q' hQ' => ?_, fun i j C' hi hj hC => ?_⟩⟩) fun p h5 c5 hp1 hp2 k5 o5 => ?_
    · have kt : ∀ {x : Addr} {o : Obj}, h1.get? x = some o → o.cls = .type "tuple" → h2.get? x = some o := fun {x o} e c => k2 x o (fun z => by rw [z, hoL] at e; cases e; have c' : Value.type "list" = Value.type "tuple" := c; injection c' with c''; exact absurd c'' (by decide)) e
      have tups : ∀ (l : List Value), (∀ (i : Nat) (v : Value), l[i]? = some v → ∃ a o u w m, v = Value.ref a ∧ h2.get? a = some o ∧ o.cls = .type "tuple" ∧ o.data = .seq #[u, w] m ∧ ∃ c its, u = .ref c ∧ IsTup h2 c its) →
          ∃ fs, PySem.W.KatTups h2 l fs ∧ fs.length = l.length ∧ ∀ f ∈ fs, ∃ c its, f = Value.ref c ∧ IsTup h2 c its := by
        intro l
        induction l with
        | nil => intro _; exact ⟨[], trivial, rfl, fun f hf => by cases hf⟩
        | cons v l ih =>
          intro hv
          obtain ⟨a, o, u, w, m, rfl, g1, g2, g3, c, its, rfl, g4⟩ := hv 0 v rfl
          obtain ⟨fs, f1, f2, f3⟩ := ih fun i v h => hv (i + 1) v h
          refine ⟨.ref c :: fs, PySem.W.KatTups.cons g1 g2 g3 rfl f1, by simp [f2], fun f hf => ?_⟩
          rcases List.mem_cons.mp hf with rfl | hf
          · exact ⟨c, its, rfl, g4⟩
          · exact f3 f hf
      obtain ⟨fs, f1, f2, f3⟩ := tups vs fun i v hv => by
        have hi : i < vs.length := by
          rcases Nat.lt_or_ge i vs.length with h | h
          · exact h
          · rw [List.getElem?_eq_none h] at hv; cases hv
        obtain ⟨a, o, u, t, m, g0, g1, g2, g3, g4⟩ := ob i hi
        have : vs.getD i Value.none = v := by simp [List.getD, hv]
        rw [this] at g0
        obtain ⟨c, its, e, g5, _⟩ := g4
        exact ⟨a, o, u, _, m, g0, kt g1 g2, g2, g3, c, _, e, Stree.IsTup.keep hoL k2 g5⟩
      refine PySem.W.kat_kind (T := .type "tuple") f1 (by omega) (fun v hv => ?_) rfl hQ'
      obtain ⟨c, its, rfl, o, g1, g2, _⟩ := f3 v hv
      have z : PySem.W.Looks (model X.prog X.w) h2 (typeOf (.ref c)) o.cls := (PySem.W.Looks.ld g1).andThen .now
      rw [g2] at z
      exact z
    · obtain ⟨ai, oi, ui, t1, m1, g0, g1, g2, g3, g4⟩ := ob i hi
      obtain ⟨aj, oj, uj, t3, m2, d0, d1, d2, d3, d4⟩ := ob j hj
      have kt : ∀ {x : Addr} {o : Obj}, h1.get? x = some o → o.cls = .type "tuple" → h2.get? x = some o := fun {x o} e c => k2 x o (fun z => by rw [z, hoL] at e; cases e; have c' : Value.type "list" = Value.type "tuple" := c; injection c' with c''; exact absurd c'' (by decide)) e
      show wpAny _ _ (keyLt' _ (vs.getD i Value.none) (vs.getD j Value.none)) _ _ _
      rw [g0, d0]
      refine Stree.lt_road (by have := hr.un; show X.A.units + 1 + 1 + 1 < cLine; omega) (kt g1 g2) g3 (kt d1 d2) d3 (Stree.rep3.keep hoL k2 g4) (Stree.rep3.keep hoL k2 d4) (fun z => by rw [hinj i j (by omega) (by omega) z]) ?_
      have e1 := hr2 i j hi hj
      rw [e1] at hC
      by_cases z : road i = road j
      · have : lexR (road i) (road j) = false := by rw [z]; exact Stree.lexR_irr _
        rw [this] at hC
        simpa [z] using hC
      · have : decide (road i ≠ road j) = true := decide_eq_true z
        rw [this, Bool.true_and]
        exact hC
    · have hm : ∀ i ∈ p, i < vs.length := fun i hi => List.mem_range.mp (hp1.mem_iff.mp hi)
      have vv : ∀ l : List Nat, (∀ i ∈ l, i < vs.length) → Vals (l.map fun i => its.getD i .non) (l.map fun i => vs.getD i Value.none) := by
        intro l
        induction l with
        | nil => intro _; exact .nil
        | cons i l ih =>
          intro h
          refine .cons ?_ (ih fun j hj => h j (List.mem_cons_of_mem _ hj))
          have hi := h i List.mem_cons_self
          have hi' : i < its.length := by omega
          obtain ⟨u0, hu0, ru0⟩ := rv.get (List.getElem?_eq_getElem hi')
          show RelV (its.getD i .non) (vs.getD i Value.none)
          have e1 : vs.getD i Value.none = u0 := by simp [List.getD, hu0]
          have e2 : its.getD i .non = its[i] := by simp [List.getD, List.getElem?_eq_getElem hi']
          rw [e1, e2]
          exact ru0
      have v2 := vv p hm
      have hp3 : p.Perm (List.range its.length) := by rw [← hlen]; exact hp1
      have hlt : p.length = vs.length := by rw [hp1.length_eq, List.length_range]
      have hpw : p.Pairwise fun i j => lexR (road i) (road j) = true := hp2.imp_of_mem fun {i j} hi hj h => by
        have := hr2 i j (hm i hi) (hm j hj)
        rw [← this]
        exact decide_eq_true h
      have I5 : Inv X pins σ (upd H (s.heap.objs.size + 1) (.lst (p.map fun i => its.getD i .non))) { s with heap := h5 } :=
        I.laid (t' := s.toks) (fun b o e => k5 b o (Nat.ne_of_lt (Nat.lt_succ_of_lt (Heap.lt_size e))) (keep b o e)) hle ⟨by rw [List.length_map, sizeLine_eq]; omega, _, c5, v2, o5⟩
      exact ⟨_, rfl, wpAny_pure ⟨_, rfl, ⟨.ref _, _, I5, rfl, q _ p fa.1 hp3 hpw⟩⟩⟩
end
end L2
end

section
set_option Elab.async false
set_option linter.unusedVariables false
set_option maxRecDepth 100000
set_option maxHeartbeats 1000000
/-! The head, where a def of the text writes a lambda: the table of its code is tracked. -/
namespace L2
open PySem PySem.Spec PyProof.Rows
theorem law_callT {P : Program} {w : World} {K : PySem.W.Frag} {mg mb : Str → Option Value} {CX : CXT} {k : Nat} {fa a c T : Addr} {fd : FuncData} {x : Str} {sp : Sp} {s₁ : Shared} {vs : List Value} {ns : List Int}
    (KX : K.In s₁.heap) (hns : s₁.heap.Ns mainGlobals mg) (hb : s₁.heap.Ns builtinsNs mb) (hbb : ∀ x : Str, x ≠ "__name__" → mb x = bootBuiltins x) (hlim : s₁.heap.NoLimit) (hg : s₁.gens = #[])
    (ha : s₁.heap.get? a = some { cls := .type "list", data := .seq vs.toArray }) (hi : IntsAre vs ns) (hl : ns.length ≤ sizeLine) (hr : Room k callerA)
    (hC : PySem.W.CodeHd s₁.heap c T) (hT : s₁.heap.get? T = some (PySem.W.tabObj #[])) (hKT : K.lookup T = none)
    (hbm : ∃ bm ob, mg "__builtins__" = some (.ref bm) ∧ bm ≠ builtinsNs ∧ s₁.heap.get? bm = some ob ∧ ob.cls = .type "module" ∧ ob.dict = some builtinsNs ∧ ob.data = .plain)
    (F : ∀ base : Heap, K.In base → base.Ns mainGlobals mg → PySem.W.CodeHd base c T → base.BuiltinsAt mg T → FnOk P w K mg base CX k fa fd [x] sp) (hbind : ∀ (s : Shared) (u : Value), BindsTo s fd ⟨[u], []⟩ [(x, u)])
    (hsp : ∀ H : Hp, H T = some (.tbl #[]) → SqL K H a (ns.map V.int) → sp [.ref a] H (fun v _ => v = .bl true) fun _ _ _ => False)
    (hCX : ∀ H e s', CX [] H s₁ (fun _ _ _ => False) e s' → False) :
    codeAny (model P w) callerA (.call (.ref fa) ⟨[.ref a], []⟩) (fun r s' => r = .ok (.ret (.bool true)) ∧ OldK s₁.heap s'.heap ∧ s'.os = s₁.os ∧ AllBare s'.gens) s₁ := by
  have rv := vals_ints hi
  have lenV := hi.length
  have haT : a ≠ T := fun z => by rw [z, hT] at ha; cases ha
  have core : ∀ H : Hp, H T = some (.tbl #[]) → SqL K H a (ns.map V.int) → HOk P w H s₁.heap → (∀ b, H b ≠ none → b = T ∨ (b = a ∧ ∃ o xs, H b = some (.frz o (.lst xs)))) → (H a ≠ none → K.lookup a = none) →
      codeAny (model P w) callerA (.call (.ref fa) ⟨[.ref a], []⟩) (fun r s' => r = .ok (.ret (.bool true)) ∧ OldK s₁.heap s'.heap ∧ s'.os = s₁.os ∧ AllBare s'.gens) s₁ := by
    intro H hH hS hok hA hK
    have base_of : ∀ {b : Addr} {o : Obj}, s₁.heap.get? b = some o → H b = none → (hidT s₁.heap H).get? b = some o := fun e n => hidT_get e n
    have free : ∀ {b : Addr} {o : Obj}, s₁.heap.get? b = some o → (∀ ps, o ≠ PySem.W.tabObj ps) → (∀ its, o ≠ { cls := .type "list", data := .seq its }) → H b = none := fun {b o} e n1 n2 => by
      cases q : H b with
      | none => rfl
      | some u =>
        rcases hA b (by rw [q]; simp) with z | ⟨z, _⟩
        · rw [z, hT] at e; cases e; exact absurd rfl (n1 _)
        · rw [z, ha] at e; cases e; exact absurd rfl (n2 _)
    have nsK : ∀ {b : Addr} {m : Str → Option Value}, s₁.heap.Ns b m → (hidT s₁.heap H).Ns b m := fun {b m} ⟨o, es, ep, e, d, r⟩ => ⟨o, es, ep, base_of e (free e (fun ps z => by rw [z] at d; cases d) (fun its z => by rw [z] at d; cases d)), d, r⟩
    have hKb : K.In (hidT s₁.heap H) := fun b o e => base_of (KX b o e) (by
      cases q : H b with
      | none => rfl
      | some u =>
        rcases hA b (by rw [q]; simp) with z | ⟨z, _⟩
        · rw [z, hKT] at e; cases e
        · subst z
          rw [hK (by rw [q]; simp)] at e; cases e)
    have hM : Mod K mg (hidT s₁.heap H) := ⟨hKb, nsK hns, ⟨mb, nsK hb, hbb⟩, let ⟨mc, h1, h2⟩ := hlim; ⟨mc, nsK h1, h2⟩⟩
    have e0 : Env0 P w K mg (hidT s₁.heap H) callerA [] s₁ H := ⟨rfl, hM, fun b o e => of_hidT e, Nat.le_of_eq (hidT_size _ _), trivial, fun b hb => absurd (show b ∈ ([] : List Addr) from hb) (by simp), hok, .of_eq hg⟩
    have hCb : PySem.W.CodeHd (hidT s₁.heap H) c T := by
      obtain ⟨o, vs, file, tf, flags, tg, inF, text, tt, e, c1, r⟩ := hC
      exact ⟨o, vs, file, tf, flags, tg, inF, text, tt, base_of e (free e (fun ps z => by rw [z] at c1; cases c1) (fun its z => by
        rw [z] at c1
        have c' : Value.type "list" = Value.type "code" := c1
        injection c' with c''
        exact absurd c'' (by decide))), c1, r⟩
    have hBb : (hidT s₁.heap H).BuiltinsAt mg T := by
      obtain ⟨bm, ob, b1, b2, b3, b4, b5, b6⟩ := hbm
      refine ⟨bm, ob, b1, b2, fun z => ?_, fun z => ?_, base_of b3 (free b3 (fun ps z => by rw [z] at b4; cases b4) (fun its z => by rw [z] at b6; cases b6)), b4, b5, b6⟩
      · obtain ⟨o, es, ep, e, d, _⟩ := hns
        rw [z, e] at b3; cases b3; rw [d] at b6; cases b6
      · rw [z, hT] at b3; cases b3; cases b4
    refine codeAny_mono ((F _ hKb (nsK hns) hCb hBb).run callerA [] s₁ H ⟨[.ref a], []⟩ [.ref a] [.ref a] _ _ hr e0 (hbind s₁ (.ref a)) (.cons rfl .nil) (hsp H hH hS)) fun r s' h => ?_
    cases r with
    | error e => exact (hCX H e s' h).elim
    | ok fl =>
      cases fl with
      | next => exact False.elim h
      | brk => exact False.elim h
      | cont => exact False.elim h
      | ret u =>
        obtain ⟨v, H', os, bare, un, hok', r', q⟩ := h
        have q' : v = .bl true := q
        subst q'
        obtain rfl : u = Value.bool true := r'
        obtain ⟨more, hm⟩ := un.tbls T _ hH
        have hT' : s'.heap.get? T = some (PySem.W.tabObj (#[] ++ more)) := hok' T _ hm
        have get : ∀ b o, b ≠ T → s₁.heap.get? b = some o → s'.heap.get? b = some o := fun b o hbT e => by
          cases q : H b with
          | none => exact un.keep b o e q (by intro z; exact absurd (show b ∈ ([] : List Addr) from z) (by simp)) (by simp)
          | some u =>
            rcases hA b (by rw [q]; simp) with z | ⟨_, ob, xs, z⟩
            · exact absurd z hbT
            · have z2 := un.frzs b ob _ z
              obtain ⟨e1, _⟩ := hok b _ z
              obtain ⟨e2, _⟩ := hok' b _ z2
              rw [e] at e1; cases e1
              exact e2
        refine ⟨rfl, ⟨fun b o e => ?_, fun b o e => ?_⟩, os, bare⟩
        · by_cases hbT : b = T
          · subst hbT
            rw [hT] at e
            cases e
            exact .inr (.inl ⟨(hC.tab hT).isCodeTable, rfl, #[], more, rfl, hT'⟩)
          · exact .inl (get b o hbT e)
        · by_cases hbT : b = T
          · exact ⟨_, by rw [hbT]; exact hT'⟩
          · exact ⟨o, get b o hbT e⟩
  have okT : ∀ H : Hp, ObjOk P w H s₁.heap T (.tbl #[]) := fun H => hT
  cases hk : K.lookup a with
  | some o =>
    have e := KX a o hk
    rw [ha] at e
    cases e
    refine core (fun b => if b = T then some (.tbl #[]) else none) (if_pos rfl) (.inr ⟨_, vs.toArray, _, hk, rfl, rfl, rfl, by rw [List.size_toArray, lenV]; exact hl, by simpa using rv⟩) (fun b u z => ?_) (fun b z => ?_) fun z => absurd (if_neg haT) z
    · by_cases hbT : b = T
      · have z' := (if_pos hbT).symm.trans z
        cases z'
        subst hbT
        exact okT _
      · have z' := (if_neg hbT).symm.trans z
        cases z'
    · by_cases hbT : b = T
      · exact .inl hbT
      · exact absurd (if_neg hbT) z
  | none =>
    refine core (fun b => if b = T then some (.tbl #[]) else if b = a then some (.frz { cls := .type "list", data := .seq vs.toArray } (.lst (ns.map V.int))) else none) (if_pos rfl)
      (.inl (.inr ⟨{ cls := .type "list", data := .seq vs.toArray }, by show (if a = T then _ else _) = _; rw [if_neg haT, if_pos rfl]⟩)) (fun b u z => ?_) (fun b z => ?_) fun _ => hk
    · by_cases hbT : b = T
      · have z' := (if_pos hbT).symm.trans z
        cases z'
        subst hbT
        exact okT _
      · have z1 := (if_neg hbT).symm.trans z
        by_cases hb : b = a
        · have z' := (if_pos hb).symm.trans z1
          cases z'
          subst hb
          exact ⟨ha, by rw [List.length_map]; exact hl, vs, _, rv, ha⟩
        · have z' := (if_neg hb).symm.trans z1
          cases z'
    · by_cases hbT : b = T
      · exact .inl hbT
      · by_cases hb : b = a
        · exact .inr ⟨hb, _, _, by show (if b = T then _ else _) = _; rw [if_neg hbT, if_pos hb]⟩
        · exact absurd (by show (if b = T then _ else _) = _; rw [if_neg hbT, if_neg hb]) z
theorem walk_ofT {l : PySem.W.OpenLaw} {n k : Nat} {q : Program} {loose : List Str} {XP : (Str → Option Value) → Heap → Prop} {YP : World → Heap → Prop} {d : DefRec} {K : Params → PySem.W.Frag} {CX : CXT} {sp : Addr → PySem.W.Frag → Sp} {x : Str} {T : Addr}
    (hn : l.most = some n) (hn2 : n ≤ sizeLine) (hdf : d.params.defaults = []) (hr : Room k callerA)
    (hY : ∀ (w : World) (h : Heap), YP w h → (K w.params).In h) (hTb : ∀ (w : World) (h : Heap), YP w h → h.get? T = some (PySem.W.tabObj #[]))
    (F : ∀ (w : World) (mg : Str → Option Value) (fa : Addr) (h : Heap), (K w.params).In h → h.Ns mainGlobals mg → mg d.name = some (.ref fa) →
      ∃ (fd : FuncData) (c : Addr), PySem.W.codeHdIn (K w.params) c T = true ∧ (K w.params).lookup T = none ∧ (∀ (s : Shared) (u : Value), BindsTo s fd ⟨[u], []⟩ [(x, u)]) ∧
        ∀ base : Heap, (K w.params).In base → base.Ns mainGlobals mg → PySem.W.CodeHd base c T → base.BuiltinsAt mg T → FnOk l.prog w (K w.params) mg base CX k fa fd [x] (sp T (K w.params)))
    (hsp : ∀ (K : PySem.W.Frag) (H : Hp) (a : Addr) (ns : List Int), ns.length ≤ n → H T = some (.tbl #[]) → SqL K H a (ns.map V.int) → sp T K [.ref a] H (fun v _ => v = .bl true) fun _ _ _ => False)
    (hCX : ∀ (H : Hp) (s : Shared) (e : Value) (s' : Shared), CX [] H s (fun _ _ _ => False) e s' → False) :
    PySem.W.WalkO q loose XP YP l.row.toRowW d [] (fun f vs => PySem.call f vs) := by
  refine Att.attach_call hn hdf fun w s₀ s₁ mg mb fa o pm cd doc a vs ns G Y ho hd hcd hmg hobj hints hlen hg => ?_
  have KX := hY w _ Y
  obtain ⟨fd, c, ht, hkt, hb, hF⟩ := F w mg fa _ KX G.T.g hmg
  exact law_callT KX G.T.g G.T.b G.T.builtins G.T.nolimit hg hobj hints (Nat.le_trans hlen hn2) hr (PySem.W.codeHd_of_K KX ht) (hTb w _ Y) hkt G.T.bmain hF hb (fun H hO hS => hsp _ H a ns hlen hO hS) fun H e s' => hCX H s₁ e s'
end L2
end

section
set_option Elab.async false
set_option linter.unusedVariables false
set_option maxRecDepth 100000
set_option maxHeartbeats 1000000
/-! Letters that answer one another: roads, the first letter, the order told. Pure. -/
namespace Fm
open Stree (Road lexR lex2)
structure Ok (n : Nat) (L : Nat → Option Nat) (rk : Nat → Nat) : Prop where
  lt : ∀ i j, i < n → L i = some j → j < n ∧ rk j < rk i
def rdF (L : Nat → Option Nat) (D : Nat → Int) : Nat → Nat → Road
  | 0, i => [(D i, (i : Int))]
  | f + 1, i => match L i with
    | none => [(D i, (i : Int))]
    | some j => rdF L D f j ++ [(D i, (i : Int))]
def tpF (L : Nat → Option Nat) : Nat → Nat → Nat
  | 0, i => i
  | f + 1, i => match L i with
    | none => i
    | some j => tpF L f j
section
variable {n : Nat} {L : Nat → Option Nat} {D : Nat → Int} {rk : Nat → Nat}
theorem rdF_none {i : Nat} (h : L i = none) : ∀ f, rdF L D f i = [(D i, (i : Int))]
  | 0 => rfl
  | f + 1 => by unfold rdF; rw [h]
theorem tpF_none {i : Nat} (h : L i = none) : ∀ f, tpF L f i = i
  | 0 => rfl
  | f + 1 => by unfold tpF; rw [h]
theorem rdF_stable (o : Ok n L rk) : ∀ (f g i : Nat), i < n → rk i ≤ f → rk i ≤ g → rdF L D f i = rdF L D g i
  | f, g, i, hi, hf, hg => by
    cases h : L i with
    | none => rw [rdF_none h, rdF_none h]
    | some j =>
      obtain ⟨hj, hr⟩ := o.lt i j hi h
      cases f with
      | zero => omega
      | succ f =>
        cases g with
        | zero => omega
        | succ g =>
          show (match L i with | none => _ | some j => rdF L D f j ++ [(D i, (i : Int))]) = (match L i with | none => _ | some j => rdF L D g j ++ [(D i, (i : Int))])
          rw [h]
          show rdF L D f j ++ _ = rdF L D g j ++ _
          rw [rdF_stable o f g j hj (by omega) (by omega)]
theorem tpF_stable (o : Ok n L rk) : ∀ (f g i : Nat), i < n → rk i ≤ f → rk i ≤ g → tpF L f i = tpF L g i
  | f, g, i, hi, hf, hg => by
    cases h : L i with
    | none => rw [tpF_none h, tpF_none h]
    | some j =>
      obtain ⟨hj, hr⟩ := o.lt i j hi h
      cases f with
      | zero => omega
      | succ f =>
        cases g with
        | zero => omega
        | succ g =>
          show (match L i with | none => _ | some j => tpF L f j) = (match L i with | none => _ | some j => tpF L g j)
          rw [h]
          exact tpF_stable o f g j hj (by omega) (by omega)
/-- the road to a letter, its first letter -/
def rd (L : Nat → Option Nat) (D : Nat → Int) (rk : Nat → Nat) (i : Nat) : Road := rdF L D (rk i) i
def tp (L : Nat → Option Nat) (rk : Nat → Nat) (i : Nat) : Nat := tpF L (rk i) i
theorem rd_none {i : Nat} (h : L i = none) : rd L D rk i = [(D i, (i : Int))] := rdF_none h _
theorem tp_none {i : Nat} (h : L i = none) : tp L rk i = i := tpF_none h _
theorem rd_some (o : Ok n L rk) {i j : Nat} (hi : i < n) (h : L i = some j) : rd L D rk i = rd L D rk j ++ [(D i, (i : Int))] := by
  obtain ⟨hj, hr⟩ := o.lt i j hi h
  unfold rd
  cases hk : rk i with
  | zero => omega
  | succ m =>
    show (match L i with | none => _ | some j => rdF L D m j ++ [(D i, (i : Int))]) = _
    rw [h]
    show rdF L D m j ++ _ = _
    rw [rdF_stable o m (rk j) j hj (by omega) (Nat.le_refl _)]
theorem tp_some (o : Ok n L rk) {i j : Nat} (hi : i < n) (h : L i = some j) : tp L rk i = tp L rk j := by
  obtain ⟨hj, hr⟩ := o.lt i j hi h
  unfold tp
  cases hk : rk i with
  | zero => omega
  | succ m =>
    show (match L i with | none => _ | some j => tpF L m j) = _
    rw [h]
    exact tpF_stable o m (rk j) j hj (by omega) (Nat.le_refl _)
/-- induction along the links -/
theorem up_ind (o : Ok n L rk) {P : Nat → Prop} (h0 : ∀ i, i < n → L i = none → P i) (h1 : ∀ i j, i < n → L i = some j → P j → P i) : ∀ (m i : Nat), rk i ≤ m → i < n → P i
  | m, i, hm, hi => by
    cases h : L i with
    | none => exact h0 i hi h
    | some j =>
      obtain ⟨hj, hr⟩ := o.lt i j hi h
      cases m with
      | zero => omega
      | succ m => exact h1 i j hi h (up_ind o h0 h1 m j (by omega) hj)
theorem tp_ok (o : Ok n L rk) {i : Nat} (hi : i < n) : tp L rk i < n ∧ L (tp L rk i) = none :=
  up_ind o (P := fun i => tp L rk i < n ∧ L (tp L rk i) = none) (fun i hi h => by rw [tp_none h]; exact ⟨hi, h⟩) (fun i j hi h ih => by rw [tp_some o hi h]; exact ih) (rk i) i (Nat.le_refl _) hi
theorem rd_last (o : Ok n L rk) {i : Nat} (hi : i < n) : ∃ r, rd L D rk i = r ++ [(D i, (i : Int))] := by
  cases h : L i with
  | none => exact ⟨[], rd_none h⟩
  | some j => exact ⟨_, rd_some o hi h⟩
theorem rd_inj (o : Ok n L rk) {i j : Nat} (hi : i < n) (hj : j < n) (h : rd L D rk i = rd L D rk j) : i = j := by
  obtain ⟨r, e⟩ := rd_last (D := D) o hi
  obtain ⟨r', e'⟩ := rd_last (D := D) o hj
  rw [e, e'] at h
  have := (List.append_inj' h rfl).2
  injection this with z _
  have := congrArg Prod.snd z
  simp only at this
  omega
theorem rd_head (o : Ok n L rk) {i : Nat} (hi : i < n) : ∃ r, rd L D rk i = (D (tp L rk i), ((tp L rk i : Nat) : Int)) :: r :=
  up_ind o (P := fun i => ∃ r, rd L D rk i = (D (tp L rk i), ((tp L rk i : Nat) : Int)) :: r) (fun i hi h => ⟨[], by rw [rd_none h, tp_none h]⟩)
    (fun i j hi h ⟨r, e⟩ => ⟨r ++ [(D i, (i : Int))], by rw [rd_some o hi h, tp_some o hi h, e]; rfl⟩) (rk i) i (Nat.le_refl _) hi
/-- z hangs on v, or is v -/
def Un (L : Nat → Option Nat) (D : Nat → Int) (rk : Nat → Nat) (v z : Nat) : Prop := rd L D rk v <+: rd L D rk z
theorem un_tp (o : Ok n L rk) {i : Nat} (hi : i < n) : Un L D rk (tp L rk i) i := by
  obtain ⟨r, e⟩ := rd_head (D := D) o hi
  have h := (tp_ok o hi).2
  unfold Un
  rw [rd_none h, e]
  exact ⟨r, rfl⟩
theorem un_child (o : Ok n L rk) {v : Nat} (hv : v < n) : ∀ {k : Nat}, k < n → Un L D rk v k → k ≠ v → ∃ c, c < n ∧ L c = some v ∧ Un L D rk c k := fun {k} hk hu hne => by
  refine up_ind o (P := fun k => Un L D rk v k → k ≠ v → ∃ c, c < n ∧ L c = some v ∧ Un L D rk c k) (fun k hk h hu hne => ?_) (fun k p hk h ih hu hne => ?_) (rk k) k (Nat.le_refl _) hk hu hne
  · obtain ⟨r, e⟩ := hu
    obtain ⟨r', e'⟩ := rd_last (D := D) o hv
    rw [rd_none h, e'] at e
    have hl := congrArg List.length e
    simp only [List.length_append, List.length_cons, List.length_nil] at hl
    have h1 : r' = [] := List.eq_nil_of_length_eq_zero (by omega)
    have h2 : r = [] := List.eq_nil_of_length_eq_zero (by omega)
    rw [h1, h2] at e
    injection e with z _
    have := congrArg Prod.snd z
    simp only at this
    omega
  · obtain ⟨hp, _⟩ := o.lt k p hk h
    have hu' := hu
    unfold Un at hu'
    rw [rd_some o hk h] at hu'
    by_cases hpv : p = v
    · subst hpv
      exact ⟨k, hk, h, List.prefix_refl _⟩
    · have hpre : Un L D rk v p := by
        obtain ⟨r, e⟩ := hu'
        rcases List.eq_nil_or_concat r with rfl | ⟨r', x, rfl⟩
        · rw [List.append_nil] at e
          obtain ⟨r', e'⟩ := rd_last (D := D) o hv
          rw [e'] at e
          have := (List.append_inj' e rfl).2
          injection this with z _
          have := congrArg Prod.snd z
          simp only at this
          omega
        · rw [List.concat_eq_append, ← List.append_assoc] at e
          exact ⟨r', (List.append_inj' e rfl).1⟩
      obtain ⟨c, hc, hl, hu2⟩ := ih hpre hpv
      refine ⟨c, hc, hl, ?_⟩
      unfold Un
      rw [rd_some o hk h]
      exact List.IsPrefix.trans hu2 (List.prefix_append _ _)
theorem un_lt (o : Ok n L rk) {v z : Nat} (hv : v < n) (hz : z < n) (h : Un L D rk v z) (hne : z ≠ v) : lexR (rd L D rk v) (rd L D rk z) = true := by
  obtain ⟨r, e⟩ := h
  rw [← e]
  refine Stree.lexR_pre _ fun hr => hne ?_
  rw [hr, List.append_nil] at e
  exact (rd_inj o hv hz e).symm
theorem sib_lt (o : Ok n L rk) {v c d z : Nat} (hc : c < n) (hd : d < n) (h1 : L c = some v) (h2 : L d = some v) (hlt : lex2 (D c, (c : Int)) (D d, (d : Int)) = true) (hu : Un L D rk c z) : lexR (rd L D rk z) (rd L D rk d) = true := by
  obtain ⟨r, e⟩ := hu
  rw [← e, rd_some o hc h1, rd_some o hd h2, List.append_assoc]
  exact Stree.lexR_part _ hlt
/-- what the walk keeps: told so far, and what lies ahead in the order in which it is taken -/
structure Walk (n : Nat) (L : Nat → Option Nat) (D : Nat → Int) (rk : Nat → Nat) (root : Nat) (told nx : List Nat) : Prop where
  tl : ∀ x ∈ told, x < n ∧ tp L rk x = root
  al : ∀ x ∈ nx, x < n ∧ tp L rk x = root
  tt : told.Pairwise fun x y => lexR (rd L D rk x) (rd L D rk y) = true
  ta : ∀ x ∈ told, ∀ y ∈ nx, lexR (rd L D rk x) (rd L D rk y) = true
  aa : nx.Pairwise fun x y => ∀ z, Un L D rk x z → lexR (rd L D rk z) (rd L D rk y) = true
  all : ∀ k, k < n → tp L rk k = root → k ∈ told ∨ ∃ a ∈ nx, Un L D rk a k
theorem Walk.start (o : Ok n L rk) {i : Nat} (hi : i < n) : Walk n L D rk (tp L rk i) [] [tp L rk i] := by
  have h := tp_ok o hi
  refine ⟨fun x hx => (nomatch hx), fun x hx => ?_, .nil, fun x hx => (nomatch hx), List.pairwise_singleton _ _, fun k hk e => .inr ⟨_, List.mem_singleton.mpr rfl, ?_⟩⟩
  · rw [List.mem_singleton.mp hx]
    exact ⟨h.1, by rw [tp_none h.2]⟩
  · have z := un_tp (D := D) o hk
    rw [e] at z
    exact z
theorem Walk.step (o : Ok n L rk) {root v : Nat} {told rest kids : List Nat} (W : Walk n L D rk root told (v :: rest)) (hk : ∀ i, i ∈ kids ↔ i < n ∧ L i = some v) (hs : kids.Pairwise fun x y => lex2 (D x, (x : Int)) (D y, (y : Int)) = true) : Walk n L D rk root (told ++ [v]) (kids ++ rest) := by
  obtain ⟨hv, hvr⟩ := W.al v List.mem_cons_self
  obtain ⟨va, ra⟩ := List.pairwise_cons.mp W.aa
  have kid : ∀ c ∈ kids, c < n ∧ L c = some v ∧ tp L rk c = root ∧ Un L D rk v c ∧ c ≠ v := fun c hc => by
    obtain ⟨h1, h2⟩ := (hk c).mp hc
    refine ⟨h1, h2, by rw [tp_some o h1 h2]; exact hvr, ?_, fun z => ?_⟩
    · unfold Un
      rw [rd_some o h1 h2]
      exact List.prefix_append _ _
    · have := (o.lt c v h1 h2).2
      rw [z] at this
      omega
  have self : ∀ x, Un L D rk x x := fun x => List.prefix_refl _
  refine ⟨fun x hx => ?_, fun x hx => ?_, ?_, fun x hx y hy => ?_, ?_, fun k hkn hkr => ?_⟩
  · rcases List.mem_append.mp hx with hx | hx
    · exact W.tl x hx
    · rw [List.mem_singleton.mp hx]; exact ⟨hv, hvr⟩
  · rcases List.mem_append.mp hx with hx | hx
    · exact ⟨(kid x hx).1, (kid x hx).2.2.1⟩
    · exact W.al x (List.mem_cons_of_mem _ hx)
  · refine List.pairwise_append.mpr ⟨W.tt, List.pairwise_singleton _ _, fun x hx y hy => ?_⟩
    rw [List.mem_singleton.mp hy]
    exact W.ta x hx v List.mem_cons_self
  · have hvy : ∀ y ∈ kids ++ rest, lexR (rd L D rk v) (rd L D rk y) = true := fun y hy => by
      rcases List.mem_append.mp hy with hy | hy
      · exact un_lt o hv (kid y hy).1 (kid y hy).2.2.2.1 (kid y hy).2.2.2.2
      · exact va y hy v (self v)
    rcases List.mem_append.mp hx with hx | hx
    · exact Stree.lexR_tr (W.ta x hx v List.mem_cons_self) (hvy y hy)
    · rw [List.mem_singleton.mp hx]; exact hvy y hy
  · refine List.pairwise_append.mpr ⟨hs.imp_of_mem fun {c d} hc hd h z hz => sib_lt o (kid c hc).1 (kid d hd).1 (kid c hc).2.1 (kid d hd).2.1 h hz, ra, fun c hc y hy z hz => ?_⟩
    exact va y hy z (List.IsPrefix.trans (kid c hc).2.2.2.1 hz)
  · rcases W.all k hkn hkr with h | ⟨a, ha, hu⟩
    · exact .inl (List.mem_append_left _ h)
    · rcases List.mem_cons.mp ha with rfl | ha
      · by_cases e : k = a
        · exact .inl (List.mem_append_right _ (List.mem_singleton.mpr e))
        · obtain ⟨c, hc, hl, hu2⟩ := un_child o hv hkn hu e
          exact .inr ⟨c, List.mem_append_left _ ((hk c).mpr ⟨hc, hl⟩), hu2⟩
      · exact .inr ⟨a, List.mem_append_right _ ha, hu⟩
theorem Walk.nodup {root : Nat} {told nx : List Nat} (W : Walk n L D rk root told nx) : told.Nodup :=
  W.tt.imp fun {x y} h z => by rw [z, Stree.lexR_irr] at h; cases h
theorem nodup_len : ∀ {n : Nat} {l : List Nat}, l.Nodup → (∀ x ∈ l, x < n) → l.length ≤ n
  | 0, [], _, _ => Nat.le_refl _
  | 0, x :: _, _, h => absurd (h x List.mem_cons_self) (Nat.not_lt_zero _)
  | n + 1, l, nd, h => by
    by_cases hn : n ∈ l
    · have ih := nodup_len (n := n) (l := l.erase n) (nd.erase n) fun x hx => by
        have := (List.Nodup.mem_erase_iff nd).mp hx
        have := h x this.2
        omega
      rw [List.length_erase_of_mem hn] at ih
      omega
    · have ih := nodup_len (n := n) (l := l) nd fun x hx => by
        have := h x hx
        have : x ≠ n := fun z => hn (z ▸ hx)
        omega
      omega
theorem Walk.len {root : Nat} {told nx : List Nat} (W : Walk n L D rk root told nx) : told.length ≤ n := nodup_len W.nodup fun x hx => (W.tl x hx).1
theorem Walk.done {root : Nat} {told : List Nat} (W : Walk n L D rk root told []) (k : Nat) : k ∈ told ↔ k < n ∧ tp L rk k = root :=
  ⟨fun h => W.tl k h, fun ⟨h1, h2⟩ => (W.all k h1 h2).elim id fun ⟨a, ha, _⟩ => nomatch ha⟩
end
end Fm
end

section
set_option Elab.async false
set_option linter.unusedVariables false
set_option maxRecDepth 100000
set_option maxHeartbeats 1000000
namespace Thr
open PySem L2 PyProof.Rows
def top (i : Nat) : Stmt := PySem.Challenge.pw_letterdesk_k03_thread.main.body.getD i (.Pass ⟨0, 0, 0, 0⟩)
abbrev sThread : Stmt := top 1
abbrev sTopOf : Stmt := top 2
abbrev sAns : Stmt := top 3
abbrev sUnturned : Stmt := top 5
abbrev sRoom : Stmt := top 6
abbrev sWhole : Stmt := top 7
abbrev sAt : Stmt := top 8
abbrev sFamily : Stmt := top 9
abbrev sForest : Stmt := top 10
abbrev sLaw : Stmt := top 11
theorem bt_len : bootBuiltins "len" = some (.builtin "len") := by decide +kernel
theorem bt_min : bootBuiltins "min" = some (.builtin "min") := by decide +kernel
theorem bt_sum : bootBuiltins "sum" = some (.builtin "sum") := by decide +kernel
theorem bt_sorted : bootBuiltins "sorted" = some (.builtin "sorted") := by decide +kernel
theorem bt_isinstance : bootBuiltins "isinstance" = some (.builtin "isinstance") := by decide +kernel
theorem bt_int : bootBuiltins "int" = some (.type "int") := by decide +kernel
theorem bt_str : bootBuiltins "str" = some (.type "str") := by decide +kernel
theorem bt_bool : bootBuiltins "bool" = some (.type "bool") := by decide +kernel
theorem bt_list : bootBuiltins "list" = some (.type "list") := by decide +kernel
theorem bt_tuple : bootBuiltins "tuple" = some (.type "tuple") := by decide +kernel
theorem bt_set : bootBuiltins "set" = some (.type "set") := by decide +kernel
/-- names that are Python's own -/
structure Glob (mg : Str → Option Value) : Prop where
  b_len : mg "len" = none
  b_sorted : mg "sorted" = none
  b_isinstance : mg "isinstance" = none
  b_int : mg "int" = none
  b_str : mg "str" = none
  b_bool : mg "bool" = none
  b_list : mg "list" = none
  b_tuple : mg "tuple" = none
  b_range : mg "range" = none
def spWhole : Sp := fun vs H Q _ => ∃ n, vs = [.int n] ∧ Q (.bl true) H
def spAt (K : PySem.W.Frag) : Sp := fun vs H Q _ => ∃ (a : Addr) (ns : List Int) (k : Nat), vs = [.ref a, .int (k : Int)] ∧ SqL K H a (ns.map V.int) ∧ Q (.int (ns.getD k 0)) H
def spRoom (K : PySem.W.Frag) : Sp := fun vs H Q _ => ∃ (a : Addr) (ns : List Int) (x y : Int), vs = [.ref a, .int x, .int y] ∧ SqL K H a (ns.map V.int) ∧ ns.length ≤ 63 ∧ Q (.int x) H
section
variable {P : Program} {w : World} {K : PySem.W.Frag} {mg : Str → Option Value} {base : Heap} {f : Addr} {fd : FuncData}
theorem sc_whole : FnScope ["_law_found"] ["_law_found"] (defScope sWhole) := ⟨rfl, rfl, rfl, by decide +kernel, rfl, by decide +kernel, by decide +kernel⟩
theorem ok_whole (T : Glob mg) (F : Fun K "_law_whole" "_law_whole" sWhole f fd) : FnOk P w K mg base CX0 1 f fd ["_law_found"] spWhole := by
  have sc := sc_whole
  refine F.ok (k := 0) sc (fun vs H Q E h => by obtain ⟨n, rfl, _⟩ := h; rfl) (fun cdv A outer s H vs Q E hr h => ?_)
  obtain ⟨n, rfl, q⟩ := h
  refine ⟨_, (pss_one (ps_ret (pe_and (pe_callB call_isi rfl T.b_isinstance bt_isinstance (pa_cons (pv 0) (pa_cons (pe_bltn (v := .ty "int") rfl T.b_int bt_int rfl) pa_nil))) (pe_one (pe_not (pe_callB call_isi rfl T.b_isinstance bt_isinstance (pa_cons (pv 0) (pa_cons (pe_bltn (v := .ty "bool") rfl T.b_bool bt_bool rfl) pa_nil)))))))), ?_⟩
  refine ⟨_, rfl, _, "int", _, _, rfl, .int n, ki_int_int _, _, rfl, onT rfl ?_⟩
  exact ⟨_, rfl, _, "bool", _, _, rfl, .int n, ki_int_bool _, _, rfl, q⟩
theorem sc_at : FnScope ["_law_script", "_law_k"] ["_law_script", "_law_k"] (defScope sAt) := ⟨rfl, rfl, rfl, by decide +kernel, rfl, by decide +kernel, by decide +kernel⟩
theorem ok_at (T : Glob mg) (F : Fun K "_law_at" "_law_at" sAt f fd) : FnOk P w K mg base CX0 1 f fd ["_law_script", "_law_k"] (spAt K) := by
  have sc := sc_at
  refine F.ok (k := 0) sc (fun vs H Q E h => by obtain ⟨a, ns, k, rfl, _⟩ := h; rfl) (fun cdv A outer s H vs Q E hr h => ?_)
  obtain ⟨a, ns, k, rfl, hS, q⟩ := h
  refine ⟨_, (pss_cons (ps_if (pt_cmpR op_lt (pv 1) (pe_callB call_len_seq rfl T.b_len bt_len (pa_cons (pv 0) pa_nil)) (nomark _)) (pss_one (ps_ret (pe_ix ix_list (pv 0) (pv 1) (fun _ _ => rfl)))) pss_nil)
    (pss_one (ps_ret pe_int))), ?_⟩
  refine ⟨_, rfl, _, rfl, a, _, rfl, .inl hS, _, _, rfl, rfl, _, rfl, ?_⟩
  refine ite2 (fun c => ?_) (fun c => ?_)
  · have c' := of_decide_eq_true c
    have hk : k < ns.length := by rw [List.length_map] at c'; omega
    refine ⟨_, rfl, _, rfl, a, _, _, .int (ns.getD k 0), rfl, rfl, hS, atI_nat ?_, q⟩
    simp [List.getElem?_map, List.getD, List.getElem?_eq_getElem hk]
  · have c' := of_decide_eq_false (Bool.eq_false_iff.mpr c)
    have hk : ¬ k < ns.length := by rw [List.length_map] at c'; omega
    have e : ns.getD k 0 = 0 := by simp [List.getD, List.getElem?_eq_none (show ns.length ≤ k by omega)]
    rw [e] at q
    exact q

theorem sc_room : FnScope ["_law_script", "_law_most", "_law_bound"] ["_law_script", "_law_most", "_law_bound"] (defScope sRoom) := ⟨rfl, rfl, rfl, by decide +kernel, rfl, by decide +kernel, by decide +kernel⟩
theorem ok_room (T : Glob mg) (F : Fun K "_law_room" "_law_room" sRoom f fd) : FnOk P w K mg base CX0 1 f fd ["_law_script", "_law_most", "_law_bound"] (spRoom K) := by
  have sc := sc_room
  refine F.ok (k := 0) sc (fun vs H Q E h => by obtain ⟨a, ns, x, y, rfl, _⟩ := h; rfl) (fun cdv A outer s H vs Q E hr h => ?_)
  obtain ⟨a, ns, x, y, rfl, hS, h63, q⟩ := h
  refine ⟨_, (pss_cons (ps_if (pt_cmpR op_gt (pe_callB call_len_seq rfl T.b_len bt_len (pa_cons (pv 0) pa_nil)) pe_int (nomark _)) (pss_one (ps_ret (pv 2))) pss_nil)
    (pss_one (ps_ret (pv 1)))), ?_⟩
  refine ⟨_, rfl, a, _, rfl, .inl hS, _, _, rfl, rfl, _, rfl, onF ?_ ⟨_, rfl, q⟩⟩
  rw [List.length_map]
  exact decide_eq_false (by omega)
end
def Sq (K : PySem.W.Frag) (H : Hp) (a : Addr) (xs : List V) : Prop := H a = some (.lst xs) ∨ H a = some (.tup xs)
theorem Sq.any {K : PySem.W.Frag} {H : Hp} {a : Addr} {xs : List V} (h : Sq K H a xs) : SqL K H a xs ∨ SqT K H a xs := h.imp SqL.of SqT.of
theorem Sq.same {K : PySem.W.Frag} {H H' : Hp} {a : Addr} {xs : List V} (k : Same H H') (h : Sq K H a xs) : Sq K H' a xs := h.imp (k _ _) (k _ _)
theorem Sq.ix {K : PySem.W.Frag} {H : Hp} {a : Addr} {xs : List V} {i : Nat} {v : V} {Q : VK} (h : Sq K H a xs) (e : xs[i]? = some v) (q : Q v H) : rIx K (.ref a) (.int (i : Int)) H Q := by
  rcases h with h | h
  · exact .inl ⟨a, xs, _, v, rfl, rfl, SqL.of h, atI_nat e, q⟩
  · exact .inr (.inl ⟨a, xs, _, v, rfl, rfl, SqT.of h, atI_nat e, q⟩)
theorem Sq.isi {K : PySem.W.Frag} {H : Hp} {a : Addr} {xs : List V} (h : Sq K H a xs) : ∃ t bl, TyOf K H (.ref a) t ∧ PySem.W.kitOne K t (.type "list") = some bl ∧ PySem.W.kitOne K t (.type "tuple") = some (!bl) ∧ (bl = true ↔ H a = some (.lst xs)) := by
  rcases h with h | h
  · exact ⟨_, true, .lst h, ki_list_list K, ki_list_tuple K, by simp [h]⟩
  · exact ⟨_, false, .tup h, ki_tuple_list K, ki_tuple_tuple K, by simp [h]⟩
def total : List (Addr × Dt) → Nat
  | [] => 0
  | q :: r => q.2.size + total r
theorem total_append : ∀ a b : List (Addr × Dt), total (a ++ b) = total a + total b
  | [], b => by simp [total]
  | q :: r, b => by rw [List.cons_append]; show q.2.size + total (r ++ b) = q.2.size + total r + total b; rw [total_append r b]; omega
theorem total_sizes : ∀ {qi : List (Addr × Dt)} {ds : List Dt}, qi.map (·.2) = ds → total qi = sizes ds
  | [], [], _ => by simp [total, sizes]
  | q :: r, d :: ds, h => by
    rw [List.map_cons] at h
    cases h
    show q.2.size + total r = q.2.size + sizes (r.map (·.2))
    rw [total_sizes rfl]
  | [], _ :: _, h => by cases h
  | _ :: _, [], h => by cases h
theorem total_len : ∀ qs : List (Addr × Dt), qs.length ≤ total qs
  | [] => Nat.le_refl _
  | q :: r => by
    have := total_len r
    have h1 : 1 ≤ q.2.size := by cases q.2 <;> simp [Dt.size]
    show r.length + 1 ≤ q.2.size + total r
    omega
theorem len_sizes : ∀ ds : List Dt, ds.length ≤ sizes ds
  | [] => Nat.le_refl _
  | d :: r => by
    have := len_sizes r
    have h1 : 1 ≤ d.size := by cases d <;> simp [Dt.size]
    show r.length + 1 ≤ d.size + sizes r
    omega
theorem snoc_of {α : Type} : ∀ {l : List α}, l ≠ [] → ∃ init last, l = init ++ [last]
  | [], h => absurd rfl h
  | [x], _ => ⟨[], x, rfl⟩
  | x :: y :: r, _ => by
    obtain ⟨i, l, e⟩ := snoc_of (l := y :: r) (by simp)
    exact ⟨x :: i, l, by rw [e]; rfl⟩
theorem same_up {H0 H : Hp} {td : Addr} {o : HO} (k : Same H0 H) (h : H0 td = none) : Same H0 (upd H td o) := fun b u q => by rw [upd_ne (ne_of_none q h)]; exact k b u q
/-- a pair that waits -/
def Pair (H0 H : Hp) (q : Addr × Dt) : Prop := ∃ x y, H q.1 = some (.tup [x, y]) ∧ Is H0 x q.2 ∧ Is H0 y q.2
theorem Pair.keep {H0 H H' : Hp} {q : Addr × Dt} (p : Pair H0 H q) (k : ∀ a xs, H a = some (.tup xs) → H' a = some (.tup xs)) : Pair H0 H' q := let ⟨x, y, h, r⟩ := p; ⟨x, y, k _ _ h, r⟩
theorem tup_new {H : Hp} {p : Addr} {o : HO} (h : H p = none) : ∀ a xs, H a = some (.tup xs) → upd H p o a = some (.tup xs) := fun a xs e => by rw [upd_ne (ne_of_none e h)]; exact e
theorem tup_lst {H : Hp} {p : Addr} {zs : List V} {o : HO} (h : H p = some (.lst zs)) : ∀ a xs, H a = some (.tup xs) → upd H p o a = some (.tup xs) := fun a xs e => by rw [upd_ne (ne_of e h (by intro z; cases z))]; exact e
def WU (H0 : Hp) (v u : V) (td : Addr) (m : Nat) (σ : L2.St) (H : Hp) : Prop := ∃ qs l r k, σ = [some v, some u, some (.ref td), l, r, k] ∧ Same H0 H ∧ H td = some (.lst (qs.map fun q => .ref q.1)) ∧ (∀ q ∈ qs, Pair H0 H q) ∧ m = total qs ∧ total qs ≤ 1000
def spUnturned : Sp := fun vs H Q _ => ∃ v u d, vs = [v, u] ∧ Is H v d ∧ Is H u d ∧ d.size ≤ 1000 ∧ ∀ H', Same H H' → Q (.bl true) H'
section
variable {P : Program} {w : World} {K : PySem.W.Frag} {mg : Str → Option Value} {base : Heap} {f : Addr} {fd : FuncData}
theorem sc_unturned : FnScope ["_law_found", "_law_due", "_law_todo", "_law_left", "_law_right", "_law_k"] ["_law_found", "_law_due"] (defScope sUnturned) := ⟨rfl, rfl, rfl, by decide +kernel, rfl, by decide +kernel, by decide +kernel⟩
theorem ok_unturned (T : Glob mg) (F : Fun K "_law_unturned" "_law_unturned" sUnturned f fd) : FnOk P w K mg base CX0 1 f fd ["_law_found", "_law_due"] spUnturned := by
  have sc := sc_unturned
  refine F.ok (k := 0) sc (fun vs H Q E h => by obtain ⟨v, u, d, rfl, _⟩ := h; rfl) (fun cdv A outer s H0 vs Q E hr h => ?_)
  obtain ⟨v, u, d, rfl, hv, hu, hd, q⟩ := h
  refine ⟨_, (pss_cons (ps_set (i := 2) sc.nd rfl (Or.inl rfl) (pe_lst (pa_cons (pe_tup (pa_cons (pv 0) (pa_cons (pv 1) pa_nil))) pa_nil)))
    (pss_cons (ps_while PassesOwn.never (pt_cmpR (op_neNil hr.units0) (pv 2) (pe_lst pa_nil) (nomark _)) (pss_cons (ps_asg (pe_bm0 PySem.F.plainAttrs_list PySem.F.slot_list_pop PySem.F.type_list_pop mt_pop (pv 2)) (pg_tup rfl (pgs_cons (pg_name (i := 3) sc.nd rfl (Or.inl rfl)) (pgs_cons (pg_name (i := 4) sc.nd rfl (Or.inl rfl)) pgs_nil))))
    (pss_one (ps_if (pt_val (pe_callB call_isi2 rfl T.b_isinstance bt_isinstance (pa_cons (pv 4) (pa_cons (pe_tup (pa_cons (pe_bltn (v := .ty "list") rfl T.b_list bt_list rfl) (pa_cons (pe_bltn (v := .ty "tuple") rfl T.b_tuple bt_tuple rfl) pa_nil))) pa_nil)))) (pss_cons (ps_if (pt_cmpR op_ne (pe_callB call_isi rfl T.b_isinstance bt_isinstance (pa_cons (pv 3) (pa_cons (pe_bltn (v := .ty "list") rfl T.b_list bt_list rfl) pa_nil))) (pe_callB call_isi rfl T.b_isinstance bt_isinstance (pa_cons (pv 4) (pa_cons (pe_bltn (v := .ty "list") rfl T.b_list bt_list rfl) pa_nil))) (nomark _)) (pss_one (ps_ret pe_bl)) pss_nil)
    (pss_cons (ps_if (PW.pt (pw_or (pt_not (pt_val (pe_callB call_isi2 rfl T.b_isinstance bt_isinstance (pa_cons (pv 3) (pa_cons (pe_tup (pa_cons (pe_bltn (v := .ty "list") rfl T.b_list bt_list rfl) (pa_cons (pe_bltn (v := .ty "tuple") rfl T.b_tuple bt_tuple rfl) pa_nil))) pa_nil))))) (pw_or1 (pt_cmpR op_ne (pe_callB call_len_seq rfl T.b_len bt_len (pa_cons (pv 3) pa_nil)) (pe_callB call_len_seq rfl T.b_len bt_len (pa_cons (pv 4) pa_nil)) (nomark _))))) (pss_one (ps_ret pe_bl)) pss_nil)
    (pss_one (ps_for PassesOwn.never rfl (pi_range1 rfl T.b_range (pa_cons (pe_callB call_len_seq rfl T.b_len bt_len (pa_cons (pv 4) pa_nil)) pa_nil)) (pg_name (i := 5) sc.nd rfl (Or.inl rfl)) (pss_one (ps_expr (pe_bm PySem.F.plainAttrs_list PySem.F.slot_list_append PySem.F.type_list_append mt_append (pv 2) (pa_cons (pe_tup (pa_cons (pe_ix ix_seq (pv 3) (pv 5) (fun _ _ => rfl)) (pa_cons (pe_ix ix_seq (pv 4) (pv 5) (fun _ _ => rfl)) pa_nil))) pa_nil)))))))) (pss_one (ps_if (PW.pt (pw_or (pt_cmpR op_isN (pv 3) pe_non (nomark _)) (pw_or1 (pt_cmpR op_isN (pv 4) pe_non (nomark _))))) (pss_one (ps_if (PW.pt (pw_or (pt_cmpR op_notN (pv 3) pe_non (nomark _)) (pw_or1 (pt_cmpR op_notN (pv 4) pe_non (nomark _))))) (pss_one (ps_ret pe_bl)) pss_nil)) (pss_one (ps_if (pt_cmpR op_ne (pe_callB call_isi rfl T.b_isinstance bt_isinstance (pa_cons (pv 3) (pa_cons (pe_bltn (v := .ty "bool") rfl T.b_bool bt_bool rfl) pa_nil))) (pe_callB call_isi rfl T.b_isinstance bt_isinstance (pa_cons (pv 4) (pa_cons (pe_bltn (v := .ty "bool") rfl T.b_bool bt_bool rfl) pa_nil))) (nomark _)) (pss_one (ps_ret pe_bl)) (pss_one (ps_if (pt_cmpR op_ne (pe_callB call_isi rfl T.b_isinstance bt_isinstance (pa_cons (pv 3) (pa_cons (pe_bltn (v := .ty "str") rfl T.b_str bt_str rfl) pa_nil))) (pe_callB call_isi rfl T.b_isinstance bt_isinstance (pa_cons (pv 4) (pa_cons (pe_bltn (v := .ty "str") rfl T.b_str bt_str rfl) pa_nil))) (nomark _)) (pss_one (ps_ret pe_bl)) (pss_one (ps_if (PW.pt (pw_or (pt_not (pt_val (pe_callB call_isi2 rfl T.b_isinstance bt_isinstance (pa_cons (pv 3) (pa_cons (pe_tup (pa_cons (pe_bltn (v := .ty "str") rfl T.b_str bt_str rfl) (pa_cons (pe_bltn (v := .ty "int") rfl T.b_int bt_int rfl) pa_nil))) pa_nil))))) (pw_or1 (pt_cmpR op_ne (pv 3) (pv 4) (nomark _))))) (pss_one (ps_ret pe_bl)) pss_nil))))))))))))
    (pss_one (ps_ret pe_bl)))), ?_⟩
  refine ⟨_, rfl, _, rfl, z2, fun p0 hp0 => ⟨z1, fun td htd => ?_⟩⟩
  have ntd : H0 td = none := (same_upd hp0 _).fresh htd
  refine ⟨WU H0 v u td, ⟨d.size, [(p0, d)], none, none, none, rfl, same_up (same_upd hp0 _) ntd, upd_same, ?_, by simp [total], by simpa [total] using hd⟩, ?_⟩
  · intro q hq
    rw [List.mem_singleton.mp hq]
    exact ⟨v, u, tup_new htd _ _ upd_same, hv, hu⟩
  rintro m σ H ⟨qs, l, r, k, rfl, hk, hT, hP, rfl, htot⟩
  refine ⟨_, rfl, z0, fun pn hpn => ?_⟩
  have hpt : pn ≠ td := Ne.symm (ne_of_none hT hpn)
  have hT1 : upd H pn (.lst []) td = some (.lst (qs.map fun q => .ref q.1)) := by rw [upd_ne (Ne.symm hpt)]; exact hT
  refine ⟨td, pn, _, rfl, rfl, SqL.of hT1, SqL.of upd_same, _, rfl, ?_⟩
  by_cases hne : qs = []
  · subst hne
    rw [if_neg (by decide)]
    exact q _ (hk.trans (same_upd hpn _))
  obtain ⟨init, ⟨lp, d⟩, rfl⟩ := snoc_of hne
  rw [if_pos (by simp)]
  refine ⟨fun σ' H' => ∃ m', m' < total (init ++ [(lp, d)]) ∧ WU H0 v u td m' σ' H', fun σ' H' z => z, ?_⟩
  obtain ⟨x, y, hlp, hx, hy⟩ := hP (lp, d) (by simp)
  have hlast : ((init ++ [(lp, d)]).map fun q => V.ref q.1)[((init ++ [(lp, d)]).map fun q => V.ref q.1).length - 1]? = some (.ref lp) := by simp
  have hdrop : ((init ++ [(lp, d)]).map fun q => V.ref q.1).dropLast = init.map fun q => V.ref q.1 := by simp
  have kt1 : ∀ a xs, H a = some (.tup xs) → upd (upd H pn (.lst [])) td (.lst (init.map fun q => V.ref q.1)) a = some (.tup xs) := fun a xs e => tup_lst hT1 _ _ (tup_new hpn _ _ e)
  refine ⟨_, rfl, .inl ⟨rfl, _, SqL.of hT1⟩, td, _, .ref lp, rfl, rfl, hT1, hlast, ?_⟩
  rw [hdrop]
  have hk2 : Same H0 (upd (upd H pn (.lst [])) td (.lst (init.map fun q => V.ref q.1))) := same_up (hk.trans (same_upd hpn _)) ntd
  have hT2 : upd (upd H pn (.lst [])) td (.lst (init.map fun q => V.ref q.1)) td = some (.lst (init.map fun q => .ref q.1)) := upd_same
  have hP2 : ∀ q ∈ init, Pair H0 (upd (upd H pn (.lst [])) td (.lst (init.map fun q => V.ref q.1))) q := fun q hq => (hP q (by simp [hq])).keep kt1
  have hlp2 := kt1 _ _ hlp
  generalize hH2 : upd (upd H pn (.lst [])) td (.lst (init.map fun q => V.ref q.1)) = H2 at hk2 hT2 hP2 hlp2 ⊢
  refine ⟨lp, [x, y], rfl, SqT.of hlp2, rfl, x, [y], rfl, y, [], rfl, rfl, ?_⟩
  have hsz : 1 ≤ d.size := by cases d <;> simp [Dt.size]
  have hle : total init + d.size ≤ 1000 := by rw [total_append] at htot; simpa [total] using htot
  have hm : total init < total (init ++ [(lp, d)]) := by rw [total_append]; simp [total]; omega
  -- nothing more to push: on with what waits
  have fin : ∀ H3, (∀ b o, H2 b = some o → H3 b = some o) → ∃ m', m' < total (init ++ [(lp, d)]) ∧ WU H0 v u td m' [some v, some u, some (.ref td), some x, some y, k] H3 := fun H3 k3 =>
    ⟨total init, hm, init, some x, some y, k, rfl, hk2.trans k3, k3 _ _ hT2, fun q hq => (hP2 q hq).keep fun a xs e => k3 _ _ e, rfl, by omega⟩
  refine ⟨_, rfl, z2, fun p1 hp1 => ?_⟩
  have k1 : Same H2 (upd H2 p1 (.tup [.ty "list", .ty "tuple"])) := same_upd hp1 _
  cases d with
  | non =>
    have ex : x = .non := by unfold Is at hx; exact hx
    have ey : y = .non := by unfold Is at hy; exact hy
    subst ex
    subst ey
    refine ⟨_, p1, "list", "tuple", _, _, _, rfl, SqT.of upd_same, .non, ki_NoneType_list _, ki_NoneType_tuple _, _, rfl, onF rfl ?_⟩
    refine ⟨_, rfl, rfl, _, rfl, onT rfl (onT rfl ?_)⟩
    refine ⟨_, rfl, rfl, _, rfl, onF rfl ?_⟩
    refine ⟨_, rfl, rfl, _, rfl, onF rfl ?_⟩
    exact fin _ k1
  | bl b =>
    have ex : x = .bl b := by unfold Is at hx; exact hx
    have ey : y = .bl b := by unfold Is at hy; exact hy
    subst ex
    subst ey
    refine ⟨_, p1, "list", "tuple", _, _, _, rfl, SqT.of upd_same, .bl b, ki_bool_list _, ki_bool_tuple _, _, rfl, onF rfl ?_⟩
    refine ⟨_, rfl, rfl, _, rfl, onF rfl ?_⟩
    refine ⟨_, rfl, rfl, _, rfl, onF rfl ?_⟩
    refine ⟨_, rfl, _, "bool", _, _, rfl, .bl b, ki_bool_bool _, _, rfl, _, "bool", _, _, rfl, .bl b, ki_bool_bool _, rfl, _, rfl, onF rfl ?_⟩
    refine ⟨_, rfl, _, "str", _, _, rfl, .bl b, ki_bool_str _, _, rfl, _, "str", _, _, rfl, .bl b, ki_bool_str _, rfl, _, rfl, onF rfl ?_⟩
    refine ⟨_, rfl, z2, fun p2 hp2 => ?_⟩
    refine ⟨_, p2, "str", "int", _, _, _, rfl, SqT.of upd_same, .bl b, ki_bool_str _, ki_bool_int _, _, rfl, onF rfl ?_⟩
    refine ⟨_, rfl, _, rfl, rfl, _, rfl, onF (by simp) ?_⟩
    exact fin _ (k1.trans (same_upd hp2 _))
  | int n =>
    have ex : x = .int n := by unfold Is at hx; exact hx
    have ey : y = .int n := by unfold Is at hy; exact hy
    subst ex
    subst ey
    refine ⟨_, p1, "list", "tuple", _, _, _, rfl, SqT.of upd_same, .int n, ki_int_list _, ki_int_tuple _, _, rfl, onF rfl ?_⟩
    refine ⟨_, rfl, rfl, _, rfl, onF rfl ?_⟩
    refine ⟨_, rfl, rfl, _, rfl, onF rfl ?_⟩
    refine ⟨_, rfl, _, "bool", _, _, rfl, .int n, ki_int_bool _, _, rfl, _, "bool", _, _, rfl, .int n, ki_int_bool _, rfl, _, rfl, onF rfl ?_⟩
    refine ⟨_, rfl, _, "str", _, _, rfl, .int n, ki_int_str _, _, rfl, _, "str", _, _, rfl, .int n, ki_int_str _, rfl, _, rfl, onF rfl ?_⟩
    refine ⟨_, rfl, z2, fun p2 hp2 => ?_⟩
    refine ⟨_, p2, "str", "int", _, _, _, rfl, SqT.of upd_same, .int n, ki_int_str _, ki_int_int _, _, rfl, onF rfl ?_⟩
    refine ⟨_, rfl, _, rfl, rfl, _, rfl, onF (by simp) ?_⟩
    exact fin _ (k1.trans (same_upd hp2 _))
  | str z =>
    have ex : x = .str z := by unfold Is at hx; exact hx
    have ey : y = .str z := by unfold Is at hy; exact hy
    subst ex
    subst ey
    refine ⟨_, p1, "list", "tuple", _, _, _, rfl, SqT.of upd_same, .str z, ki_str_list _, ki_str_tuple _, _, rfl, onF rfl ?_⟩
    refine ⟨_, rfl, rfl, _, rfl, onF rfl ?_⟩
    refine ⟨_, rfl, rfl, _, rfl, onF rfl ?_⟩
    refine ⟨_, rfl, _, "bool", _, _, rfl, .str z, ki_str_bool _, _, rfl, _, "bool", _, _, rfl, .str z, ki_str_bool _, rfl, _, rfl, onF rfl ?_⟩
    refine ⟨_, rfl, _, "str", _, _, rfl, .str z, ki_str_str _, _, rfl, _, "str", _, _, rfl, .str z, ki_str_str _, rfl, _, rfl, onF rfl ?_⟩
    refine ⟨_, rfl, z2, fun p2 hp2 => ?_⟩
    refine ⟨_, p2, "str", "int", _, _, _, rfl, SqT.of upd_same, .str z, ki_str_str _, ki_str_int _, _, rfl, onF rfl ?_⟩
    refine ⟨_, rfl, _, rfl, rfl, _, rfl, onF (by simp) ?_⟩
    exact fin _ (k1.trans (same_upd hp2 _))
  | lst ds =>
    unfold Is at hx hy
    obtain ⟨a, xs, rfl, ha, hxs⟩ := hx
    obtain ⟨b, ys, rfl, hb, hys⟩ := hy
    have lx := hxs.length
    have ly := hys.length
    have a2 := hk2 _ _ ha
    have b2 := hk2 _ _ hb
    have hds : sizes ds + 1 ≤ 1000 := by
      have : Dt.size (.lst ds) = 1 + sizes ds := by simp [Dt.size]
      omega
    have hdl : ds.length ≤ sizes ds := len_sizes ds
    refine ⟨_, p1, "list", "tuple", _, _, _, rfl, SqT.of upd_same, .lst (k1 _ _ b2), ki_list_list _, ki_list_tuple _, _, rfl, onT rfl ?_⟩
    refine ⟨_, rfl, _, "list", _, _, rfl, .lst (k1 _ _ a2), ki_list_list _, _, rfl, _, "list", _, _, rfl, .lst (k1 _ _ b2), ki_list_list _, rfl, _, rfl, onF rfl ?_⟩
    refine ⟨_, rfl, z2, fun p2 hp2 => ?_⟩
    have k2 := k1.trans (same_upd hp2 (.tup [.ty "list", .ty "tuple"]))
    refine ⟨_, p2, "list", "tuple", _, _, _, rfl, SqT.of upd_same, .lst (k2 _ _ a2), ki_list_list _, ki_list_tuple _, _, rfl, onF rfl ?_⟩
    refine ⟨_, rfl, a, _, rfl, .inl (SqL.of (k2 _ _ a2)), _, rfl, b, _, rfl, .inl (SqL.of (k2 _ _ b2)), rfl, _, rfl, onF (by simp [lx, ly]) ?_⟩
    refine ⟨_, rfl, b, _, rfl, .inl (SqL.of (k2 _ _ b2)), _, rfl, by omega, by omega, ?_⟩
    have hsz' : Dt.size (.lst ds) = 1 + sizes ds := by simp [Dt.size]
    generalize hH3 : upd (upd H2 p1 (.tup [.ty "list", .ty "tuple"])) p2 (.tup [.ty "list", .ty "tuple"]) = H3 at k2 ⊢
    refine for_range (fun i σ' H' => ∃ (qi : List (Addr × Dt)) (kk : Option V), σ' = [some v, some u, some (.ref td), some (.ref a), some (.ref b), kk] ∧ Same H0 H' ∧ H' td = some (.lst ((init ++ qi).map fun q => .ref q.1)) ∧ (∀ q ∈ init ++ qi, Pair H0 H' q) ∧ qi.map (·.2) = ds.take i) ?_ ?_ ?_
    · exact ⟨[], k, rfl, hk2.trans k2, by rw [List.append_nil]; exact k2 _ _ hT2, fun q hq => (hP2 q (by simpa using hq)).keep fun a xs e => k2 _ _ e, rfl⟩
    · rintro i σ' H' hi ⟨qi, kk, rfl, h1, h2, h3, h4⟩
      have hi' : i < ds.length := by rw [← ly]; omega
      obtain ⟨xi, ex, ix⟩ := hxs.get (List.getElem?_eq_getElem hi')
      obtain ⟨yi, ey, iy⟩ := hys.get (List.getElem?_eq_getElem hi')
      show tDrop _ _ _ _
      have sa : Sq K H' a xs := Sq.same h1 (.inl ha)
      have sb : Sq K H' b ys := Sq.same h1 (.inl hb)
      refine ⟨_, rfl, .inl ⟨rfl, _, SqL.of h2⟩, _, rfl, _, rfl, ?_⟩
      rw [Int.zero_add]
      refine sa.ix ex ⟨_, rfl, _, rfl, ?_⟩
      refine sb.ix ey ⟨z2, fun p hp => ?_⟩
      have hqn : qi.length = i := by have := congrArg List.length h4; simp at this; omega
      have htl := total_len init
      have h2' : upd H' p (.tup [xi, yi]) td = some (.lst ((init ++ qi).map fun q => .ref q.1)) := by rw [upd_ne (ne_of_none h2 hp)]; exact h2
      refine ⟨td, _, .ref p, rfl, rfl, h2', zlt (by simp; omega), qi ++ [(p, ds[i])], _, rfl, same_up (h1.trans (same_upd hp _)) ntd, ?_, ?_, ?_⟩
      · rw [upd_same]
        simp
      · intro q hq
        rw [← List.append_assoc, List.mem_append] at hq
        rcases hq with hq | hq
        · exact (h3 q hq).keep fun a xs e => tup_lst h2' _ _ (tup_new hp _ _ e)
        · rw [List.mem_singleton.mp hq]
          exact ⟨xi, yi, tup_lst h2' _ _ upd_same, ix, iy⟩
      · rw [List.map_append, h4, List.take_add_one, List.getElem?_eq_getElem hi']
        rfl
    · rintro σ' H' ⟨qi, kk, rfl, h1, h2, h3, h4⟩
      have e1 : ds.take ((ys.length : Nat) : Int).toNat = ds := by rw [Int.toNat_natCast, ly, List.take_length]
      rw [e1] at h4
      have e2 := total_sizes h4
      refine ⟨total (init ++ qi), ?_, init ++ qi, some (.ref a), some (.ref b), kk, rfl, h1, h2, h3, rfl, ?_⟩
      · rw [total_append, total_append, e2]
        simp [total, hsz']
      · rw [total_append, e2]
        omega
  | tup ds =>
    unfold Is at hx hy
    obtain ⟨a, xs, rfl, ha, hxs⟩ := hx
    obtain ⟨b, ys, rfl, hb, hys⟩ := hy
    have lx := hxs.length
    have ly := hys.length
    have a2 := hk2 _ _ ha
    have b2 := hk2 _ _ hb
    have hds : sizes ds + 1 ≤ 1000 := by
      have : Dt.size (.tup ds) = 1 + sizes ds := by simp [Dt.size]
      omega
    have hdl : ds.length ≤ sizes ds := len_sizes ds
    refine ⟨_, p1, "list", "tuple", _, _, _, rfl, SqT.of upd_same, .tup (k1 _ _ b2), ki_tuple_list _, ki_tuple_tuple _, _, rfl, onT rfl ?_⟩
    refine ⟨_, rfl, _, "list", _, _, rfl, .tup (k1 _ _ a2), ki_tuple_list _, _, rfl, _, "list", _, _, rfl, .tup (k1 _ _ b2), ki_tuple_list _, rfl, _, rfl, onF rfl ?_⟩
    refine ⟨_, rfl, z2, fun p2 hp2 => ?_⟩
    have k2 := k1.trans (same_upd hp2 (.tup [.ty "list", .ty "tuple"]))
    refine ⟨_, p2, "list", "tuple", _, _, _, rfl, SqT.of upd_same, .tup (k2 _ _ a2), ki_tuple_list _, ki_tuple_tuple _, _, rfl, onF rfl ?_⟩
    refine ⟨_, rfl, a, _, rfl, .inr (SqT.of (k2 _ _ a2)), _, rfl, b, _, rfl, .inr (SqT.of (k2 _ _ b2)), rfl, _, rfl, onF (by simp [lx, ly]) ?_⟩
    refine ⟨_, rfl, b, _, rfl, .inr (SqT.of (k2 _ _ b2)), _, rfl, by omega, by omega, ?_⟩
    have hsz' : Dt.size (.tup ds) = 1 + sizes ds := by simp [Dt.size]
    generalize hH3 : upd (upd H2 p1 (.tup [.ty "list", .ty "tuple"])) p2 (.tup [.ty "list", .ty "tuple"]) = H3 at k2 ⊢
    refine for_range (fun i σ' H' => ∃ (qi : List (Addr × Dt)) (kk : Option V), σ' = [some v, some u, some (.ref td), some (.ref a), some (.ref b), kk] ∧ Same H0 H' ∧ H' td = some (.lst ((init ++ qi).map fun q => .ref q.1)) ∧ (∀ q ∈ init ++ qi, Pair H0 H' q) ∧ qi.map (·.2) = ds.take i) ?_ ?_ ?_
    · exact ⟨[], k, rfl, hk2.trans k2, by rw [List.append_nil]; exact k2 _ _ hT2, fun q hq => (hP2 q (by simpa using hq)).keep fun a xs e => k2 _ _ e, rfl⟩
    · rintro i σ' H' hi ⟨qi, kk, rfl, h1, h2, h3, h4⟩
      have hi' : i < ds.length := by rw [← ly]; omega
      obtain ⟨xi, ex, ix⟩ := hxs.get (List.getElem?_eq_getElem hi')
      obtain ⟨yi, ey, iy⟩ := hys.get (List.getElem?_eq_getElem hi')
      show tDrop _ _ _ _
      have sa : Sq K H' a xs := Sq.same h1 (.inr ha)
      have sb : Sq K H' b ys := Sq.same h1 (.inr hb)
      refine ⟨_, rfl, .inl ⟨rfl, _, SqL.of h2⟩, _, rfl, _, rfl, ?_⟩
      rw [Int.zero_add]
      refine sa.ix ex ⟨_, rfl, _, rfl, ?_⟩
      refine sb.ix ey ⟨z2, fun p hp => ?_⟩
      have hqn : qi.length = i := by have := congrArg List.length h4; simp at this; omega
      have htl := total_len init
      have h2' : upd H' p (.tup [xi, yi]) td = some (.lst ((init ++ qi).map fun q => .ref q.1)) := by rw [upd_ne (ne_of_none h2 hp)]; exact h2
      refine ⟨td, _, .ref p, rfl, rfl, h2', zlt (by simp; omega), qi ++ [(p, ds[i])], _, rfl, same_up (h1.trans (same_upd hp _)) ntd, ?_, ?_, ?_⟩
      · rw [upd_same]
        simp
      · intro q hq
        rw [← List.append_assoc, List.mem_append] at hq
        rcases hq with hq | hq
        · exact (h3 q hq).keep fun a xs e => tup_lst h2' _ _ (tup_new hp _ _ e)
        · rw [List.mem_singleton.mp hq]
          exact ⟨xi, yi, tup_lst h2' _ _ upd_same, ix, iy⟩
      · rw [List.map_append, h4, List.take_add_one, List.getElem?_eq_getElem hi']
        rfl
    · rintro σ' H' ⟨qi, kk, rfl, h1, h2, h3, h4⟩
      have e1 : ds.take ((ys.length : Nat) : Int).toNat = ds := by rw [Int.toNat_natCast, ly, List.take_length]
      rw [e1] at h4
      have e2 := total_sizes h4
      refine ⟨total (init ++ qi), ?_, init ++ qi, some (.ref a), some (.ref b), kk, rfl, h1, h2, h3, rfl, ?_⟩
      · rw [total_append, total_append, e2]
        simp [total, hsz']
      · rw [total_append, e2]
        omega
end
end Thr
end

section
set_option Elab.async false
set_option linter.unusedVariables false
set_option maxRecDepth 100000
set_option maxHeartbeats 2000000
namespace Thr
open PySem L2 PyProof.Rows
open Stree (Road lexR lex2)
theorem lc_empties {K : PySem.W.Frag} {a : Addr} {xs : List V} {fr : List Nat} {σ : L2.St} {D : Addr} {Q : VK} {H : Hp} (hl : SqL K H a xs) (hn : H D = none) (hz : xs.length ≤ 1000)
    (hq : ∀ (H' : Hp) (rs : List Addr), Same H H' → H' D = some (.lst (rs.map V.ref)) → rs.length = xs.length → rs.Nodup → (∀ b ∈ rs, H' b = some (.lst []) ∧ H b = none ∧ b ≠ D) → Q (.ref D) H') : LcOk (Itl K a) fr tYes (tLst tNil) σ D Q (upd H D (.lst [])) := by
  refine ⟨fun i m ys H' => m = xs.length - i ∧ i ≤ xs.length ∧ ∃ rs : List Addr, ys = rs.map V.ref ∧ rs.length = i ∧ rs.Nodup ∧ Same H H' ∧ H' D = some (.lst ys) ∧ ∀ b ∈ rs, H' b = some (.lst []) ∧ H b = none ∧ b ≠ D,
    ⟨xs.length, by simp, Nat.zero_le _, [], rfl, rfl, .nil, same_upd hn _, upd_same, fun b hb => nomatch hb⟩, ?_⟩
  rintro i m ys H' ⟨rfl, hi, rs, rfl, hrl, nd, hk, hD, hrs⟩
  refine ⟨hD, ?_⟩
  have hS := Same.seq hk hl
  by_cases hlt : i < xs.length
  · refine .inr ⟨⟨xs, xs[i], hS, List.getElem?_eq_getElem hlt⟩, fun v H2 yl => ?_⟩
    obtain ⟨rfl, y⟩ := yl
    refine ⟨z0, fun p hp => ?_⟩
    have hpD : p ≠ D := Ne.symm (ne_of_none hD hp)
    have hpr : p ∉ rs := fun z => by rw [(hrs p z).1] at hp; cases hp
    refine ⟨zlt (by rw [List.length_map]; omega), by rw [upd_ne (Ne.symm hpD)]; exact hD, xs.length - (i + 1), by omega, rfl, by omega, rs ++ [p], by simp, by simp [hrl], ?_, ?_, upd_same, fun b hb => ?_⟩
    · rw [List.nodup_append]
      exact ⟨nd, by simp, fun x hx y hy z => by rw [List.mem_singleton.mp hy] at z; exact hpr (z ▸ hx)⟩
    · exact same_up (hk.trans (same_upd hp _)) hn
    · rcases List.mem_append.mp hb with hb | hb
      · obtain ⟨h1, h2, h3⟩ := hrs b hb
        exact ⟨by rw [upd_ne h3, upd_ne (ne_of_none h1 hp)]; exact h1, h2, h3⟩
      · rw [List.mem_singleton.mp hb]
        exact ⟨by rw [upd_ne hpD]; exact upd_same, hk.fresh hp, hpD⟩
  · refine .inl ⟨⟨xs, hS, by omega⟩, hq H' rs hk hD (by omega) nd hrs⟩
def linkV : Option Nat → V
  | none => .non
  | some j => .int (j : Nat)
def linksV (n : Nat) (L : Nat → Option Nat) : List V := (List.range n).map fun i => linkV (L i)
def datesV (n : Nat) (D : Nat → Int) : List V := (List.range n).map fun i => .int (D i)
theorem linksV_get {n i : Nat} {L : Nat → Option Nat} (h : i < n) : (linksV n L)[i]? = some (linkV (L i)) := by unfold linksV; rw [List.getElem?_map, List.getElem?_range h]; rfl
theorem datesV_get {n i : Nat} {D : Nat → Int} (h : i < n) : (datesV n D)[i]? = some (.int (D i)) := by unfold datesV; rw [List.getElem?_map, List.getElem?_range h]; rfl
theorem linkV_none {o : Option Nat} : (!decide (linkV o = .non)) = true ↔ o ≠ none := by cases o <;> simp [linkV]
def spTop (K : PySem.W.Frag) : Sp := fun vs H Q _ => ∃ (a : Addr) (n : Nat) (L : Nat → Option Nat) (rk : Nat → Nat) (i : Nat), vs = [.ref a, .int (i : Nat)] ∧ SqL K H a (linksV n L) ∧ Fm.Ok n L rk ∧ i < n ∧ Q (.int (Fm.tp L rk i : Nat)) H
def TabP (T : Addr) : Hp → Prop := TabIs ⟨18, 48, 18, 71⟩ "answers_to_each.<locals>.<lambda>" T
structure Kids (n : Nat) (L : Nat → Option Nat) (D : Nat → Int) (kd : Nat → List Nat) : Prop where
  mem : ∀ j i, i ∈ kd j ↔ i < n ∧ L i = some j
  ord : ∀ j, (kd j).Pairwise fun x y => lex2 (D y, (y : Int)) (D x, (x : Int)) = true
def spAns (T : Addr) : Sp := fun vs H Q _ => ∃ (la da : Addr) (n : Nat) (L : Nat → Option Nat) (rk : Nat → Nat) (D : Nat → Int), vs = [.ref la, .ref da] ∧ H la = some (.lst (linksV n L)) ∧ H da = some (.lst (datesV n D)) ∧ Fm.Ok n L rk ∧ n ≤ 12 ∧ TabP T H ∧
  ∀ (H' : Hp) (a : Addr) (rs : List Addr) (kd : Nat → List Nat), SameT H H' → TabP T H' → H' a = some (.lst (rs.map V.ref)) → rs.length = n → (∀ j b, rs[j]? = some b → H' b = some (.lst ((kd j).map fun i => V.int (i : Nat)))) → Kids n L D kd → Q (.ref a) H'
def spThread (T : Addr) : Sp := fun vs H Q _ => ∃ (la da : Addr) (n : Nat) (L : Nat → Option Nat) (rk : Nat → Nat) (D : Nat → Int) (i : Nat), vs = [.ref la, .ref da, .int (i : Nat)] ∧ H la = some (.lst (linksV n L)) ∧ H da = some (.lst (datesV n D)) ∧ Fm.Ok n L rk ∧ n ≤ 12 ∧ i < n ∧ TabP T H ∧
  ∀ (H' : Hp) (r : Addr) (told : List Nat), SameT H H' → TabP T H' → H' r = some (.lst (told.map fun i => V.int (i : Nat))) → (told.Pairwise fun x y => lexR (Fm.rd L D rk x) (Fm.rd L D rk y) = true) → (∀ k, k ∈ told ↔ k < n ∧ Fm.tp L rk k = Fm.tp L rk i) → Q (.ref r) H'
section
variable {P : Program} {w : World} {K : PySem.W.Frag} {mg : Str → Option Value} {base : Heap} {f : Addr} {fd : FuncData} {Tb c : Addr}
theorem sc_topOf : FnScope ["links", "number", "top"] ["links", "number"] (defScope sTopOf) := ⟨rfl, rfl, rfl, by decide +kernel, rfl, by decide +kernel, by decide +kernel⟩
theorem ok_topOf (T : Glob mg) (F : Fun K "top_of" "top_of" sTopOf f fd) : FnOk P w K mg base CX0 1 f fd ["links", "number"] (spTop K) := by
  have sc := sc_topOf
  refine F.ok (k := 0) sc (fun vs H Q E h => by obtain ⟨a, n, L, rk, i, rfl, _⟩ := h; rfl) (fun cdv A outer s H0 vs Q E hr h => ?_)
  obtain ⟨a, n, L, rk, i, rfl, hS, ho, hi, q⟩ := h
  refine ⟨_, (pss_cons (ps_set (i := 2) sc.nd rfl (Or.inl rfl) (pv 1))
    (pss_cons (ps_while PassesOwn.never (pt_cmpR op_notN (pe_ix ix_list (pv 0) (pv 2) (fun _ _ => rfl)) pe_non (nomark _)) (pss_one (ps_set (i := 2) sc.nd rfl (Or.inl rfl) (pe_ix ix_list (pv 0) (pv 2) (fun _ _ => rfl)))))
    (pss_one (ps_ret (pv 2))))), ?_⟩
  refine ⟨_, rfl, ?_⟩
  refine ⟨fun m σ H => ∃ t : Nat, σ = [some (.ref a), some (.int (i : Nat)), some (.int (t : Nat))] ∧ H = H0 ∧ t < n ∧ Fm.tp L rk t = Fm.tp L rk i ∧ m = rk t, ⟨rk i, i, rfl, rfl, hi, rfl, rfl⟩, ?_⟩
  rintro m σ H ⟨t, rfl, rfl, ht, hte, rfl⟩
  refine ⟨_, rfl, _, rfl, a, _, _, _, rfl, rfl, hS, atI_nat (linksV_get ht), rfl, _, rfl, ?_⟩
  cases hl : L t with
  | none =>
    refine onF rfl ⟨_, rfl, ?_⟩
    rw [Fm.tp_none hl] at hte
    rw [hte]
    exact q
  | some j =>
    obtain ⟨hj, hlt⟩ := ho.lt t j ht hl
    refine onT rfl ⟨fun σ' H' => ∃ m', m' < rk t ∧ ∃ t : Nat, σ' = [some (.ref a), some (.int (i : Nat)), some (.int (t : Nat))] ∧ H' = H ∧ t < n ∧ Fm.tp L rk t = Fm.tp L rk i ∧ m' = rk t, fun σ' H' z => z, ?_⟩
    refine ⟨_, rfl, _, rfl, a, _, _, _, rfl, rfl, hS, atI_nat (linksV_get ht), ?_⟩
    rw [hl]
    exact ⟨rk j, hlt, j, rfl, rfl, hj, by rw [← hte, Fm.tp_some ho ht hl], rfl⟩
theorem sc_ans : FnScope ["links", "dates", "answers", "letter"] ["links", "dates"] (defScope sAns) := ⟨rfl, rfl, rfl, by decide +kernel, rfl, by decide +kernel, by decide +kernel⟩
theorem lc_ans : LcScope ["links", "dates", "answers", "letter"] (defScope sAns) "link" [] [] { kind := .function, names := [(".0", .local), ("link", .local)], isGenerator := false, isCoroutine := false, more := [] } :=
  ⟨rfl, by decide +kernel, by decide +kernel, by decide +kernel, by decide +kernel, by decide +kernel, by decide +kernel, rfl, by decide +kernel⟩
theorem lam_ans : LcScope ["links", "dates", "answers", "letter"] (defScope sAns) "n" ["dates"] [1] { kind := .function, names := [("n", .local), ("dates", .free)], isGenerator := false, isCoroutine := false, more := [] } :=
  ⟨rfl, by decide +kernel, by decide +kernel, by decide +kernel, by decide +kernel, by decide +kernel, by decide +kernel, rfl, by decide +kernel⟩
theorem ok_ans {oc : Value} {od an : Option Addr} {osl : Array (Option Value)} {kV doc pm ct : Value} (T : Glob mg) (C : PySem.W.CodeHd base c Tb) (hB : base.BuiltinsAt mg Tb)
    (lk : K.lookup f = some ⟨oc, od, .func (PySem.W.fnOf "answers_to_each" "answers_to_each" (defArgs sAns) (defBody sAns) (defScope sAns) .none kV doc pm an (.ref c) ct), osl⟩) (hcd : PySem.W.codeIn K (.ref c) "answers_to_each" = true) :
    FnOk P w K mg base CX0 2 f (PySem.W.fnOf "answers_to_each" "answers_to_each" (defArgs sAns) (defBody sAns) (defScope sAns) .none kV doc pm an (.ref c) ct) ["links", "dates"] (spAns Tb) := by
  have sc := sc_ans
  refine fn_of (k := 1) lk hcd sc (fun vs H Q E h => by obtain ⟨la, da, n, L, rk, D, rfl, _⟩ := h; rfl) fun A outer s H0 vs Q E hr h => ?_
  suffices hx : ∃ t, PSs (cxOf CX0 P w K mg base ["links", "dates", "answers", "letter"] "answers_to_each" (defScope sAns) f (.ref c) A outer s H0 E).nox (defBody sAns) t ∧ t { nx := fun _ H' => Q .non H', rt := Q } (start ["links", "dates", "answers", "letter"] vs) H0 by
    obtain ⟨t, h1, h2⟩ := hx
    exact ⟨t, h1.nox, h2⟩
  obtain ⟨la, da, n, L, rk, D, rfl, hla, hda, ho, hn, hT, q⟩ := h
  refine ⟨_, (pss_cons (ps_lc (i := 2) lc_ans rfl sc.nd rfl rfl (pi_list (pv 0)) (fun _ _ _ _ _ => pifs_nil) (fun _ _ _ _ _ => (pe_lst pa_nil)))
    (pss_cons (ps_for PassesOwn.never rfl (pi_list (pe_sortLam (qual := "answers_to_each.<locals>.<lambda>") rfl T.b_sorted rfl T.b_range (pe_callB call_len_seq rfl T.b_len bt_len (pa_cons (pv 0) pa_nil)) lam_ans rfl rfl rfl C hB hr rfl rfl (fun _ _ _ _ _ => rfl)
        (fun _ _ _ _ _ _ _ => pe_tup (pa_cons (pe_ix (show IxR _ (rIxL K) from ix_list) (pv 1) (pv 0) (fun _ _ => rfl)) (pa_cons (pv 0) pa_nil))))) (pg_name (i := 3) sc.nd rfl (Or.inl rfl))
      (pss_one (ps_if (pt_cmpR op_notN (pe_ix ix_list (pv 0) (pv 3) (fun _ _ => rfl)) pe_non (nomark _)) (pss_one (ps_expr (pe_bm PySem.F.plainAttrs_list PySem.F.slot_list_append PySem.F.type_list_append mt_append (pe_ix ix_list (pv 2) (pe_ix ix_list (pv 0) (pv 3) (fun _ _ => rfl)) (fun _ _ => rfl)) (pa_cons (pv 3) pa_nil)))) pss_nil)))
    (pss_one (ps_ret (pv 2))))), ?_⟩
  have hlen : (linksV n L).length = n := by simp [linksV]
  refine ⟨_, rfl, la, rfl, ⟨_, SqL.of hla⟩, fun a ha => lc_empties (SqL.of hla) ha (by omega) fun H1 rs k1 hD hrl nd hrs => ?_⟩
  rw [hlen] at hrl
  dsimp only [gName]
  have hla1 := k1 _ _ hla
  have hda1 := k1 _ _ hda
  have hT1 : TabP Tb H1 := by
    rcases hT with t | ⟨c', t1, t2⟩
    · exact .inl (k1 _ _ t)
    · exact .inr ⟨c', k1 _ _ t1, k1 _ _ t2⟩
  refine ⟨_, rfl, la, _, rfl, .inl (SqL.of hla1), ?_⟩
  rw [hlen]
  refine ⟨n, rfl, by omega, hT1, fun i => (D i, (i : Int)), fun i j _ _ z => ?_, fun i H3 hi k3 t3 R hR => ?_, fun H5 l out k5 t5 nl hp1 hp2 h5 => ⟨l, rfl, ⟨_, SqL.of h5⟩, ?_⟩⟩
  · have := congrArg Prod.snd z
    simp only at this
    omega
  · refine ⟨_, rfl, _, rfl, da, _, _, _, rfl, rfl, SqL.of (k3.lst hda1), atI_nat (datesV_get hi), _, rfl, z2, fun p hp => hR p _ (same_upd hp _).t ?_ upd_same⟩
    rcases t3 with t | ⟨_, t, _⟩
    · rw [upd_ne (ne_of_none t hp)]
    · rw [upd_ne (ne_of_none t hp)]
  · have hm : ∀ i ∈ out, i < n := fun i hi => List.mem_range.mp (hp1.mem_iff.mp hi)
    have kk : SameT H0 H5 := k1.t.trans k5
    have nr : ∀ b o, H0 b = some o → b ∉ rs := fun b o e z => by rw [(hrs b z).2.1] at e; cases e
    have r5 : ∀ b ∈ rs, H5 b = some (.lst []) := fun b hb => k5.lst (hrs b hb).1
    have nT : Tb ∉ rs := fun z => by
      have e := r5 _ z
      rcases t5 with t | ⟨_, t, _⟩
      · rw [t] at e; cases e
      · rw [t] at e; cases e
    have nlr : l ∉ rs := fun z => by rw [(hrs l z).1] at nl; cases nl
    have hn2 : a ∉ rs := fun z => (hrs a z).2.2 rfl
    have ha5 : H5 a = some (.lst (rs.map V.ref)) := k5.lst hD
    refine for_list (xs := out.map fun i => V.int (i : Nat)) (fun t σ H => ∃ lt, σ = [some (.ref la), some (.ref da), some (.ref a), lt] ∧ (∀ b o, H5 b = some o → b ∉ rs → H b = some o) ∧
      ∀ j b, rs[j]? = some b → H b = some (.lst (((out.take t).filter fun i => decide (L i = some j)).map fun i => V.int (i : Nat)))) ?_ ?_ ?_ ?_
    · exact ⟨none, rfl, fun b o e _ => e, fun j b hb => r5 b (List.mem_of_getElem? hb)⟩
    · rintro t σ H ht ⟨lt, rfl, h1, h2⟩
      exact SqL.of (h1 _ _ h5 nlr)
    · rintro t x σ H hx ⟨lt, rfl, h1, h2⟩
      rw [List.getElem?_map] at hx
      cases he : out[t]? with
      | none => rw [he] at hx; cases hx
      | some i =>
        rw [he] at hx
        cases hx
        have hi := hm i (List.mem_of_getElem? he)
        have htk : out.take (t + 1) = out.take t ++ [i] := by rw [List.take_add_one, he]; rfl
        have hla5 : H la = some (.lst (linksV n L)) := h1 _ _ (kk.lst hla) (nr _ _ hla)
        have haa : H a = some (.lst (rs.map V.ref)) := h1 _ _ ha5 hn2
        dsimp only [gName]
        refine ⟨_, rfl, _, rfl, la, _, _, _, rfl, rfl, SqL.of hla5, atI_nat (linksV_get hi), rfl, _, rfl, ?_⟩
        cases hl : L i with
        | none =>
          refine onF rfl ⟨_, rfl, h1, fun j b hb => ?_⟩
          rw [h2 j b hb, htk, List.filter_append]
          have : [i].filter (fun i => decide (L i = some j)) = [] := by simp [hl]
          rw [this, List.append_nil]
        | some j =>
          obtain ⟨hj, _⟩ := ho.lt i j hi hl
          have hjr : j < rs.length := by omega
          have hb := List.getElem?_eq_getElem hjr
          have hbj := h2 j _ hb
          refine onT rfl ?_
          refine ⟨_, rfl, _, rfl, _, rfl, la, _, _, _, rfl, rfl, SqL.of hla5, atI_nat (linksV_get hi), ?_⟩
          rw [hl]
          refine ⟨a, _, _, .ref rs[j], rfl, rfl, SqL.of haa, atI_nat (by rw [List.getElem?_map, hb]; rfl), .inl ⟨rfl, _, SqL.of hbj⟩, _, rfl, rs[j], _, _, rfl, rfl, hbj, zlt ?_, _, rfl, fun b o e hbn => ?_, fun j' b hb' => ?_⟩
          · rw [List.length_map]
            have := List.length_filter_le (fun i => decide (L i = some j)) (out.take t)
            have h3 := List.length_take_le t out
            have h4 : out.length = n := by rw [hp1.length_eq, List.length_range]
            have h5 : (out.take t).length ≤ out.length := by rw [List.length_take]; omega
            omega
          · rw [upd_ne (fun z => hbn (by rw [z]; exact List.getElem_mem hjr))]
            exact h1 b o e hbn
          · rw [htk, List.filter_append]
            by_cases ejj : j' = j
            · subst ejj
              rw [hb] at hb'
              cases hb'
              rw [upd_same]
              have : [i].filter (fun i => decide (L i = some j')) = [i] := by simp [hl]
              rw [this, List.map_append]
              rfl
            · have hne : b ≠ rs[j] := fun z => by
                have h6 : j' < rs.length := (List.getElem?_eq_some_iff.mp hb').1
                have h7 : rs[j'] = b := (List.getElem?_eq_some_iff.mp hb').2
                exact ejj ((List.getElem_inj (h₀ := h6) (h₁ := hjr) nd).mp (h7.trans z))
              rw [upd_ne hne, h2 j' b hb']
              have : [i].filter (fun i => decide (L i = some j')) = [] := by simp [hl, Ne.symm ejj]
              rw [this, List.append_nil]
    · rintro σ H ⟨lt, rfl, h1, h2⟩
      rw [List.length_map, List.take_length] at h2
      refine ⟨_, rfl, q H a rs (fun j => out.filter fun i => decide (L i = some j)) (fun b o nt e => h1 b o (kk b o nt e) (nr b o e)) ?_ (h1 _ _ ha5 hn2) hrl h2 ⟨fun j i => ?_, fun j => ?_⟩⟩
      · rcases t5 with t | ⟨c', t1, t2⟩
        · exact .inl (h1 _ _ t nT)
        · exact .inr ⟨c', h1 _ _ t1 nT, h1 _ _ t2 fun z => by rw [r5 _ z] at t2; cases t2⟩
      · rw [List.mem_filter, hp1.mem_iff, List.mem_range, decide_eq_true_eq]
      · exact (hp2.imp fun h => by simpa using h).sublist List.filter_sublist
end
end Thr
end

section
set_option Elab.async false
set_option linter.unusedVariables false
set_option maxRecDepth 100000
set_option maxHeartbeats 2000000
namespace Thr
open PySem L2 PyProof.Rows
open Stree (Road lexR lex2)
theorem kids_nodup {n : Nat} {L : Nat → Option Nat} {D : Nat → Int} {kd : Nat → List Nat} (h : Kids n L D kd) (j : Nat) : (kd j).length ≤ n :=
  Fm.nodup_len ((h.ord j).imp fun {x y} e z => by rw [z, Stree.lex2_irr] at e; cases e) fun x hx => ((h.mem j x).mp hx).1
theorem walk_nx {n : Nat} {L : Nat → Option Nat} {D : Nat → Int} {rk : Nat → Nat} {root : Nat} {told nx : List Nat} (W : Fm.Walk n L D rk root told nx) : nx.length ≤ n :=
  Fm.nodup_len (W.aa.imp fun {x y} e z => by have := e x (List.prefix_refl _); rw [z, Stree.lexR_irr] at this; cases this) fun x hx => (W.al x hx).1
section
variable {P : Program} {w : World} {K : PySem.W.Frag} {mg : Str → Option Value} {base : Heap} {f : Addr} {fd : FuncData} {Tb : Addr}
theorem sc_thread : FnScope ["links", "dates", "number", "answers", "told", "ahead", "letter"] ["links", "dates", "number"] (defScope sThread) := ⟨rfl, rfl, rfl, by decide +kernel, rfl, by decide +kernel, by decide +kernel⟩
theorem ok_thread (T : Glob mg) (G_answers_to_each : FnG P w K mg base 2 "answers_to_each" ["links", "dates"] (spAns Tb)) (G_top_of : FnG P w K mg base 2 "top_of" ["links", "number"] (spTop K)) (F : Fun K "thread" "thread" sThread f fd) :
    FnOk P w K mg base CX0 3 f fd ["links", "dates", "number"] (spThread Tb) := by
  have sc := sc_thread
  refine F.ok (k := 2) sc (fun vs H Q E h => by obtain ⟨la, da, n, L, rk, D, i, rfl, _⟩ := h; rfl) (fun cdv A outer s H0 vs Q E hr h => ?_)
  obtain ⟨la, da, n, L, rk, D, i, rfl, hla, hda, ho, hn, hi, hT, q⟩ := h
  refine ⟨_, (pss_cons (ps_set (i := 3) sc.nd rfl (Or.inl rfl) (pe_fn G_answers_to_each hr rfl (pa_cons (pv 0) (pa_cons (pv 1) pa_nil))))
    (pss_cons (ps_set (i := 4) sc.nd rfl (Or.inl rfl) (pe_lst pa_nil))
    (pss_cons (ps_set (i := 5) sc.nd rfl (Or.inl rfl) (pe_lst (pa_cons (pe_fn G_top_of hr rfl (pa_cons (pv 0) (pa_cons (pv 2) pa_nil))) pa_nil)))
    (pss_cons (ps_while PassesOwn.never (pt_cmpR op_gt (pe_callB call_len_seq rfl T.b_len bt_len (pa_cons (pv 5) pa_nil)) pe_int (nomark _)) (pss_cons (ps_set (i := 6) sc.nd rfl (Or.inl rfl) (pe_bm0 PySem.F.plainAttrs_list PySem.F.slot_list_pop PySem.F.type_list_pop mt_pop (pv 5)))
    (pss_cons (ps_expr (pe_bm PySem.F.plainAttrs_list PySem.F.slot_list_append PySem.F.type_list_append mt_append (pv 4) (pa_cons (pv 6) pa_nil)))
    (pss_one (ps_expr (pe_bm PySem.F.plainAttrs_list PySem.F.slot_list_extend PySem.F.type_list_extend mt_extend (pv 5) (pa_cons (pe_ix ix_list (pv 3) (pv 6) (fun _ _ => rfl)) pa_nil)))))))
    (pss_one (ps_ret (pv 4))))))), ?_⟩
  refine ⟨_, rfl, _, rfl, la, da, n, L, rk, D, rfl, hla, hda, ho, hn, hT, fun H1 a rs kd k1 t1 ha hrl hrs hk => ?_⟩
  dsimp only [gName]
  refine ⟨z0, fun td htd => ?_⟩
  dsimp only [gName]
  have k2 := same_upd htd (.lst [])
  refine ⟨_, rfl, _, rfl, la, n, L, rk, i, rfl, SqL.of (k2 _ _ (k1.lst hla)), ho, hi, z1, fun ah hah => ?_⟩
  dsimp only [gName]
  have nah : H1 ah = none := k2.fresh hah
  have hta : td ≠ ah := ne_of_none upd_same hah
  have k3 : Same H1 (upd (upd H1 td (.lst [])) ah (.lst [V.int (Fm.tp L rk i : Nat)])) := k2.trans (same_upd hah _)
  refine ⟨fun m σ H => ∃ (told st : List Nat) (lt : Option V), σ = [some (.ref la), some (.ref da), some (.int (i : Nat)), some (.ref a), some (.ref td), some (.ref ah), lt] ∧ Same H1 H ∧ H td = some (.lst (told.map fun i => V.int (i : Nat))) ∧
      H ah = some (.lst (st.map fun i => V.int (i : Nat))) ∧ Fm.Walk n L D rk (Fm.tp L rk i) told st.reverse ∧ m = n - told.length,
    ⟨n, [], [Fm.tp L rk i], none, rfl, k3, by rw [upd_ne hta]; exact upd_same, upd_same, Fm.Walk.start ho hi, by simp⟩, ?_⟩
  rintro m σ H ⟨told, st, lt, rfl, hk4, ht4, ha4, W, rfl⟩
  refine ⟨_, rfl, ah, _, rfl, .inl (SqL.of ha4), _, _, rfl, rfl, _, rfl, ?_⟩
  rcases List.eq_nil_or_concat st with rfl | ⟨init, v, rfl⟩
  · refine onF rfl ⟨_, rfl, q H td told (k1.trans hk4.t) ?_ ht4 W.tt fun k => W.done k⟩
    rcases t1 with t | ⟨c', t1, t2⟩
    · exact .inl (hk4 _ _ t)
    · exact .inr ⟨c', hk4 _ _ t1, hk4 _ _ t2⟩
  · rw [List.concat_eq_append] at ha4 W ⊢
    have hpos : decide ((((init ++ [v]).map fun i => V.int (i : Nat)).length : Int) > 0) = true := by
      refine decide_eq_true ?_
      rw [List.length_map, List.length_append, List.length_singleton]
      omega
    refine onT hpos ⟨fun σ' H' => ∃ m', m' < n - told.length ∧ ∃ (told st : List Nat) (lt : Option V), σ' = [some (.ref la), some (.ref da), some (.int (i : Nat)), some (.ref a), some (.ref td), some (.ref ah), lt] ∧ Same H1 H' ∧ H' td = some (.lst (told.map fun i => V.int (i : Nat))) ∧
      H' ah = some (.lst (st.map fun i => V.int (i : Nat))) ∧ Fm.Walk n L D rk (Fm.tp L rk i) told st.reverse ∧ m' = n - told.length, fun σ' H' z => z, ?_⟩
    have hlast : ((init ++ [v]).map fun i => V.int (i : Nat))[((init ++ [v]).map fun i => V.int (i : Nat)).length - 1]? = some (V.int (v : Nat)) := by simp
    have hdrop : ((init ++ [v]).map fun i => V.int (i : Nat)).dropLast = init.map fun i => V.int (i : Nat) := by simp
    refine ⟨_, rfl, .inl ⟨rfl, _, SqL.of ha4⟩, ah, _, _, rfl, rfl, ha4, hlast, ?_⟩
    rw [hdrop]
    dsimp only [gName]
    have W' : Fm.Walk n L D rk (Fm.tp L rk i) told (v :: init.reverse) := by
      have : (init ++ [v]).reverse = v :: init.reverse := by simp
      rw [this] at W
      exact W
    have hv := (W'.al v List.mem_cons_self).1
    have W2 := W'.step ho (kids := (kd v).reverse) (fun j => by rw [List.mem_reverse]; exact hk.mem v j) (by rw [List.pairwise_reverse]; exact hk.ord v)
    have l1 := W'.len
    have l2 := walk_nx W'
    have l3 := kids_nodup hk v
    have l4 := W2.len
    rw [List.length_cons, List.length_reverse] at l2
    rw [List.length_append, List.length_singleton] at l4
    have ht5 : upd H ah (.lst (init.map fun i => V.int (i : Nat))) td = some (.lst (told.map fun i => V.int (i : Nat))) := by rw [upd_ne hta]; exact ht4
    show tDrop _ _ _ _
    refine ⟨_, rfl, .inl ⟨rfl, _, SqL.of ht5⟩, _, rfl, td, _, _, rfl, rfl, ht5, zlt (by rw [List.length_map]; omega), ?_⟩
    have ha6 : upd (upd H ah (.lst (init.map fun i => V.int (i : Nat)))) td (.lst ((told.map fun i => V.int (i : Nat)) ++ [V.int (v : Nat)])) ah = some (.lst (init.map fun i => V.int (i : Nat))) := by rw [upd_ne (Ne.symm hta)]; exact upd_same
    have k6 : Same H1 (upd (upd H ah (.lst (init.map fun i => V.int (i : Nat)))) td (.lst ((told.map fun i => V.int (i : Nat)) ++ [V.int (v : Nat)]))) := same_up (same_up hk4 nah) htd
    have hvr : v < rs.length := by omega
    have hb := List.getElem?_eq_getElem hvr
    have hbv := k6 _ _ (hrs v _ hb)
    refine ⟨_, rfl, .inl ⟨rfl, _, SqL.of ha6⟩, _, rfl, _, rfl, a, _, _, .ref rs[v], rfl, rfl, SqL.of (k6 _ _ ha), atI_nat (by rw [List.getElem?_map, hb]; rfl), ah, rs[v], _, _, rfl, rfl, ha6, hbv, zn (l := (init.map fun i => V.int (i : Nat)) ++ ((kd v).map fun i => V.int (i : Nat))) (by rw [List.length_append, List.length_map, List.length_map]; omega) |> fun z => by rw [List.length_append] at z; exact z, ?_⟩
    refine ⟨n - (told.length + 1), by omega, told ++ [v], init ++ kd v, some (.int (v : Nat)), rfl, same_up k6 nah, ?_, ?_, ?_, by rw [List.length_append, List.length_singleton]⟩
    · rw [upd_ne hta, upd_same, List.map_append]
      rfl
    · rw [upd_same, List.map_append]
    · rw [List.reverse_append]
      exact W2
end
end Thr
end

section
set_option Elab.async false
set_option linter.unusedVariables false
set_option maxRecDepth 100000
set_option maxHeartbeats 4000000
namespace Thr
open PySem L2 PyProof.Rows
open Stree (Road lexR lex2)
/-- the rows of a forest -/
structure RowsAt (H : Hp) (ra : Addr) (rs : List Addr) (n : Nat) (L : Nat → Option Nat) (D : Nat → Int) : Prop where
  lst : H ra = some (.lst (rs.map V.ref))
  len : rs.length = n
  row : ∀ i b, rs[i]? = some b → ∃ xs, H b = some (.lst xs) ∧ xs[1]? = some (.int (D i)) ∧ xs[4]? = some (linkV (L i))
theorem RowsAt.same {H H' : Hp} {ra : Addr} {rs : List Addr} {n : Nat} {L : Nat → Option Nat} {D : Nat → Int} (h : RowsAt H ra rs n L D) (k : Same H H') : RowsAt H' ra rs n L D :=
  ⟨k _ _ h.lst, h.len, fun i b e => let ⟨xs, a, b⟩ := h.row i b e; ⟨xs, k _ _ a, b⟩⟩
def spFamily : Sp := fun vs H Q _ => ∃ (ra : Addr) (rs : List Addr) (n : Nat) (L : Nat → Option Nat) (rk : Nat → Nat) (D : Nat → Int) (i : Nat), vs = [.ref ra, .int (i : Nat)] ∧ RowsAt H ra rs n L D ∧ Fm.Ok n L rk ∧ n ≤ 12 ∧ i < n ∧ (∀ k, k < n → rk k < n) ∧
  ∀ (H' : Hp) (r : Addr) (out : List Nat), Same H H' → H' r = some (.lst (out.map fun i => V.int (i : Nat))) → (out.Pairwise fun x y => lexR (Fm.rd L D rk x) (Fm.rd L D rk y) = true) → (∀ k, k ∈ out ↔ k < n ∧ Fm.tp L rk k = Fm.tp L rk i) → Q (.ref r) H'
def Tk (H H' : Hp) : Prop := ∀ a xs, H a = some (.tup xs) → H' a = some (.tup xs)
theorem Same.tk {H H' : Hp} (k : Same H H') : Tk H H' := fun a xs e => k a _ e
theorem Tk.trans {H H1 H2 : Hp} (a : Tk H H1) (b : Tk H1 H2) : Tk H H2 := fun c xs e => b c xs (a c xs e)
theorem RoadV.tk {H H' : Hp} (k : Tk H H') {b : Addr} {ps : Road} (h : RoadV H b ps) : RoadV H' b ps := let ⟨xs, e, z⟩ := h; ⟨xs, k _ _ e, Paired.mapP z fun _ _ ⟨c, w1, w2⟩ => ⟨c, w1, k _ _ w2⟩⟩
/-- a key that waits in the list -/
def KeyV (H : Hp) (rd : Nat → Road) (k : Nat) (x : V) : Prop := ∃ p b, x = .ref p ∧ H p = some (.tup [.ref b, .int (k : Nat)]) ∧ RoadV H b (rd k)
theorem KeyV.tk {H H' : Hp} {rd : Nat → Road} (t : Tk H H') {k : Nat} {x : V} (h : KeyV H rd k x) : KeyV H' rd k x := let ⟨p, b, e, a, c⟩ := h; ⟨p, b, e, t _ _ a, RoadV.tk t c⟩
theorem rdF_len {L : Nat → Option Nat} {D : Nat → Int} : ∀ (f i : Nat), (Fm.rdF L D f i).length ≤ f + 1
  | 0, i => by simp [Fm.rdF]
  | f + 1, i => by
    unfold Fm.rdF
    split
    · simp
    · rename_i j _
      have := rdF_len (L := L) (D := D) f j
      rw [List.length_append, List.length_singleton]
      omega
theorem paired_at {α β : Type} {F : α → β → Prop} : ∀ {l : List α} {m : List β} {i : Nat} {y : β}, Paired F l m → m[i]? = some y → ∃ x, l[i]? = some x ∧ F x y
  | _, _, 0, _, .cons r _, h => by simp at h; subst h; exact ⟨_, rfl, r⟩
  | _, _, i + 1, _, .cons _ t, h => by simpa using paired_at (i := i) t (by simpa using h)
  | _, _, i, _, .nil, h => by simp at h
theorem paired_snoc {α β : Type} {F : α → β → Prop} {x : α} {y : β} (r : F x y) : ∀ {l : List α} {m : List β}, Paired F l m → Paired F (l ++ [x]) (m ++ [y])
  | _, _, .nil => .cons r .nil
  | _, _, .cons a t => .cons a (paired_snoc r t)
section
variable {P : Program} {w : World} {K : PySem.W.Frag} {mg : Str → Option Value} {base : Heap} {f : Addr} {fd : FuncData} {Tb : Addr}
theorem sc_family : FnScope ["_law_rows", "_law_number", "_law_root", "_law_keys", "_law_k", "_law_key", "_law_top"] ["_law_rows", "_law_number"] (defScope sFamily) := ⟨rfl, rfl, rfl, by decide +kernel, rfl, by decide +kernel, by decide +kernel⟩
theorem lc_family : LcScope ["_law_rows", "_law_number", "_law_root", "_law_keys", "_law_k", "_law_key", "_law_top"] (defScope sFamily) "_law_pair" [] [] { kind := .function, names := [(".0", .local), ("_law_pair", .local)], isGenerator := false, isCoroutine := false, more := [] } :=
  ⟨rfl, by decide +kernel, by decide +kernel, by decide +kernel, by decide +kernel, by decide +kernel, by decide +kernel, rfl, by decide +kernel⟩
def sndV (H : Hp) : V → V
  | .ref p => match H p with
    | some (.tup [_, y]) => y
    | _ => .non
  | _ => .non
theorem sndV_ref {H : Hp} {p : Addr} {x y : V} (h : H p = some (.tup [x, y])) : sndV H (.ref p) = y := by
  show (match H p with | some (.tup [_, y]) => y | _ => V.non) = y
  rw [h]
theorem ok_family (T : Glob mg) (F : Fun K "_law_family" "_law_family" sFamily f fd) : FnOk P w K mg base CX0 2 f fd ["_law_rows", "_law_number"] spFamily := by
  have sc := sc_family
  refine F.ok (k := 1) sc (fun vs H Q E h => by obtain ⟨ra, rs, n, L, rk, D, i, rfl, _⟩ := h; rfl) (fun cdv A outer s H0 vs Q E hr h => ?_)
  obtain ⟨ra, rs, n, L, rk, D, i, rfl, hR, ho, hn, hi, hrk, q⟩ := h
  refine ⟨_, (pss_cons (ps_set (i := 2) sc.nd rfl (Or.inl rfl) (pv 1))
    (pss_cons (ps_while PassesOwn.never (pt_cmpR op_notN (pe_ix ix_list (pe_ix ix_list (pv 0) (pv 2) (fun _ _ => rfl)) pe_int (fun _ _ => rfl)) pe_non (nomark _)) (pss_one (ps_set (i := 2) sc.nd rfl (Or.inl rfl) (pe_ix ix_list (pe_ix ix_list (pv 0) (pv 2) (fun _ _ => rfl)) pe_int (fun _ _ => rfl)))))
    (pss_cons (ps_set (i := 3) sc.nd rfl (Or.inl rfl) (pe_lst pa_nil))
    (pss_cons (ps_for PassesOwn.never rfl (pi_range1 rfl T.b_range (pa_cons (pe_callB call_len_seq rfl T.b_len bt_len (pa_cons (pv 0) pa_nil)) pa_nil)) (pg_name (i := 4) sc.nd rfl (Or.inl rfl)) (pss_cons (ps_set (i := 5) sc.nd rfl (Or.inl rfl) (pe_tup (pa_cons (pe_tup (pa_cons (pe_ix ix_list (pe_ix ix_list (pv 0) (pv 4) (fun _ _ => rfl)) pe_int (fun _ _ => rfl)) (pa_cons (pv 4) pa_nil))) pa_nil)))
    (pss_cons (ps_set (i := 6) sc.nd rfl (Or.inl rfl) (pv 4))
    (pss_cons (ps_while PassesOwn.never (pt_cmpR op_notN (pe_ix ix_list (pe_ix ix_list (pv 0) (pv 6) (fun _ _ => rfl)) pe_int (fun _ _ => rfl)) pe_non (nomark _)) (pss_cons (ps_set (i := 6) sc.nd rfl (Or.inl rfl) (pe_ix ix_list (pe_ix ix_list (pv 0) (pv 6) (fun _ _ => rfl)) pe_int (fun _ _ => rfl)))
    (pss_one (ps_set (i := 5) sc.nd rfl (Or.inl rfl) (pe_op op_catT (pe_tup (pa_cons (pe_tup (pa_cons (pe_ix ix_list (pe_ix ix_list (pv 0) (pv 6) (fun _ _ => rfl)) pe_int (fun _ _ => rfl)) (pa_cons (pv 6) pa_nil))) pa_nil)) (pv 5))))))
    (pss_one (ps_if (pt_cmpR op_eq (pv 6) (pv 2) (nomark _)) (pss_one (ps_expr (pe_bm PySem.F.plainAttrs_list PySem.F.slot_list_append PySem.F.type_list_append mt_append (pv 3) (pa_cons (pe_tup (pa_cons (pv 5) (pa_cons (pv 4) pa_nil))) pa_nil)))) pss_nil))))))
    (pss_one (ps_ret (pe_lc lc_family rfl (pi_list (pe_callB (call_sortedRoads hr) rfl T.b_sorted bt_sorted (pa_cons (pv 3) pa_nil))) (fun _ _ _ _ _ => pifs_nil) (fun _ _ _ _ _ => (pe_ix (show IxR _ (rIxT K) from ix_tup) (pv 0) pe_int (fun _ _ => rfl)))))))))), ?_⟩
  have row : ∀ {H : Hp} {t : Nat}, Same H0 H → t < n → ∃ b xs, (rs.map V.ref)[t]? = some (.ref b) ∧ H b = some (.lst xs) ∧ xs[1]? = some (.int (D t)) ∧ xs[4]? = some (linkV (L t)) := fun {H t} k ht => by
    have htl : t < rs.length := by rw [hR.len]; exact ht
    have hb := List.getElem?_eq_getElem htl
    obtain ⟨xs, h1, h2, h3⟩ := hR.row t _ hb
    exact ⟨rs[t], xs, by rw [List.getElem?_map, hb]; rfl, k _ _ h1, h2, h3⟩
  refine ⟨_, rfl, ?_⟩
  dsimp only [gName]
  refine ⟨fun m σ H => ∃ t : Nat, σ = [some (.ref ra), some (.int (i : Nat)), some (.int (t : Nat)), none, none, none, none] ∧ H = H0 ∧ t < n ∧ Fm.tp L rk t = Fm.tp L rk i ∧ m = rk t, ⟨rk i, i, rfl, rfl, hi, rfl, rfl⟩, ?_⟩
  rintro m σ H ⟨t, rfl, rfl, ht, hte, rfl⟩
  obtain ⟨b, xs, g1, g2, g3, g4⟩ := row (Same.refl H) ht
  refine ⟨_, rfl, _, rfl, ra, _, _, _, rfl, rfl, SqL.of hR.lst, atI_nat g1, b, xs, 4, _, rfl, rfl, SqL.of g2, atI_nat (j := 4) g4, rfl, _, rfl, ?_⟩
  cases hl : L t with
  | some j =>
    obtain ⟨hj, hlt⟩ := ho.lt t j ht hl
    refine onT rfl ⟨fun σ' H' => ∃ m', m' < rk t ∧ ∃ t : Nat, σ' = [some (.ref ra), some (.int (i : Nat)), some (.int (t : Nat)), none, none, none, none] ∧ H' = H ∧ t < n ∧ Fm.tp L rk t = Fm.tp L rk i ∧ m' = rk t, fun σ' H' z => z, ?_⟩
    refine ⟨_, rfl, _, rfl, ra, _, _, _, rfl, rfl, SqL.of hR.lst, atI_nat g1, b, xs, 4, _, rfl, rfl, SqL.of g2, atI_nat (j := 4) g4, ?_⟩
    rw [hl]
    exact ⟨rk j, hlt, j, rfl, rfl, hj, by rw [← hte, Fm.tp_some ho ht hl], rfl⟩
  | none =>
    have etop : t = Fm.tp L rk i := by rw [← hte, Fm.tp_none hl]
    subst etop
    refine onF rfl ?_
    refine ⟨z0, fun ka hka => ?_⟩
    dsimp only [gName]
    have k1 := same_upd hka (.lst [])
    have hlen : (rs.map V.ref).length = n := by rw [List.length_map]; exact hR.len
    refine ⟨_, rfl, ra, _, rfl, .inl (SqL.of (k1 _ _ hR.lst)), ?_⟩
    rw [hlen]
    refine ⟨_, rfl, by omega, by omega, ?_⟩
    rw [Int.toNat_natCast]
    refine for_range (fun t σ H' => ∃ (its : List V) (o4 o5 o6 : Option V), σ = [some (.ref ra), some (.int (i : Nat)), some (.int (Fm.tp L rk i : Nat)), some (.ref ka), o4, o5, o6] ∧ Same H H' ∧ H' ka = some (.lst its) ∧
      Paired (KeyV H' (Fm.rd L D rk)) ((List.range t).filter fun k => decide (Fm.tp L rk k = Fm.tp L rk i)) its) ?_ ?_ ?_
    · exact ⟨[], none, none, none, rfl, k1, upd_same, .nil⟩
    · rintro k σ H1 hk ⟨its, o4, o5, o6, rfl, hk1, hka1, hP⟩
      rw [Int.zero_add]
      dsimp only [gName]
      obtain ⟨b, xs, g1, g2, g3, g4⟩ := row hk1 hk
      have hra := hk1 _ _ hR.lst
      refine ⟨_, rfl, _, rfl, ra, _, _, _, rfl, rfl, SqL.of hra, atI_nat g1, b, xs, 1, _, rfl, rfl, SqL.of g2, atI_nat (j := 1) g3, _, rfl, z2, fun p1 hp1 => ⟨z1, fun p2 hp2 => ?_⟩⟩
      dsimp only [gName]
      have kp1 := same_upd hp1 (.tup [V.int (D k), V.int (k : Nat)])
      have kp2 := same_upd hp2 (.tup [V.ref p1])
      have road0 : RoadV (upd (upd H1 p1 (.tup [V.int (D k), V.int (k : Nat)])) p2 (.tup [V.ref p1])) p2 [(D k, (k : Int))] := ⟨[.ref p1], upd_same, .cons ⟨p1, rfl, kp2 _ _ upd_same⟩ .nil⟩
      have kH2 : Same H1 (upd (upd H1 p1 (.tup [V.int (D k), V.int (k : Nat)])) p2 (.tup [V.ref p1])) := kp1.trans kp2
      generalize upd (upd H1 p1 (.tup [V.int (D k), V.int (k : Nat)])) p2 (.tup [V.ref p1]) = H2 at road0 kH2 ⊢
      refine ⟨_, rfl, ?_⟩
      dsimp only [gName]
      -- up the road
      refine ⟨fun m σ H3 => ∃ (tt : Nat) (S : Road) (kb : Addr), σ = [some (.ref ra), some (.int (i : Nat)), some (.int (Fm.tp L rk i : Nat)), some (.ref ka), some (.int (k : Nat)), some (.ref kb), some (.int (tt : Nat))] ∧ Same H1 H3 ∧ tt < n ∧
          RoadV H3 kb ((D tt, (tt : Int)) :: S) ∧ Fm.rd L D rk k = Fm.rd L D rk tt ++ S ∧ Fm.tp L rk tt = Fm.tp L rk k ∧ m = rk tt, ⟨rk k, k, [], p2, rfl, kH2, hk, road0, by rw [List.append_nil], rfl, rfl⟩, ?_⟩
      rintro m σ H3 ⟨tt, S, kb, rfl, hk3, htt, hroad, hrd, htp, rfl⟩
      have hk03 := hk1.trans hk3
      obtain ⟨b, xs, g1, g2, g3, g4⟩ := row hk03 htt
      refine ⟨_, rfl, _, rfl, ra, _, _, _, rfl, rfl, SqL.of (hk03 _ _ hR.lst), atI_nat g1, b, xs, 4, _, rfl, rfl, SqL.of g2, atI_nat (j := 4) g4, rfl, _, rfl, ?_⟩
      cases hl2 : L tt with
      | some j =>
        obtain ⟨hj, hlt⟩ := ho.lt tt j htt hl2
        refine onT rfl ⟨fun σ H3 => ∃ m', m' < rk tt ∧ ∃ (tt : Nat) (S : Road) (kb : Addr), σ = [some (.ref ra), some (.int (i : Nat)), some (.int (Fm.tp L rk i : Nat)), some (.ref ka), some (.int (k : Nat)), some (.ref kb), some (.int (tt : Nat))] ∧ Same H1 H3 ∧ tt < n ∧
          RoadV H3 kb ((D tt, (tt : Int)) :: S) ∧ Fm.rd L D rk k = Fm.rd L D rk tt ++ S ∧ Fm.tp L rk tt = Fm.tp L rk k ∧ m' = rk tt, fun σ' H' z => z, ?_⟩
        refine ⟨_, rfl, _, rfl, ra, _, _, _, rfl, rfl, SqL.of (hk03 _ _ hR.lst), atI_nat g1, b, xs, 4, _, rfl, rfl, SqL.of g2, atI_nat (j := 4) g4, ?_⟩
        rw [hl2]
        dsimp only [gName, linkV]
        obtain ⟨b', xs', g1', g2', g3', g4'⟩ := row hk03 hj
        refine ⟨_, rfl, _, rfl, ra, _, _, _, rfl, rfl, SqL.of (hk03 _ _ hR.lst), atI_nat g1', b', xs', 1, _, rfl, rfl, SqL.of g2', atI_nat (j := 1) g3', _, rfl, z2, fun q1 hq1 => ⟨z1, fun q2 hq2 => ?_⟩⟩
        have kq1 := same_upd hq1 (.tup [V.int (D j), V.int (j : Nat)])
        have kq2 := same_upd hq2 (.tup [V.ref q1])
        have hk4 : Same H3 (upd (upd H3 q1 (.tup [V.int (D j), V.int (j : Nat)])) q2 (.tup [V.ref q1])) := kq1.trans kq2
        have e1 : upd (upd H3 q1 (.tup [V.int (D j), V.int (j : Nat)])) q2 (.tup [V.ref q1]) q1 = some (.tup [V.int (D j), V.int (j : Nat)]) := kq2 _ _ upd_same
        have e2 : upd (upd H3 q1 (.tup [V.int (D j), V.int (j : Nat)])) q2 (.tup [V.ref q1]) q2 = some (.tup [V.ref q1]) := upd_same
        generalize upd (upd H3 q1 (.tup [V.int (D j), V.int (j : Nat)])) q2 (.tup [V.ref q1]) = H4 at hk4 e1 e2 ⊢
        obtain ⟨ys, y1, y2⟩ := RoadV.tk (Same.tk hk4) hroad
        have ylen : ys.length = S.length + 1 := by have := y2.length; simpa using this.symm
        have rlen : (Fm.rd L D rk k).length ≤ n := by
          have := rdF_len (L := L) (D := D) (rk k) k
          have := hrk k hk
          unfold Fm.rd
          omega
        rw [hrd, List.length_append] at rlen
        have yne : ys ≠ [] := fun z => by rw [z] at ylen; simp at ylen
        refine ⟨_, rfl, q2, kb, _, ys, rfl, rfl, SqT.of e2, SqT.of y1, by simp, by rw [sizeLine_eq]; show 1 + ys.length ≤ _; omega, fun z => absurd z yne, fun _ q3 hq3 => ?_⟩
        have hk5 := same_upd hq3 (.tup ([V.ref q1] ++ ys))
        refine ⟨rk j, hlt, j, (D tt, (tt : Int)) :: S, q3, rfl, hk3.trans (hk4.trans hk5), hj, ⟨_, upd_same, .cons ⟨q1, rfl, hk5 _ _ e1⟩ (Paired.mapP y2 fun _ _ ⟨c, w1, w2⟩ => ⟨c, w1, hk5 _ _ w2⟩)⟩, ?_, ?_, rfl⟩
        · rw [hrd, Fm.rd_some ho htt hl2, List.append_assoc]
          rfl
        · rw [← htp, Fm.tp_some ho htt hl2]
      | none =>
        have ett : tt = Fm.tp L rk k := by rw [← htp, Fm.tp_none hl2]
        have erd : Fm.rd L D rk k = (D tt, (tt : Int)) :: S := by rw [hrd, Fm.rd_none hl2]; rfl
        refine onF rfl ?_
        refine ⟨_, rfl, _, rfl, rfl, _, rfl, ?_⟩
        rw [List.range_succ, List.filter_append]
        by_cases ec : Fm.tp L rk k = Fm.tp L rk i
        · have hd : decide ((V.int (tt : Nat)) = V.int (Fm.tp L rk i : Nat)) = true := by rw [ett, ec]; simp
          refine onT (by rw [ett, ec]; simp) ?_
          have hkae := hk3 _ _ hka1
          refine ⟨_, rfl, .inl ⟨rfl, _, SqL.of hkae⟩, _, rfl, _, rfl, z2, fun q3 hq3 => ?_⟩
          have hk5 := same_upd hq3 (.tup [V.ref kb, V.int (k : Nat)])
          have hka5 := hk5 _ _ hkae
          have il : its.length ≤ k := by
            have := hP.length
            rw [← this]
            exact Nat.le_trans (List.length_filter_le _ _) (by simp)
          have t6 : Tk (upd H3 q3 (.tup [V.ref kb, V.int (k : Nat)])) (upd (upd H3 q3 (.tup [V.ref kb, V.int (k : Nat)])) ka (.lst (its ++ [V.ref q3]))) := fun a xs e => tup_lst hka5 a xs e
          refine ⟨ka, its, .ref q3, rfl, rfl, hka5, zlt (by omega), its ++ [.ref q3], _, _, _, rfl, same_up (hk1.trans (hk3.trans hk5)) hka, upd_same, ?_⟩
          have e3 : [k].filter (fun k => decide (Fm.tp L rk k = Fm.tp L rk i)) = [k] := by simp [ec]
          rw [e3]
          refine paired_snoc ⟨q3, kb, rfl, t6 _ _ upd_same, ?_⟩ (Paired.mapP hP fun _ _ z => z.tk ((Same.tk (hk3.trans hk5)).trans t6))
          rw [erd]
          exact RoadV.tk ((Same.tk hk5).trans t6) hroad
        · refine onF ?_ ⟨its, _, _, _, rfl, hk1.trans hk3, hk3 _ _ hka1, ?_⟩
          · rw [ett]
            simp
            omega
          · have e3 : [k].filter (fun k => decide (Fm.tp L rk k = Fm.tp L rk i)) = [] := by simp [ec]
            rw [e3, List.append_nil]
            exact Paired.mapP hP fun _ _ z => z.tk (Same.tk hk3)
    · rintro σ H1 ⟨its, o4, o5, o6, rfl, hk1, hka1, hP⟩
      generalize hfam : (List.range n).filter (fun k => decide (Fm.tp L rk k = Fm.tp L rk i)) = fam at hP
      have flen : fam.length = its.length := hP.length
      have fn : fam.length ≤ n := by rw [← hfam]; exact Nat.le_trans (List.length_filter_le _ _) (by simp)
      have fmem : ∀ k, k ∈ fam ↔ k < n ∧ Fm.tp L rk k = Fm.tp L rk i := fun k => by rw [← hfam, List.mem_filter, List.mem_range, decide_eq_true_eq]
      have fnd : fam.Nodup := by rw [← hfam]; exact List.nodup_range.sublist List.filter_sublist
      have fget : ∀ m, m < its.length → fam.getD m 0 ∈ fam := fun m hm => by
        have hm' : m < fam.length := by omega
        simp [List.getD, List.getElem?_eq_getElem hm']
      refine ⟨_, rfl, ka, its, fun m => Fm.rd L D rk (fam.getD m 0), fun m => ((fam.getD m 0 : Nat) : Int), rfl, hka1, by omega, fun a b ha hb e => ?_, fun m x hx => ?_, fun l out hl hp1 hp2 => ?_⟩
      · have e2 := Fm.rd_inj ho ((fmem _).mp (fget a ha)).1 ((fmem _).mp (fget b hb)).1 e
        have ha' : a < fam.length := by omega
        have hb' : b < fam.length := by omega
        simp [List.getD, List.getElem?_eq_getElem ha', List.getElem?_eq_getElem hb'] at e2
        exact (List.getElem_inj (h₀ := ha') (h₁ := hb') fnd).mp e2
      · obtain ⟨k, hk, p, b, e1, e2, e3⟩ := paired_at hP hx
        have : fam.getD m 0 = k := by simp [List.getD, hk]
        show ∃ a b, x = V.ref a ∧ H1 a = some (.tup [V.ref b, V.int ((fam.getD m 0 : Nat) : Int)]) ∧ RoadV H1 b (Fm.rd L D rk (fam.getD m 0))
        rw [this]
        exact ⟨p, b, e1, e2, e3⟩
      · have hm : ∀ m ∈ out, m < its.length := fun m hm => List.mem_range.mp (hp1.mem_iff.mp hm)
        have k2 := same_upd hl (.lst (out.map fun i => its.getD i .non))
        refine ⟨l, rfl, ⟨_, SqL.of upd_same⟩, fun r hr0 => ?_⟩
        have olen : out.length = its.length := by rw [hp1.length_eq, List.length_range]
        refine lc_map (fun _ => true) (sndV H1) (SqL.of upd_same) hr0 (zn (by rw [List.length_map]; omega)) ?_ ?_ ?_
        · intro v hv H' R hH hR'
          exact hR'
        · intro v hv _ H' R hH hR'
          obtain ⟨m, hmo, rfl⟩ := List.mem_map.mp hv
          have hml := hm m hmo
          have hg : its[m]? = some (its.getD m .non) := by simp [List.getD, List.getElem?_eq_getElem hml]
          obtain ⟨k, hk, p, b, e1, e2, e3⟩ := paired_at hP hg
          rw [e1] at hR' ⊢
          have e4 := k2 _ _ e2
          have hpr : p ≠ r := ne_of_none e4 hr0
          have e5 : H' p = some (.tup [.ref b, .int (k : Nat)]) := by rw [hH p hpr]; exact e4
          refine ⟨_, rfl, p, _, 1, .int (k : Nat), rfl, rfl, SqT.of e5, rfl, ?_⟩
          have : sndV H1 (.ref p) = .int (k : Nat) := sndV_ref e2
          rw [this] at hR'
          exact hR'
        · have ff : (out.map fun i => its.getD i .non).filter (fun _ => true) = out.map fun i => its.getD i .non := List.filter_eq_self.mpr fun _ _ => rfl
          rw [ff, List.map_map]
          have e6 : (out.map (sndV H1 ∘ fun i => its.getD i .non)) = (out.map fun m => fam.getD m 0).map fun i => V.int (i : Nat) := by
            rw [List.map_map]
            refine List.map_congr_left fun m hmo => ?_
            have hml := hm m hmo
            have hg : its[m]? = some (its.getD m .non) := by simp [List.getD, List.getElem?_eq_getElem hml]
            obtain ⟨k, hk, p, b, e1, e2, e3⟩ := paired_at hP hg
            show sndV H1 (its.getD m .non) = V.int (fam.getD m 0 : Nat)
            have : fam.getD m 0 = k := by simp [List.getD, hk]
            rw [e1, this]
            exact sndV_ref e2
          rw [e6]
          refine q _ r (out.map fun m => fam.getD m 0) (hk1.trans (k2.trans (same_upd hr0 _))) upd_same ?_ fun k => ?_
          · rw [List.pairwise_map]
            exact hp2
          · rw [← fmem k]
            constructor
            · intro h
              obtain ⟨m, hmo, rfl⟩ := List.mem_map.mp h
              exact fget m (hm m hmo)
            · intro h
              obtain ⟨m, hml, e⟩ := List.getElem_of_mem h
              refine List.mem_map.mpr ⟨m, hp1.mem_iff.mpr (List.mem_range.mpr (by omega)), ?_⟩
              simp [List.getD, List.getElem?_eq_getElem hml, e]
end
end Thr
end

section
set_option Elab.async false
set_option linter.unusedVariables false
set_option maxRecDepth 100000
set_option maxHeartbeats 4000000
namespace L2
open PySem PySem.Spec PyProof.Rows
section
variable {X : Cx}
def rInsert : V → List V → Hp → VK → Prop := fun x vs H Q => ∃ (l : Addr) (xs : List V) (k : Nat) (y : V), x = .ref l ∧ vs = [.int (k : Nat), y] ∧ H l = some (.lst xs) ∧ k ≤ xs.length ∧ xs.length < 100000 ∧ Q .non (upd H l (.lst (xs.take k ++ y :: xs.drop k)))
theorem ins_arr (its : List Value) (k : Nat) (y : Value) : (its.toArray.extract 0 k).push y ++ its.toArray.extract k = (its.take k ++ y :: its.drop k).toArray := by
  apply Array.toList_inj.mp
  simp
  exact List.take_of_length_le (by simp)
theorem mt_insert : MtM X "list.insert" rInsert := by
  intro pins s σ H x vs v us Q I rx rv h
  obtain ⟨l, xs, k, y, rfl, rfl, hH, hk, hz, q⟩ := h
  cases rx
  obtain ⟨u1, u2, rfl, r1, r2⟩ := Vals.two rv
  obtain ⟨kx, hkx⟩ : ∃ kx : Int, kx = (k : Int) := ⟨_, rfl⟩
  obtain ⟨t, rfl⟩ : ∃ t, u1 = Value.int kx t := by rw [hkx]; exact r1
  obtain ⟨z, its, n, r, hl, e⟩ := I.lstM hH
  have hf : Builtin.List.listFitsIndex kx = true := fitsIndex_both (by omega) (by omega)
  have hc0 : ¬(!Builtin.List.listFitsIndex kx) = true := by rw [hf]; exact Bool.false_ne_true
  have hzz : its.toArray.size ≤ sizeLine := by rw [List.size_toArray, ← hl]; exact z
  have hM := PySem.AutoSeq1.list_insert_list_int_val_1 l its.toArray n kx t u2 hc0 hzz
  refine call_meets PySem.F.slot_list_insert ⟨_, e, rfl⟩ PySem.F.entry_list_insert (PySem.F.args_list_insert_3 _ _ _) hM ⟨e, ?_⟩
  refine ⟨.non, _, I.lset (its' := its.take k ++ u2 :: its.drop k) hH e ?_ ((r.take k).append (.cons r2 (r.drop k))) ?_, rfl, q⟩
  · have e1 : (if kx < 0 then (kx + (its.toArray.size : Nat)).toNat else min kx.toNat its.toArray.size) = k := by
      rw [if_neg (by omega), hkx, Int.toNat_natCast, List.size_toArray]
      omega
    show (its.toArray.extract 0 (if kx < 0 then (kx + (its.toArray.size : Nat)).toNat else min kx.toNat its.toArray.size)).push u2 ++ its.toArray.extract (if kx < 0 then (kx + (its.toArray.size : Nat)).toNat else min kx.toNat its.toArray.size) = _
    rw [e1]
    exact ins_arr its k u2
  · rw [List.length_append, List.length_cons, List.length_take, List.length_drop, sizeLine_eq]
    omega
end
end L2
namespace Thr
open PySem L2 PyProof.Rows
open Stree (Road lexR lex2)
def spForest : Sp := fun vs H Q _ => ∃ (ca : Addr) (cs : List Int), vs = [.ref ca] ∧ H ca = some (.lst (cs.map V.int)) ∧ cs.length ≤ 12 ∧
  ∀ (H' : Hp) (t oa ra : Addr) (rs : List Addr) (L : Nat → Option Nat) (rk : Nat → Nat) (D : Nat → Int), Same H H' → H' t = some (.tup [.ref oa, .ref ra]) → RowsAt H' ra rs cs.length L D → rs.Nodup → (∀ b ∈ rs, H b = none ∧ b ≠ ra ∧ b ≠ oa) → H ra = none →
    Fm.Ok cs.length L rk → (∀ k, k < cs.length → rk k < cs.length) → Q (.ref t) H'
theorem pick2 (x y : Str) (m : Int) : ∃ z, atI [V.str x, V.str y] (m % 2) = some (.str z) := by
  have : m % 2 = 0 ∨ m % 2 = 1 := by omega
  rcases this with e | e <;> rw [e] <;> exact ⟨_, rfl⟩
theorem pick5 (a b c d f : Int) (m : Int) : ∃ z, atI [V.int a, V.int b, V.int c, V.int d, V.int f] (m % 5) = some (.int z) := by
  have : m % 5 = 0 ∨ m % 5 = 1 ∨ m % 5 = 2 ∨ m % 5 = 3 ∨ m % 5 = 4 := by omega
  rcases this with e | e | e | e | e <;> rw [e] <;> exact ⟨_, rfl⟩
theorem atI_ints {ns : List Int} {k : Nat} (h : k < ns.length) : ∃ c, atI (ns.map V.int) (k : Int) = some (.int c) :=
  ⟨ns[k], atI_nat (by rw [List.getElem?_map, List.getElem?_eq_getElem h]; rfl)⟩
theorem emod_nat (t n : Nat) : ((t : Int) + 1) % (n : Int) = (((t + 1) % n : Nat) : Int) := by
  rw [Int.natCast_emod]
  rfl
theorem emod_nat2 (t n : Nat) : ((t : Int) + 2) % (n : Int) = (((t + 2) % n : Nat) : Int) := by
  rw [Int.natCast_emod]
  rfl
/-- what the rows are after t spots of the order -/
structure Rw (H0 H : Hp) (ra oa : Addr) (ord : List Nat) (t : Nat) (rs : List Addr) (L : Nat → Option Nat) (D : Nat → Int) : Prop where
  lst : H ra = some (.lst (rs.map V.ref))
  len : rs.length = ord.length
  nd : rs.Nodup
  ob : ∀ b ∈ rs, (∃ xs, H b = some (.lst xs)) ∧ H0 b = none ∧ b ≠ ra ∧ b ≠ oa
  row : ∀ s i, s < t → ord[s]? = some i → ∃ b w p tm, rs[i]? = some b ∧ H b = some (.lst [.str w, .int (D i), .str p, .int tm, linkV (L i), .str "", .bl false])
  up : ∀ s i j, s < t → ord[s]? = some i → L i = some j → ∃ s', s' < s ∧ ord[s']? = some j
theorem Rw.same {H0 H H' : Hp} {ra oa : Addr} {ord : List Nat} {t : Nat} {rs : List Addr} {L : Nat → Option Nat} {D : Nat → Int} (h : Rw H0 H ra oa ord t rs L D) (k : Same H H') : Rw H0 H' ra oa ord t rs L D :=
  ⟨k _ _ h.lst, h.len, h.nd, fun b hb => let ⟨⟨xs, e⟩, r⟩ := h.ob b hb; ⟨⟨xs, k _ _ e⟩, r⟩, fun s i hs hi => let ⟨b, w, p, tm, e1, e2⟩ := h.row s i hs hi; ⟨b, w, p, tm, e1, k _ _ e2⟩, h.up⟩
theorem nodup_set {α : Type} {p : α} : ∀ {l : List α} {i : Nat}, l.Nodup → p ∉ l → (l.set i p).Nodup
  | [], _, h, _ => h
  | x :: r, 0, h, hp => by
    rw [List.set_cons_zero, List.nodup_cons]
    exact ⟨fun z => hp (List.mem_cons_of_mem _ z), (List.nodup_cons.mp h).2⟩
  | x :: r, i + 1, h, hp => by
    rw [List.set_cons_succ, List.nodup_cons]
    refine ⟨fun z => ?_, nodup_set (List.nodup_cons.mp h).2 fun z => hp (List.mem_cons_of_mem _ z)⟩
    rcases List.mem_or_eq_of_mem_set z with z | z
    · exact (List.nodup_cons.mp h).1 z
    · exact hp (by rw [← z]; exact List.mem_cons_self)
theorem at_mod {ord : List Nat} {t : Nat} (ht : t ≤ ord.length) (h0 : 0 < t) (x : Int) : ∃ j s', s' < t ∧ ord[s']? = some j ∧ atI (ord.map fun i => V.int (i : Nat)) (x % (t : Int)) = some (V.int (j : Nat)) := by
  have h1 := Int.emod_nonneg x (show (t : Int) ≠ 0 by omega)
  have h2 := Int.emod_lt_of_pos x (show (0 : Int) < (t : Int) by omega)
  obtain ⟨m, hm⟩ : ∃ m : Nat, x % (t : Int) = (m : Int) := ⟨(x % (t : Int)).toNat, by omega⟩
  have hmt : m < t := by omega
  have hml : m < ord.length := by omega
  refine ⟨ord[m], m, hmt, List.getElem?_eq_getElem hml, ?_⟩
  rw [hm]
  exact atI_nat (by rw [List.getElem?_map, List.getElem?_eq_getElem hml]; rfl)
section
variable {P : Program} {w : World} {K : PySem.W.Frag} {mg : Str → Option Value} {base : Heap} {f : Addr} {fd : FuncData} {Tb : Addr}
theorem sc_forest : FnScope ["_law_cells", "_law_order", "_law_k", "_law_rows", "_law_spot", "_law_near", "_law_far", "_law_term", "_law_way", "_law_row", "_law_up", "_law_base"] ["_law_cells"] (defScope sForest) := ⟨rfl, rfl, rfl, by decide +kernel, rfl, by decide +kernel, by decide +kernel⟩
theorem lc_forest : LcScope ["_law_cells", "_law_order", "_law_k", "_law_rows", "_law_spot", "_law_near", "_law_far", "_law_term", "_law_way", "_law_row", "_law_up", "_law_base"] (defScope sForest) "_law_k" [] [] { kind := .function, names := [(".0", .local), ("_law_k", .local)], isGenerator := false, isCoroutine := false, more := [] } :=
  ⟨rfl, by decide +kernel, by decide +kernel, by decide +kernel, by decide +kernel, by decide +kernel, by decide +kernel, rfl, by decide +kernel⟩
theorem ok_forest (T : Glob mg) (F : Fun K "_law_forest" "_law_forest" sForest f fd) : FnOk P w K mg base CX0 1 f fd ["_law_cells"] spForest := by
  have sc := sc_forest
  refine F.ok (k := 0) sc (fun vs H Q E h => by obtain ⟨ca, cs, rfl, _⟩ := h; rfl) (fun cdv A outer s H0 vs Q E hr h => ?_)
  obtain ⟨ca, cs, rfl, hca, hcn, q⟩ := h
  refine ⟨_, (pss_cons (ps_set (i := 1) sc.nd rfl (Or.inl rfl) (pe_lst pa_nil))
    (pss_cons (ps_for PassesOwn.never rfl (pi_range1 rfl T.b_range (pa_cons (pe_callB call_len_seq rfl T.b_len bt_len (pa_cons (pv 0) pa_nil)) pa_nil)) (pg_name (i := 2) sc.nd rfl (Or.inl rfl)) (pss_one (ps_expr (pe_bm PySem.F.plainAttrs_list PySem.F.slot_list_insert PySem.F.type_list_insert mt_insert (pv 1) (pa_cons (pe_op op_mod (pe_ix ix_list (pv 0) (pv 2) (fun _ _ => rfl)) (pe_op op_add (pv 2) pe_int)) (pa_cons (pv 2) pa_nil))))))
    (pss_cons (ps_lc (i := 3) lc_forest rfl sc.nd rfl rfl (pi_list (pv 1)) (fun _ _ _ _ _ => pifs_nil) (fun _ _ _ _ _ => (pe_lst pa_nil)))
    (pss_cons (ps_for PassesOwn.never rfl (pi_range1 rfl T.b_range (pa_cons (pe_callB call_len_seq rfl T.b_len bt_len (pa_cons (pv 1) pa_nil)) pa_nil)) (pg_name (i := 4) sc.nd rfl (Or.inl rfl)) (pss_cons (ps_set (i := 5) sc.nd rfl (Or.inl rfl) (pe_ix ix_list (pv 0) (pe_op op_mod (pe_op op_add (pv 4) pe_int) (pe_callB call_len_seq rfl T.b_len bt_len (pa_cons (pv 0) pa_nil))) (fun _ _ => rfl)))
    (pss_cons (ps_set (i := 6) sc.nd rfl (Or.inl rfl) (pe_ix ix_list (pv 0) (pe_op op_mod (pe_op op_add (pv 4) pe_int) (pe_callB call_len_seq rfl T.b_len bt_len (pa_cons (pv 0) pa_nil))) (fun _ _ => rfl)))
    (pss_cons (ps_set (i := 7) sc.nd rfl (Or.inl rfl) (pe_ix ix_list (pe_lst (pa_cons pe_int (pa_cons pe_int (pa_cons pe_int (pa_cons pe_int (pa_cons pe_int pa_nil)))))) (pe_op op_mod (pv 6) pe_int) (fun _ _ => rfl)))
    (pss_cons (ps_set (i := 8) sc.nd rfl (Or.inl rfl) (pe_ix ix_list (pe_lst (pa_cons pe_str (pa_cons pe_str pa_nil))) (pe_op op_mod (pe_op op_fdiv (pv 6) pe_int) pe_int) (fun _ _ => rfl)))
    (pss_cons (ps_set (i := 9) sc.nd rfl (Or.inl rfl) (pe_lst (pa_cons (pv 8) (pa_cons (pe_op op_sub (pe_op op_mod (pe_op op_fdiv (pv 5) pe_int) pe_int) pe_int) (pa_cons (pe_ix ix_list (pe_lst (pa_cons pe_str (pa_cons pe_str pa_nil))) (pe_op op_mod (pv 6) pe_int) (fun _ _ => rfl)) (pa_cons (pv 7) (pa_cons pe_non pa_nil)))))))
    (pss_cons (ps_if (PW.pt (pw_and (pt_cmpR op_gt (pv 4) pe_int (nomark _)) (pw_and1 (pt_cmpR op_gt (pe_op op_mod (pv 5) pe_int) pe_int (nomark _))))) (pss_cons (ps_set (i := 10) sc.nd rfl (Or.inl rfl) (pe_ix ix_list (pv 1) (pe_op op_mod (pe_op op_fdiv (pe_ix ix_list (pv 0) (pv 4) (fun _ _ => rfl)) pe_int) (pv 4)) (fun _ _ => rfl)))
    (pss_cons (ps_set (i := 11) sc.nd rfl (Or.inl rfl) (pe_ix ix_list (pv 3) (pv 10) (fun _ _ => rfl)))
    (pss_cons (ps_set (i := 8) sc.nd rfl (Or.inl rfl) (pe_ix ix_list (pe_lst (pa_cons pe_str (pa_cons pe_str pa_nil))) (pe_callTy call_int1 rfl T.b_int bt_int (pa_cons (pe_cmpR op_eq (pe_ix ix_list (pv 11) pe_int (fun _ _ => rfl)) pe_str (nomark _)) pa_nil)) (fun _ _ => rfl)))
    (pss_one (ps_set (i := 9) sc.nd rfl (Or.inl rfl) (pe_lst (pa_cons (pv 8) (pa_cons (pe_op op_add (pe_ix ix_list (pv 11) pe_int (fun _ _ => rfl)) (pe_op op_mod (pe_op op_fdiv (pv 5) pe_int) pe_int)) (pa_cons (pe_ix ix_list (pv 11) pe_int (fun _ _ => rfl)) (pa_cons (pv 7) (pa_cons (pv 10) pa_nil))))))))))) pss_nil)
    (pss_one (ps_asg (pe_op op_cat (pv 9) (pe_lst (pa_cons pe_str (pa_cons pe_bl pa_nil)))) (pg_sub (pv 3) (pe_ix ix_list (pv 1) (pv 4) (fun _ _ => rfl)) set_list))))))))))
    (pss_one (ps_ret (pe_tup (pa_cons (pv 1) (pa_cons (pv 3) pa_nil))))))))), ?_⟩
  refine ⟨z0, fun oa hoa => ?_⟩
  dsimp only [gName]
  have k1 := same_upd hoa (.lst [])
  have hlen : (cs.map V.int).length = cs.length := List.length_map _
  refine ⟨_, rfl, ca, _, rfl, .inl (SqL.of (k1 _ _ hca)), ?_⟩
  rw [hlen]
  refine ⟨_, rfl, by omega, by omega, ?_⟩
  rw [Int.toNat_natCast]
  refine for_range (fun t σ H => ∃ (ord : List Nat) (o2 : Option V), σ = [some (.ref ca), some (.ref oa), o2, none, none, none, none, none, none, none, none, none] ∧ Same H0 H ∧ H oa = some (.lst (ord.map fun i => V.int (i : Nat))) ∧ ord.Perm (List.range t)) ?_ ?_ ?_
  · exact ⟨[], none, rfl, k1, upd_same, .refl _⟩
  · rintro k σ H hk ⟨ord, o2, rfl, hk1, ho, hp⟩
    rw [Int.zero_add]
    dsimp only [gName]
    have hol : ord.length = k := by rw [hp.length_eq, List.length_range]
    obtain ⟨c, hc⟩ := atI_ints (ns := cs) hk
    refine ⟨_, rfl, .inl ⟨rfl, _, SqL.of ho⟩, _, rfl, _, rfl, ca, _, _, _, rfl, rfl, SqL.of (hk1 _ _ hca), hc, _, rfl, _, _, rfl, rfl, _, _, rfl, rfl, (show (0 : Int) < (k : Int) + 1 by omega), _, rfl, ?_⟩
    obtain ⟨m, e, hlt⟩ : ∃ m : Nat, c % ((k : Int) + 1) = (m : Int) ∧ m ≤ k := by
      have h1 := Int.emod_nonneg c (show (k : Int) + 1 ≠ 0 by omega)
      have h2 := Int.emod_lt_of_pos c (show (0 : Int) < (k : Int) + 1 by omega)
      exact ⟨(c % ((k : Int) + 1)).toNat, by omega, by omega⟩
    refine ⟨oa, _, m, V.int (k : Nat), rfl, ?_, ho, by rw [List.length_map]; omega, by rw [List.length_map]; omega, ord.take m ++ k :: ord.drop m, _, rfl, same_up hk1 hoa, ?_, ?_⟩
    · show [V.int (c % ((k : Int) + 1)), V.int (k : Nat)] = _
      rw [e]
    · rw [upd_same, List.map_append, List.map_cons, List.map_take, List.map_drop]
    · rw [List.range_succ]
      refine List.Perm.trans List.perm_middle ?_
      rw [List.take_append_drop]
      exact List.Perm.trans (List.Perm.cons _ hp) (List.perm_append_singleton k _).symm
  rintro σ H1 ⟨ord, o2, rfl, hk1, hoa1, hord⟩
  have ordl : ord.length = cs.length := by rw [hord.length_eq, List.length_range]
  have ordm : ∀ i ∈ ord, i < cs.length := fun i hi => List.mem_range.mp (hord.mem_iff.mp hi)
  have ordnd : ord.Nodup := hord.nodup_iff.mpr List.nodup_range
  refine ⟨_, rfl, oa, rfl, ⟨_, SqL.of hoa1⟩, fun ra hra => lc_empties (SqL.of hoa1) hra (by rw [List.length_map]; omega) fun H2 rs0 k2 hD hrl nd hrs => ?_⟩
  rw [List.length_map, ordl] at hrl
  dsimp only [gName]
  have hoa2 := k2 _ _ hoa1
  have hro : ra ≠ oa := Ne.symm (ne_of_none hoa1 hra)
  refine ⟨_, rfl, oa, _, rfl, .inl (SqL.of hoa2), ?_⟩
  rw [List.length_map, ordl]
  refine ⟨_, rfl, by omega, by omega, ?_⟩
  rw [Int.toNat_natCast]
  refine for_range (fun t σ H => ∃ (rs : List Addr) (L : Nat → Option Nat) (D : Nat → Int) (o2 o4 o5 o6 o7 o8 o9 o10 o11 : Option V), σ = [some (.ref ca), some (.ref oa), o2, some (.ref ra), o4, o5, o6, o7, o8, o9, o10, o11] ∧ Same H1 H ∧ Rw H1 H ra oa ord t rs L D) ?_ ?_ ?_
  · refine ⟨rs0, fun _ => none, fun _ => 0, _, none, none, none, none, none, none, none, none, rfl, k2, hD, by omega, nd, fun b hb => ?_, fun s i hs => absurd hs (Nat.not_lt_zero _), fun s i j hs => absurd hs (Nat.not_lt_zero _)⟩
    obtain ⟨h1, h2, h3⟩ := hrs b hb
    exact ⟨⟨_, h1⟩, h2, h3, Ne.symm (ne_of_none hoa1 h2)⟩
  · rintro t σ H ht ⟨rs, L, D, o2, o4, o5, o6, o7, o8, o9, o10, o11, rfl, hk2, hW⟩
    rw [Int.zero_add]
    dsimp only [gName]
    have hpos : 0 < cs.length := by omega
    have hca2 : ∀ {H'}, Same H H' → H' ca = some (.lst (cs.map V.int)) := fun {H'} k => k _ _ (hk2 _ _ (hk1 _ _ hca))
    have hS := SqL.of (K := K) (hca2 (Same.refl H))
    have hl0 : (0 : Int) < (((cs.map V.int).length : Nat) : Int) := by rw [hlen]; omega
    obtain ⟨c1, hc1⟩ : ∃ c1, atI (cs.map V.int) (((t : Int) + 1) % (((cs.map V.int).length : Nat) : Int)) = some (.int c1) := by rw [hlen, emod_nat]; exact atI_ints (Nat.mod_lt _ hpos)
    obtain ⟨c2, hc2⟩ : ∃ c2, atI (cs.map V.int) (((t : Int) + 2) % (((cs.map V.int).length : Nat) : Int)) = some (.int c2) := by rw [hlen, emod_nat2]; exact atI_ints (Nat.mod_lt _ hpos)
    refine ⟨_, rfl, _, rfl, _, _, rfl, rfl, _, rfl, ca, _, rfl, .inl hS, _, _, rfl, rfl, hl0, ca, _, _, _, rfl, rfl, hS, hc1, ?_⟩
    dsimp only [gName]
    refine ⟨_, rfl, _, rfl, _, _, rfl, rfl, _, rfl, ca, _, rfl, .inl hS, _, _, rfl, rfl, hl0, ca, _, _, _, rfl, rfl, hS, hc2, ?_⟩
    dsimp only [gName]
    obtain ⟨tm, htm⟩ := pick5 0 1 4 2 6 c2
    refine ⟨z5, fun p1 hp1 => ⟨_, rfl, _, _, rfl, rfl, (show (0 : Int) < 5 by decide), p1, _, _, _, rfl, rfl, SqL.of upd_same, htm, ?_⟩⟩
    dsimp only [gName]
    obtain ⟨wy, hwy⟩ := pick2 "in" "out" (c2 / 5)
    refine ⟨z2, fun p2 hp2 => ⟨_, rfl, _, _, rfl, rfl, ⟨by decide, by decide⟩, _, _, rfl, rfl, (show (0 : Int) < 2 by decide), p2, _, _, _, rfl, rfl, SqL.of upd_same, hwy, ?_⟩⟩
    dsimp only [gName]
    obtain ⟨pt, hpt⟩ := pick2 "ann" "bo" c2
    refine ⟨_, rfl, _, rfl, _, _, rfl, rfl, ⟨by decide, by decide⟩, _, _, rfl, rfl, (show (0 : Int) < 14 by decide), _, _, rfl, rfl, z2, fun p3 hp3 => ⟨_, rfl, _, _, rfl, rfl, (show (0 : Int) < 2 by decide), p3, _, _, _, rfl, rfl, SqL.of upd_same, hpt, _, rfl, z5, fun p4 hp4 => ?_⟩⟩
    dsimp only [gName]
    have ka := (same_upd hp1 (.lst [V.int 0, V.int 1, V.int 4, V.int 2, V.int 6])).trans ((same_upd hp2 (.lst [V.str "in", V.str "out"])).trans ((same_upd hp3 (.lst [V.str "ann", V.str "bo"])).trans (same_upd hp4 (.lst [V.str wy, V.int (c1 / 4 % 14 - 3), V.str pt, V.int tm, V.non]))))
    have er : upd (upd (upd (upd H p1 (.lst [V.int 0, V.int 1, V.int 4, V.int 2, V.int 6])) p2 (.lst [V.str "in", V.str "out"])) p3 (.lst [V.str "ann", V.str "bo"])) p4 (.lst [V.str wy, V.int (c1 / 4 % 14 - 3), V.str pt, V.int tm, V.non]) p4 = some (.lst [V.str wy, V.int (c1 / 4 % 14 - 3), V.str pt, V.int tm, V.non]) := upd_same
    refine seq_join (fun σ' H' => ∃ (r9 : Addr) (w p : Str) (d tm : Int) (l : Option Nat) (o5 o6 o7 o8 o10 o11 : Option V), σ' = [some (.ref ca), some (.ref oa), o2, some (.ref ra), some (.int (t : Nat)), o5, o6, o7, o8, some (.ref r9), o10, o11] ∧ Same H H' ∧
      H' r9 = some (.lst [.str w, .int d, .str p, .int tm, linkV l]) ∧ ∀ j, l = some j → ∃ s', s' < t ∧ ord[s']? = some j) ?rest (fun kont => ?_)
    case rest =>
      rintro σ' H' ⟨r9, w9, p9, d9, tm9, l9, o5, o6, o7, o8, o10, o11, rfl, kH, hr9, hl9⟩
      have hti : t < ord.length := by omega
      have hit := List.getElem?_eq_getElem hti
      have hi0 : ord[t] < cs.length := ordm _ (List.getElem_mem hti)
      generalize hi0e : ord[t] = i0 at hit hi0
      refine ⟨_, rfl, z2, fun p5 hp5 => ⟨r9, p5, _, _, rfl, rfl, by rw [upd_ne (ne_of_none hr9 hp5)]; exact hr9, upd_same, by rw [sizeLine_eq]; show 5 + 2 ≤ 16777216; decide, fun p6 hp6 => ?_⟩⟩
      have k5 := same_upd hp5 (.lst [V.str "", V.bl false])
      have k6 := same_upd hp6 (.lst ([V.str w9, V.int d9, V.str p9, V.int tm9, linkV l9] ++ [V.str "", V.bl false]))
      have kAll := kH.trans (k5.trans k6)
      have e6 : upd (upd H' p5 (.lst [V.str "", V.bl false])) p6 (.lst ([V.str w9, V.int d9, V.str p9, V.int tm9, linkV l9] ++ [V.str "", V.bl false])) p6 = some (.lst [V.str w9, V.int d9, V.str p9, V.int tm9, linkV l9, V.str "", V.bl false]) := upd_same
      have n6 : H p6 = none := (kH.trans k5).fresh hp6
      generalize upd (upd H' p5 (.lst [V.str "", V.bl false])) p6 (.lst ([V.str w9, V.int d9, V.str p9, V.int tm9, linkV l9] ++ [V.str "", V.bl false])) = H6 at kAll e6 ⊢
      have W6 := hW.same kAll
      have hoa6 := kAll _ _ (hk2 _ _ hoa1)
      have hrsl : rs.length = cs.length := by rw [hW.len]; exact ordl
      refine ⟨_, rfl, _, rfl, _, rfl, oa, _, _, V.int (i0 : Nat), rfl, rfl, SqL.of hoa6, atI_nat (by rw [List.getElem?_map, hit]; rfl), ra, _, _, i0, rfl, rfl, W6.lst, ?_, ?_⟩
      · unfold ixN
        rw [if_pos (by omega), if_pos (by rw [List.length_map]; omega), Int.toNat_natCast]
      · have pr : p6 ∉ rs := fun z => by
          obtain ⟨⟨xs, e⟩, _⟩ := hW.ob p6 z
          rw [n6] at e; cases e
        have p6r : p6 ≠ ra := Ne.symm (ne_of_none hW.lst n6)
        have p6o : p6 ≠ oa := Ne.symm (ne_of_none (hk2 _ _ hoa1) n6)
        have keepr : ∀ b o, b ≠ ra → H6 b = some o → upd H6 ra (.lst ((rs.map V.ref).set i0 (V.ref p6))) b = some o := fun b o hb e => by rw [upd_ne hb]; exact e
        refine ⟨rs.set i0 p6, fun i => if i = i0 then l9 else L i, fun i => if i = i0 then d9 else D i, _, _, _, _, _, _, _, _, _, rfl, same_up (hk2.trans kAll) hra, ?_, ?_, ?_, fun b hb => ?_, fun s i hs hi => ?_, fun s i j hs hi hj => ?_⟩
        · rw [upd_same, List.map_set]
        · rw [List.length_set]; exact hW.len
        · exact nodup_set hW.nd pr
        · rcases List.mem_or_eq_of_mem_set hb with hb | rfl
          · obtain ⟨⟨xs, e⟩, h1, h2, h3⟩ := W6.ob b hb
            exact ⟨⟨xs, keepr _ _ h2 e⟩, h1, h2, h3⟩
          · exact ⟨⟨_, keepr _ _ p6r e6⟩, hk2.fresh n6, p6r, p6o⟩
        · by_cases est : s = t
          · subst est
            rw [hit] at hi
            cases hi
            refine ⟨p6, w9, p9, tm9, by rw [List.getElem?_set_self (by omega)], ?_⟩
            rw [if_pos rfl, if_pos rfl]
            exact keepr _ _ p6r e6
          · have hii : i ≠ i0 := fun z => by
              have h1 : s < ord.length := (List.getElem?_eq_some_iff.mp hi).1
              have h2 : ord[s] = i := (List.getElem?_eq_some_iff.mp hi).2
              exact est ((List.getElem_inj (h₀ := h1) (h₁ := hti) ordnd).mp (by rw [h2, hi0e]; exact z))
            obtain ⟨b, w, p, tm, h1, h2⟩ := W6.row s i (by omega) hi
            refine ⟨b, w, p, tm, by rw [List.getElem?_set_ne (Ne.symm hii)]; exact h1, ?_⟩
            rw [if_neg hii, if_neg hii]
            exact keepr _ _ (W6.ob b (List.mem_of_getElem? h1)).2.2.1 h2
        · by_cases est : s = t
          · subst est
            rw [hit] at hi
            cases hi
            rw [if_pos rfl] at hj
            exact hl9 j hj
          · have hii : i ≠ i0 := fun z => by
              have h1 : s < ord.length := (List.getElem?_eq_some_iff.mp hi).1
              have h2 : ord[s] = i := (List.getElem?_eq_some_iff.mp hi).2
              exact est ((List.getElem_inj (h₀ := h1) (h₁ := hti) ordnd).mp (by rw [h2, hi0e]; exact z))
            rw [if_neg hii] at hj
            exact W6.up s i j (by omega) hi hj
    generalize upd (upd (upd (upd H p1 (.lst [V.int 0, V.int 1, V.int 4, V.int 2, V.int 6])) p2 (.lst [V.str "in", V.str "out"])) p3 (.lst [V.str "ann", V.str "bo"])) p4 (.lst [V.str wy, V.int (c1 / 4 % 14 - 3), V.str pt, V.int tm, V.non]) = Ha at ka er ⊢
    have plain := kont _ Ha ⟨p4, wy, pt, _, tm, none, some (.int c1), some (.int c2), some (.int tm), some (.str wy), o10, o11, rfl, ka, er, fun j hj => nomatch hj⟩
    refine ⟨_, rfl, _, _, rfl, rfl, _, rfl, ?_⟩
    cases h1 : decide ((t : Int) > 0) with
    | false => exact onF rfl (onF rfl plain)
    | true =>
      have ht0 : 0 < t := by have := of_decide_eq_true h1; omega
      refine onT rfl ⟨_, rfl, _, _, rfl, rfl, (show (0 : Int) < 4 by decide), _, _, rfl, rfl, _, rfl, ?_⟩
      cases h2 : decide (c1 % 4 > 0) with
      | false => exact onF rfl plain
      | true =>
        refine onT rfl ?_
        have hSa := SqL.of (K := K) (hca2 ka)
        obtain ⟨c3, hc3⟩ := atI_ints (ns := cs) ht
        obtain ⟨j, s', hs', hj, hat⟩ := at_mod (ord := ord) (t := t) (by omega) ht0 (c3 / 3)
        have hoaa := ka _ _ (hk2 _ _ hoa1)
        refine ⟨_, rfl, _, rfl, _, rfl, ca, _, _, _, rfl, rfl, hSa, hc3, _, _, rfl, rfl, ⟨by decide, by decide⟩, _, rfl, _, _, rfl, rfl, (show (0 : Int) < (t : Int) by omega), oa, _, _, _, rfl, rfl, SqL.of hoaa, hat, ?_⟩
        dsimp only [gName]
        have Wa := hW.same ka
        obtain ⟨b, w1, pp1, tm1, hb1, hb2⟩ := Wa.row s' j hs' hj
        refine ⟨_, rfl, _, rfl, ra, _, _, V.ref b, rfl, rfl, SqL.of Wa.lst, atI_nat (by rw [List.getElem?_map, hb1]; rfl), ?_⟩
        dsimp only [gName]
        refine ⟨z2, fun p5 hp5 => ?_⟩
        have k5 := same_upd hp5 (.lst [V.str "in", V.str "out"])
        have hb5 := k5 _ _ hb2
        refine ⟨_, rfl, b, _, 0, _, rfl, rfl, SqL.of hb5, rfl, rfl, .inr ⟨_, rfl, ?_⟩⟩
        have pk : ∀ k : Bool, ∃ z, atI [V.str "in", V.str "out"] (if k = true then 1 else 0) = some (V.str z) := fun k => by cases k <;> exact ⟨_, rfl⟩
        refine ⟨p5, _, _, _, rfl, rfl, SqL.of upd_same, Classical.choose_spec (pk _), ?_⟩
        dsimp only [gName]
        generalize Classical.choose (pk _) = w2
        refine ⟨_, rfl, _, rfl, b, _, 1, _, rfl, rfl, SqL.of hb5, rfl, _, rfl, _, _, rfl, rfl, ⟨by decide, by decide⟩, _, _, rfl, rfl, (show (0 : Int) < 6 by decide), _, _, rfl, rfl, _, rfl, b, _, 2, _, rfl, rfl, SqL.of hb5, rfl, _, rfl, _, rfl, z5, fun p6 hp6 => ?_⟩
        exact kont _ _ ⟨p6, w2, pp1, _, tm, some j, _, _, _, _, _, _, rfl, ka.trans (k5.trans (same_upd hp6 _)), upd_same, fun j' hj' => by cases hj'; exact ⟨s', hs', hj⟩⟩
  · rintro σ H ⟨rs, L, D, o2, o4, o5, o6, o7, o8, o9, o10, o11, rfl, hk2, hW⟩
    refine ⟨_, rfl, _, rfl, z2, fun tp htp => ?_⟩
    have kt := same_upd htp (.tup [V.ref oa, V.ref ra])
    have hrsl : rs.length = cs.length := by rw [hW.len]; exact ordl
    have pos : ∀ i, i < cs.length → ∃ s, s < cs.length ∧ ord[s]? = some i ∧ ord.idxOf i = s := fun i hi => by
      have hm : i ∈ ord := hord.mem_iff.mpr (List.mem_range.mpr hi)
      have hlt : ord.idxOf i < ord.length := List.idxOf_lt_length_of_mem hm
      refine ⟨ord.idxOf i, by omega, ?_, rfl⟩
      rw [List.getElem?_eq_getElem hlt, List.getElem_idxOf hlt]
    have idx : ∀ s i, ord[s]? = some i → ord.idxOf i = s := fun s i h => by
      have h1 : s < ord.length := (List.getElem?_eq_some_iff.mp h).1
      have h2 : ord[s] = i := (List.getElem?_eq_some_iff.mp h).2
      have hm : i ∈ ord := List.mem_of_getElem? h
      have hlt : ord.idxOf i < ord.length := List.idxOf_lt_length_of_mem hm
      exact (List.getElem_inj (h₀ := hlt) (h₁ := h1) ordnd).mp (by rw [List.getElem_idxOf hlt, h2])
    refine q _ tp oa ra rs L (fun i => ord.idxOf i) D (hk1.trans (hk2.trans kt)) upd_same ⟨kt _ _ hW.lst, hrsl, fun i b hb => ?_⟩ hW.nd (fun b hb => ?_) (hk1.fresh hra) ⟨fun i j hi hl => ?_⟩ fun k hk => ?_
    · have hi : i < cs.length := by rw [← hrsl]; exact (List.getElem?_eq_some_iff.mp hb).1
      obtain ⟨s, hs, hsi, _⟩ := pos i hi
      obtain ⟨b', w, p, tm, e1, e2⟩ := hW.row s i hs hsi
      rw [hb] at e1
      cases e1
      exact ⟨_, kt _ _ e2, rfl, rfl⟩
    · obtain ⟨_, h1, h2, h3⟩ := hW.ob b hb
      exact ⟨hk1.fresh h1, h2, h3⟩
    · obtain ⟨s, hs, hsi, e⟩ := pos i hi
      obtain ⟨s', hs', hj⟩ := hW.up s i j hs hsi hl
      refine ⟨ordm j (List.mem_of_getElem? hj), ?_⟩
      show ord.idxOf j < ord.idxOf i
      rw [e, idx s' j hj]
      exact hs'
    · obtain ⟨s, hs, hsi, e⟩ := pos k hk
      show ord.idxOf k < cs.length
      rw [e]
      exact hs
end
end Thr
end

section
set_option Elab.async false
set_option linter.unusedVariables false
set_option maxRecDepth 100000
set_option maxHeartbeats 4000000
namespace L2
open PySem PySem.Spec PyProof.Rows
section
variable {X : Cx}
theorem op_neSame (hu : X.A.units < cLine) : OpR X (compareOp .NotEq) (fun x y H Q => ∃ (a b : Addr) (ns : List Nat), x = .ref a ∧ y = .ref b ∧ H a = some (.lst (ns.map fun i => V.int (i : Nat))) ∧ H b = some (.lst (ns.map fun i => V.int (i : Nat))) ∧ Q (.bl false) H) := by
  intro pins s σ H x y v u Q I rx ry h
  obtain ⟨a, b, ns, rfl, rfl, ha, hb, q⟩ := h
  cases rx
  cases ry
  obtain ⟨i1, r1, p1, _⟩ := I.list (SqL.of ha)
  obtain ⟨i2, r2, p2, _⟩ := I.list (SqL.of hb)
  have l1 : i1.length = ns.length := by rw [← r1.length, List.length_map]
  have l2 : i2.length = ns.length := by rw [← r2.length, List.length_map]
  have z := SeqAt.RcNeAt.lists (A := X.A) (s := s) (e := fun _ => true) p1.isList p2.isList (by rw [List.size_toArray, List.size_toArray, l1, l2]) hu (fun j h1 h2 => ?_)
  · refine z X.prog X.w X.xe _ ?_
    have e : (List.range i1.toArray.size).all (fun _ => true) = true := by simp
    rw [e]
    exact ⟨.bl false, H, I, rfl, q⟩
  · have hj : j < ns.length := by rw [List.size_toArray] at h1; omega
    have g : (ns.map fun i => V.int (i : Nat))[j]? = some (V.int (ns[j] : Nat)) := by rw [List.getElem?_map, List.getElem?_eq_getElem hj]; rfl
    obtain ⟨u1, e1, q1⟩ := r1.get g
    obtain ⟨u2, e2, q2⟩ := r2.get g
    have f1 : i1.toArray[j] = u1 := by
      have : i1[j]? = some i1.toArray[j] := by rw [List.getElem?_eq_getElem (by rw [List.size_toArray] at h1; exact h1)]; simp
      rw [this] at e1; cases e1; rfl
    have f2 : i2.toArray[j] = u2 := by
      have : i2[j]? = some i2.toArray[j] := by rw [List.getElem?_eq_getElem (by rw [List.size_toArray] at h2; exact h2)]; simp
      rw [this] at e2; cases e2; rfl
    rw [f1, f2]
    have zz := eqAt_V (A := X.A.in1) (s := s) q1 q2 rfl rfl
    have : eqV (V.int (ns[j] : Nat)) (V.int (ns[j] : Nat)) = true := by simp [eqV]
    rw [this] at zz
    exact zz
end
end L2
namespace Thr
open PySem L2 PyProof.Rows
open Stree (Road lexR lex2)
theorem RowsAt.sameT {H H' : Hp} {ra : Addr} {rs : List Addr} {n : Nat} {L : Nat → Option Nat} {D : Nat → Int} (h : RowsAt H ra rs n L D) (k : SameT H H') : RowsAt H' ra rs n L D :=
  ⟨k.lst h.lst, h.len, fun i b e => let ⟨xs, a, b⟩ := h.row i b e; ⟨xs, k.lst a, b⟩⟩
theorem cut_ints (ns : List Int) (a b : Nat) : cutV (ns.map V.int) (some (a : Int)) (some (b : Int)) = ((ns.drop a).take (b - a)).map V.int := by
  rw [cutV_nat, List.map_take, List.map_drop]
def spLaw (T : Addr) (K : PySem.W.Frag) : Sp := fun vs H Q _ => ∃ (a : Addr) (ns : List Int), vs = [.ref a] ∧ SqL K H a (ns.map V.int) ∧ ns.length ≤ 63 ∧ H T = some (.tbl #[]) ∧ ∀ H', Q (.bl true) H'
def ixV (H : Hp) (k : Nat) : V → V
  | .ref b => match H b with
    | some (.lst xs) => xs.getD k .non
    | _ => .non
  | _ => .non
theorem ixV_ref {H : Hp} {b : Addr} {xs : List V} {k : Nat} {v : V} (h : H b = some (.lst xs)) (e : xs[k]? = some v) : ixV H k (.ref b) = v := by
  show (match H b with | some (.lst xs) => xs.getD k .non | _ => V.non) = v
  rw [h]
  simp [List.getD, e]
theorem rows_ix {H : Hp} {ra : Addr} {rs : List Addr} {n : Nat} {L : Nat → Option Nat} {D : Nat → Int} (h : RowsAt H ra rs n L D) (k : Nat) (g : Nat → V) (hg : ∀ i b, rs[i]? = some b → ∃ xs, H b = some (.lst xs) ∧ xs[k]? = some (g i)) : (rs.map V.ref).map (ixV H k) = (List.range n).map g := by
  apply List.ext_getElem?
  intro i
  by_cases hi : i < n
  · have hi' : i < rs.length := by rw [h.len]; exact hi
    have hb := List.getElem?_eq_getElem hi'
    obtain ⟨xs, h1, h2⟩ := hg i _ hb
    rw [List.getElem?_map, List.getElem?_map, hb, List.getElem?_map, List.getElem?_range hi]
    show some (ixV H k (.ref rs[i])) = some (g i)
    rw [ixV_ref h1 h2]
  · rw [List.getElem?_eq_none (by rw [List.length_map, List.length_map, h.len]; omega), List.getElem?_eq_none (by rw [List.length_map, List.length_range]; omega)]
def linkD : Option Nat → Dt
  | none => .non
  | some j => .int (j : Nat)
theorem isAll_map {H : Hp} {α : Type} (f : α → V) (g : α → Dt) (h : ∀ a, Is H (f a) (g a)) : ∀ l : List α, IsAll H (l.map f) (l.map g)
  | [] => by rw [List.map_nil, List.map_nil]; unfold IsAll; trivial
  | a :: r => by rw [List.map_cons, List.map_cons]; unfold IsAll; exact ⟨h a, isAll_map f g h r⟩
theorem is_links {H : Hp} (n : Nat) (L : Nat → Option Nat) : IsAll H (linksV n L) ((List.range n).map fun i => linkD (L i)) :=
  isAll_map _ _ (fun i => by cases h : L i <;> simp only [linkV, linkD, h] <;> unfold Is <;> rfl) _
theorem is_dates {H : Hp} (n : Nat) (D : Nat → Int) : IsAll H (datesV n D) ((List.range n).map fun i => Dt.int (D i)) := isAll_map _ _ (fun i => by unfold Is; rfl) _
theorem sizes_map {α : Type} (g : α → Dt) (h : ∀ a, (g a).size = 1) : ∀ l : List α, sizes (l.map g) = l.length
  | [] => rfl
  | a :: r => by show (g a).size + sizes (r.map g) = r.length + 1; rw [h a, sizes_map g h r]; omega
/-- what the law's last loop keeps -/
structure Good (K : PySem.W.Frag) (Tb : Addr) (sa : Addr) (ns : List Int) (ra : Addr) (rs : List Addr) (n : Nat) (L : Nat → Option Nat) (D : Nat → Int) (la da l1 l2 ha : Addr) (H : Hp) : Prop where
  scr : SqL K H sa (ns.map V.int)
  rows : RowsAt H ra rs n L D
  hla : H la = some (.lst (linksV n L))
  hda : H da = some (.lst (datesV n D))
  hl1 : H l1 = some (.lst (linksV n L))
  hl2 : H l2 = some (.lst (datesV n D))
  hha : H ha = some (.lst [.ref l1, .ref l2])
  tab : TabP Tb H
theorem Good.go {K : PySem.W.Frag} {Tb sa : Addr} {ns : List Int} {ra : Addr} {rs : List Addr} {n : Nat} {L : Nat → Option Nat} {D : Nat → Int} {la da l1 l2 ha : Addr} {H H' : Hp} (g : Good K Tb sa ns ra rs n L D la da l1 l2 ha H) (k : SameT H H') (t : TabP Tb H') : Good K Tb sa ns ra rs n L D la da l1 l2 ha H' :=
  ⟨k.seq g.scr, g.rows.sameT k, k.lst g.hla, k.lst g.hda, k.lst g.hl1, k.lst g.hl2, k.lst g.hha, t⟩
theorem TabP.same {T : Addr} {H H' : Hp} (t : TabP T H) (k : Same H H') : TabP T H' := by
  rcases t with t | ⟨c', t1, t2⟩
  · exact .inl (k _ _ t)
  · exact .inr ⟨c', k _ _ t1, k _ _ t2⟩
theorem Good.same {K : PySem.W.Frag} {Tb sa : Addr} {ns : List Int} {ra : Addr} {rs : List Addr} {n : Nat} {L : Nat → Option Nat} {D : Nat → Int} {la da l1 l2 ha : Addr} {H H' : Hp} (g : Good K Tb sa ns ra rs n L D la da l1 l2 ha H) (k : Same H H') : Good K Tb sa ns ra rs n L D la da l1 l2 ha H' := g.go k.t (g.tab.same k)
section
variable {P : Program} {w : World} {K : PySem.W.Frag} {mg : Str → Option Value} {base : Heap} {f : Addr} {fd : FuncData} {Tb : Addr}
theorem sc_law : FnScope ["_law_script", "_law_rows", "_law_shift", "_law_row", "_law_links", "_law_dates", "_law_handed", "_law_k", "_law_number", "_law_found", "_law_one"] ["_law_script"] (defScope sLaw) := ⟨rfl, rfl, rfl, by decide +kernel, rfl, by decide +kernel, by decide +kernel⟩
theorem lc_law : LcScope ["_law_script", "_law_rows", "_law_shift", "_law_row", "_law_links", "_law_dates", "_law_handed", "_law_k", "_law_number", "_law_found", "_law_one"] (defScope sLaw) "_law_row" [] [] { kind := .function, names := [(".0", .local), ("_law_row", .local)], isGenerator := false, isCoroutine := false, more := [] } :=
  ⟨rfl, by decide +kernel, by decide +kernel, by decide +kernel, by decide +kernel, by decide +kernel, by decide +kernel, rfl, by decide +kernel⟩
theorem ok_law (T : Glob mg) (G_at : FnG P w K mg base 4 "_law_at" ["_law_script", "_law_k"] (spAt K)) (G_whole : FnG P w K mg base 4 "_law_whole" ["_law_found"] spWhole) (G_room : FnG P w K mg base 4 "_law_room" ["_law_script", "_law_most", "_law_bound"] (spRoom K))
    (G_forest : FnG P w K mg base 4 "_law_forest" ["_law_cells"] spForest) (G_family : FnG P w K mg base 4 "_law_family" ["_law_rows", "_law_number"] spFamily) (G_unturned : FnG P w K mg base 4 "_law_unturned" ["_law_found", "_law_due"] spUnturned)
    (G_thread : FnG P w K mg base 4 "thread" ["links", "dates", "number"] (spThread Tb)) (F : Fun K "law" "law" sLaw f fd) : FnOk P w K mg base CX0 5 f fd ["_law_script"] (spLaw Tb K) := by
  have sc := sc_law
  refine F.ok (k := 4) sc (fun vs H Q E h => by obtain ⟨a, ns, rfl, _⟩ := h; rfl) (fun cdv A outer s H0 vs Q E hr h => ?_)
  obtain ⟨sa, ns, rfl, hS, h63, hTab, q⟩ := h
  refine ⟨_, (pss_cons (ps_set (i := 1) sc.nd rfl (Or.inl rfl) (pe_ix ix_tup (pe_fn G_forest hr rfl (pa_cons (pe_slice sl_list (pv 0) (po_some pe_int) (po_some (pe_op op_add pe_int (pe_fn G_room hr rfl (pa_cons (pv 0) (pa_cons pe_int (pa_cons pe_int pa_nil))))))) pa_nil)) pe_int (fun _ _ => rfl)))
    (pss_cons (ps_if (pt_cmpR (op_eqNil hr.units0) (pv 1) (pe_lst pa_nil) (nomark _)) (pss_one (ps_ret pe_bl)) pss_nil)
    (pss_cons (ps_set (i := 2) sc.nd rfl (Or.inl rfl) (pe_op op_mul (pe_op op_mod (pe_fn G_at hr rfl (pa_cons (pv 0) (pa_cons pe_int pa_nil))) (pe_op op_pow pe_int pe_int)) (pe_ix ix_list (pe_lst (pa_cons pe_int (pa_cons pe_int (pa_cons pe_int (pa_cons (pe_un un_neg pe_int) pa_nil))))) (pe_op op_mod (pe_fn G_at hr rfl (pa_cons (pv 0) (pa_cons pe_int pa_nil))) pe_int) (fun _ _ => rfl))))
    (pss_cons (ps_for PassesOwn.never rfl (pi_list (pv 1)) (pg_name (i := 3) sc.nd rfl (Or.inl rfl)) (pss_one (ps_asg (pe_op op_add (pe_ix ix_list (pv 3) pe_int (fun _ _ => rfl)) (pv 2)) (pg_sub (pv 3) pe_int set_list))))
    (pss_cons (ps_lc (i := 4) lc_law rfl sc.nd rfl rfl (pi_list (pv 1)) (fun _ _ _ _ _ => pifs_nil) (fun _ _ _ _ _ => (pe_ix (show IxR _ (rIxL K) from ix_list) (pv 0) pe_int (fun _ _ => rfl))))
    (pss_cons (ps_lc (i := 5) lc_law rfl sc.nd rfl rfl (pi_list (pv 1)) (fun _ _ _ _ _ => pifs_nil) (fun _ _ _ _ _ => (pe_ix (show IxR _ (rIxL K) from ix_list) (pv 0) pe_int (fun _ _ => rfl))))
    (pss_cons (ps_set (i := 6) sc.nd rfl (Or.inl rfl) (pe_lst (pa_cons (pe_callTy call_list_of rfl T.b_list bt_list (pa_cons (pv 4) pa_nil)) (pa_cons (pe_callTy call_list_of rfl T.b_list bt_list (pa_cons (pv 5) pa_nil)) pa_nil))))
    (pss_cons (ps_for PassesOwn.never rfl (pi_range1 rfl T.b_range (pa_cons pe_int pa_nil)) (pg_name (i := 7) sc.nd rfl (Or.inl rfl)) (pss_cons (ps_set (i := 8) sc.nd rfl (Or.inl rfl) (pe_op op_mod (pe_fn G_at hr rfl (pa_cons (pv 0) (pa_cons (pv 7) pa_nil))) (pe_callB call_len_seq rfl T.b_len bt_len (pa_cons (pv 1) pa_nil))))
    (pss_cons (ps_set (i := 9) sc.nd rfl (Or.inl rfl) (pe_fn G_thread hr rfl (pa_cons (pe_ix ix_list (pv 6) pe_int (fun _ _ => rfl)) (pa_cons (pe_ix ix_list (pv 6) pe_int (fun _ _ => rfl)) (pa_cons (pv 8) pa_nil)))))
    (pss_cons (ps_if (PW.pt (pw_or (pt_not (pt_val (pe_fn G_unturned hr rfl (pa_cons (pv 6) (pa_cons (pe_lst (pa_cons (pv 4) (pa_cons (pv 5) pa_nil))) pa_nil))))) (pw_or1 (pt_not (pt_val (pe_callB call_isi rfl T.b_isinstance bt_isinstance (pa_cons (pv 9) (pa_cons (pe_bltn (v := .ty "list") rfl T.b_list bt_list rfl) pa_nil)))))))) (pss_one (ps_ret pe_bl)) pss_nil)
    (pss_cons (ps_for PassesOwn.never rfl (pi_list (pv 9)) (pg_name (i := 10) sc.nd rfl (Or.inl rfl)) (pss_one (ps_if (pt_not (pt_val (pe_fn G_whole hr rfl (pa_cons (pv 10) pa_nil)))) (pss_one (ps_ret pe_bl)) pss_nil)))
    (pss_one (ps_if (pt_cmpR (op_neSame hr.units0) (pv 9) (pe_fn G_family hr rfl (pa_cons (pv 1) (pa_cons (pv 8) pa_nil))) (nomark _)) (pss_one (ps_ret pe_bl)) pss_nil)))))))
    (pss_one (ps_ret pe_bl)))))))))), ?_⟩
  refine ⟨_, rfl, 3, rfl, _, rfl, sa, ns, 12, 60, rfl, hS, h63, _, _, rfl, rfl, 15, rfl, sa, _, rfl, hS, fun p1 hp1 => ?_⟩
  rw [show ((3 : Int)) = ((3 : Nat) : Int) from rfl, show ((15 : Int)) = ((15 : Nat) : Int) from rfl, cut_ints]
  have hcl : ((ns.drop 3).take 12).length ≤ 12 := by rw [List.length_take]; omega
  generalize (ns.drop 3).take 12 = cs at hcl
  have kp1 := same_upd hp1 (.lst (cs.map V.int))
  refine ⟨p1, cs, rfl, upd_same, hcl, fun H1 t oa ra rs L rk D k1 ht hR nd hrs hra hok hrk => ?_⟩
  have kA := kp1.trans k1
  refine ⟨t, _, 1, _, rfl, rfl, SqT.of ht, rfl, ?_⟩
  dsimp only [gName]
  have hT1 : TabP Tb H1 := .inl (kA _ _ hTab)
  refine ⟨_, rfl, z0, fun pn hpn => ?_⟩
  have kn := same_upd hpn (.lst [])
  refine ⟨ra, pn, _, rfl, rfl, SqL.of (kn _ _ hR.lst), SqL.of upd_same, _, rfl, ?_⟩
  by_cases hne : rs = []
  · subst hne
    exact onT rfl (q _)
  have hn0 : 0 < cs.length := by
    rw [← hR.len]
    exact List.length_pos_iff.mpr hne
  refine onF (by cases rs with | nil => exact absurd rfl hne | cons _ _ => rfl) ?_
  have kB := kA.trans kn
  have hRn := hR.same kn
  have hTn := hT1.same kn
  have hrn : ∀ b ∈ rs, H0 b = none ∧ b ≠ ra := fun b hb => ⟨kp1.fresh (hrs b hb).1, (hrs b hb).2.1⟩
  generalize upd H1 pn (.lst []) = H2 at kB hRn hTn ⊢
  have hS2 := Same.seq kB hS
  obtain ⟨sg, hsg, hs3⟩ : ∃ sg : Int, atI [V.int 0, V.int 0, V.int 1, V.int (-1)] (ns.getD 0 0 % 4) = some (.int sg) ∧ (sg = 0 ∨ sg = 1 ∨ sg = -1) := by
    have : ns.getD 0 0 % 4 = 0 ∨ ns.getD 0 0 % 4 = 1 ∨ ns.getD 0 0 % 4 = 2 ∨ ns.getD 0 0 % 4 = 3 := by omega
    rcases this with e | e | e | e <;> rw [e]
    · exact ⟨0, rfl, .inl rfl⟩
    · exact ⟨0, rfl, .inl rfl⟩
    · exact ⟨1, rfl, .inr (.inl rfl)⟩
    · exact ⟨-1, rfl, .inr (.inr rfl)⟩
  refine ⟨_, rfl, sa, ns, 1, rfl, hS2, _, _, rfl, rfl, ⟨by decide, by decide, by decide⟩, _, _, rfl, rfl, ?_, ?_⟩
  · show (0 : Int) < 10 ^ 60
    decide
  refine ⟨1, rfl, z4, fun p4 hp4 => ?_⟩
  have k4 := same_upd hp4 (.lst [V.int 0, V.int 0, V.int 1, V.int (-1)])
  refine ⟨_, rfl, sa, ns, 0, rfl, Same.seq k4 hS2, _, _, rfl, rfl, (show (0 : Int) < 4 by decide), p4, _, _, _, rfl, rfl, SqL.of upd_same, hsg, _, _, rfl, rfl, ?_, ?_⟩
  · right
    rcases hs3 with rfl | rfl | rfl <;> constructor <;> decide
  dsimp only [gName]
  have hS4 := Same.seq k4 hS2
  have hR4 := hRn.same k4
  have hT4 := hTn.same k4
  have kC := kB.trans k4
  generalize upd H2 p4 (.lst [V.int 0, V.int 0, V.int 1, V.int (-1)]) = H4 at hS4 hR4 hT4 kC ⊢
  generalize ns.getD 1 0 % 10 ^ (60 : Int).toNat * sg = shift
  have ran : ra ∉ rs := fun z => (hrn ra z).2 rfl
  have scn : ∀ {H : Hp}, (∀ b o, H4 b = some o → b ∉ rs → H b = some o) → SqL K H sa (ns.map V.int) := fun {H} h => by
    rcases hS with (e | ⟨o, e⟩) | e
    · exact .inl (.inl (h _ _ (kC _ _ e) fun z => by rw [(hrn _ z).1] at e; cases e))
    · exact .inl (.inr ⟨o, h _ _ (kC _ _ e) fun z => by rw [(hrn _ z).1] at e; cases e⟩)
    · exact .inr e
  refine ⟨_, rfl, ra, rfl, ⟨_, SqL.of hR4.lst⟩, ?_⟩
  refine for_list (xs := rs.map V.ref) (fun t σ H => ∃ o3, σ = [some (.ref sa), some (.ref ra), some (.int shift), o3, none, none, none, none, none, none, none] ∧ (∀ b o, H4 b = some o → b ∉ rs → H b = some o) ∧
    ∀ i b, rs[i]? = some b → ∃ xs, H b = some (.lst xs) ∧ xs[1]? = some (.int (if i < t then D i + shift else D i)) ∧ xs[4]? = some (linkV (L i))) ?_ ?_ ?_ ?_
  · exact ⟨none, rfl, fun b o e _ => e, fun i b hb => by
      obtain ⟨xs, e1, e2, e3⟩ := hR4.row i b hb
      exact ⟨xs, e1, by rw [if_neg (Nat.not_lt_zero _)]; exact e2, e3⟩⟩
  · rintro t σ H _ ⟨o3, rfl, h1, h2⟩
    exact SqL.of (h1 _ _ hR4.lst ran)
  · rintro t x σ H hx ⟨o3, rfl, h1, h2⟩
    rw [List.getElem?_map] at hx
    cases he : rs[t]? with
    | none => rw [he] at hx; cases hx
    | some b =>
      rw [he] at hx
      cases hx
      obtain ⟨xs, e1, e2, e3⟩ := h2 t b he
      rw [if_neg (Nat.lt_irrefl _)] at e2
      have hxl : 4 < xs.length := (List.getElem?_eq_some_iff.mp e3).1
      dsimp only [gName]
      refine ⟨_, rfl, b, _, 1, _, rfl, rfl, SqL.of e1, atI_nat (j := 1) e2, _, rfl, _, _, rfl, rfl, _, rfl, b, _, 1, 1, rfl, rfl, e1, ?_, _, rfl, fun c o hc hcn => ?_, fun i c hc => ?_⟩
      · unfold ixN
        rw [if_pos (by omega), if_pos (by omega)]
        rfl
      · rw [upd_ne (fun z => hcn (by rw [z]; exact List.mem_of_getElem? he))]
        exact h1 c o hc hcn
      · by_cases eit : i = t
        · subst eit
          rw [he] at hc
          cases hc
          refine ⟨_, upd_same, ?_, ?_⟩
          · rw [List.getElem?_set_self (by omega), if_pos (Nat.lt_succ_self _)]
          · rw [List.getElem?_set_ne (by decide)]
            exact e3
        · have hcb : c ≠ b := fun z => by
            have g1 := (List.getElem?_eq_some_iff.mp hc)
            have g2 := (List.getElem?_eq_some_iff.mp he)
            exact eit ((List.getElem_inj (h₀ := g1.1) (h₁ := g2.1) nd).mp (by rw [g1.2, g2.2]; exact z))
          obtain ⟨ys, y1, y2, y3⟩ := h2 i c hc
          refine ⟨ys, by rw [upd_ne hcb]; exact y1, ?_, y3⟩
          have : (if i < t + 1 then D i + shift else D i) = if i < t then D i + shift else D i := by
            by_cases h : i < t
            · rw [if_pos h, if_pos (by omega)]
            · rw [if_neg h, if_neg (by omega)]
          rw [this]
          exact y2
  rintro σ H5 ⟨o3, rfl, h1, h2⟩
  have hS5 := scn h1
  have hT5 : TabP Tb H5 := by
    refine .inl (h1 _ _ (kC _ _ hTab) fun z => ?_)
    rw [(hrn _ z).1] at hTab
    cases hTab
  have hR5 : RowsAt H5 ra rs cs.length L (fun i => D i + shift) := ⟨h1 _ _ hR4.lst ran, hR4.len, fun i b hb => by
    obtain ⟨xs, e1, e2, e3⟩ := h2 i b hb
    rw [List.length_map, if_pos (List.getElem?_eq_some_iff.mp hb).1] at e2
    exact ⟨xs, e1, e2, e3⟩⟩
  generalize (fun i => D i + shift) = D2 at hR5
  have ff : ∀ l : List V, l.filter (fun _ => true) = l := fun l => List.filter_eq_self.mpr fun _ _ => rfl
  -- the links
  refine ⟨_, rfl, ra, rfl, ⟨_, SqL.of hR5.lst⟩, fun la hla => ?_⟩
  refine lc_map (fun _ => true) (ixV H5 4) (SqL.of hR5.lst) hla (zn (by rw [List.length_map, hR5.len]; omega)) (fun v hv H' R _ hR' => hR') (fun v hv _ H' R hH hR' => ?_) ?_
  · obtain ⟨b, hb, rfl⟩ := List.mem_map.mp hv
    obtain ⟨i, hi, e⟩ := List.getElem_of_mem hb
    obtain ⟨xs, e1, e2, e3⟩ := hR5.row i b (by rw [List.getElem?_eq_getElem hi, e])
    rw [ixV_ref e1 e3] at hR'
    exact ⟨_, rfl, b, _, 4, _, rfl, rfl, SqL.of (by rw [hH b (ne_of_none e1 hla)]; exact e1), atI_nat (j := 4) e3, hR'⟩
  rw [ff, rows_ix hR5 4 (fun i => linkV (L i)) fun i b hb => by obtain ⟨xs, e1, e2, e3⟩ := hR5.row i b hb; exact ⟨xs, e1, e3⟩]
  dsimp only [gName]
  have k6 := same_upd hla (.lst ((List.range cs.length).map fun i => linkV (L i)))
  have hla6 : upd H5 la (.lst ((List.range cs.length).map fun i => linkV (L i))) la = some (.lst (linksV cs.length L)) := upd_same
  have hS6 := Same.seq k6 hS5
  have hR6 := hR5.same k6
  have hT6 := hT5.same k6
  generalize upd H5 la (.lst ((List.range cs.length).map fun i => linkV (L i))) = H6 at hla6 hS6 hR6 hT6 ⊢
  -- the days
  refine ⟨_, rfl, ra, rfl, ⟨_, SqL.of hR6.lst⟩, fun da hda => ?_⟩
  refine lc_map (fun _ => true) (ixV H6 1) (SqL.of hR6.lst) hda (zn (by rw [List.length_map, hR6.len]; omega)) (fun v hv H' R _ hR' => hR') (fun v hv _ H' R hH hR' => ?_) ?_
  · obtain ⟨b, hb, rfl⟩ := List.mem_map.mp hv
    obtain ⟨i, hi, e⟩ := List.getElem_of_mem hb
    obtain ⟨xs, e1, e2, e3⟩ := hR6.row i b (by rw [List.getElem?_eq_getElem hi, e])
    rw [ixV_ref e1 e2] at hR'
    exact ⟨_, rfl, b, _, 1, _, rfl, rfl, SqL.of (by rw [hH b (ne_of_none e1 hda)]; exact e1), atI_nat (j := 1) e2, hR'⟩
  rw [ff, rows_ix hR6 1 (fun i => .int (D2 i)) fun i b hb => by obtain ⟨xs, e1, e2, e3⟩ := hR6.row i b hb; exact ⟨xs, e1, e2⟩]
  dsimp only [gName]
  have k7 := same_upd hda (.lst ((List.range cs.length).map fun i => V.int (D2 i)))
  have hda7 : upd H6 da (.lst ((List.range cs.length).map fun i => V.int (D2 i))) da = some (.lst (datesV cs.length D2)) := upd_same
  have hla7 := k7 _ _ hla6
  have hS7 := Same.seq k7 hS6
  have hR7 := hR6.same k7
  have hT7 := hT6.same k7
  generalize upd H6 da (.lst ((List.range cs.length).map fun i => V.int (D2 i))) = H7 at hda7 hla7 hS7 hR7 hT7 ⊢
  refine ⟨_, rfl, la, _, rfl, .inl (SqL.of hla7), fun l1 hl1 => ?_⟩
  have k8 := same_upd hl1 (.lst (linksV cs.length L))
  refine ⟨_, rfl, da, _, rfl, .inl (SqL.of (k8 _ _ hda7)), fun l2 hl2 => ?_⟩
  have k9 := same_upd hl2 (.lst (datesV cs.length D2))
  refine ⟨z2, fun ha hha => ?_⟩
  have k10 := same_upd hha (.lst [V.ref l1, V.ref l2])
  dsimp only [gName]
  have kk := k8.trans (k9.trans k10)
  have G0 : Good K Tb sa ns ra rs cs.length L D2 la da l1 l2 ha (upd (upd (upd H7 l1 (.lst (linksV cs.length L))) l2 (.lst (datesV cs.length D2))) ha (.lst [V.ref l1, V.ref l2])) :=
    ⟨Same.seq kk hS7, hR7.same kk, kk _ _ hla7, kk _ _ hda7, k10 _ _ (k9 _ _ upd_same), k10 _ _ upd_same, upd_same, hT7.same kk⟩
  refine ⟨_, rfl, by decide, by decide, ?_⟩
  refine for_range (fun t σ H => ∃ o3 o7 o8 o9 o10, σ = [some (.ref sa), some (.ref ra), some (.int shift), o3, some (.ref la), some (.ref da), some (.ref ha), o7, o8, o9, o10] ∧ Good K Tb sa ns ra rs cs.length L D2 la da l1 l2 ha H) ?_ ?_ ?_
  · exact ⟨_, none, none, none, none, rfl, G0⟩
  · rintro t σ H ht ⟨o3, o7, o8, o9, o10, rfl, G⟩
    rw [Int.zero_add]
    dsimp only [gName]
    have hlr : (rs.map V.ref).length = cs.length := by rw [List.length_map, hR.len]
    obtain ⟨i, ei, hi⟩ : ∃ i : Nat, ns.getD t 0 % (((rs.map V.ref).length : Nat) : Int) = (i : Int) ∧ i < cs.length := by
      rw [hlr]
      have g1 := Int.emod_nonneg (ns.getD t 0) (show ((cs.length : Nat) : Int) ≠ 0 by omega)
      have g2 := Int.emod_lt_of_pos (ns.getD t 0) (show (0 : Int) < ((cs.length : Nat) : Int) by omega)
      exact ⟨(ns.getD t 0 % ((cs.length : Nat) : Int)).toNat, by omega, by omega⟩
    refine ⟨_, rfl, _, rfl, sa, ns, t, rfl, G.scr, _, rfl, ra, _, rfl, .inl (SqL.of G.rows.lst), _, _, rfl, rfl, (show (0 : Int) < (((rs.map V.ref).length : Nat) : Int) by rw [hlr]; omega), ?_⟩
    dsimp only [gName]
    rw [ei]
    refine ⟨_, rfl, ha, _, 0, _, rfl, rfl, SqL.of G.hha, rfl, _, rfl, ha, _, 1, _, rfl, rfl, SqL.of G.hha, rfl, _, rfl, ?_⟩
    refine ⟨l1, l2, cs.length, L, rk, D2, i, rfl, G.hl1, G.hl2, hok, hcl, hi, G.tab, fun H9 r told kT tT hr9 hpw hmem => ?_⟩
    have G9 := G.go kT tT
    dsimp only [gName]
    refine ⟨_, rfl, _, rfl, _, rfl, z2, fun pd hpd => ?_⟩
    have kd := same_upd hpd (.lst [V.ref la, V.ref da])
    have G10 := G9.same kd
    have isd : ∀ {x y z : Addr}, upd H9 pd (.lst [V.ref la, V.ref da]) x = some (.lst [.ref y, .ref z]) → upd H9 pd (.lst [V.ref la, V.ref da]) y = some (.lst (linksV cs.length L)) → upd H9 pd (.lst [V.ref la, V.ref da]) z = some (.lst (datesV cs.length D2)) →
        Is (upd H9 pd (.lst [V.ref la, V.ref da])) (.ref x) (.lst [.lst ((List.range cs.length).map fun i => linkD (L i)), .lst ((List.range cs.length).map fun i => Dt.int (D2 i))]) := fun {x y z} e1 e2 e3 => by
      unfold Is
      refine ⟨x, _, rfl, e1, ?_⟩
      unfold IsAll
      refine ⟨?_, ?_⟩
      · unfold Is
        exact ⟨y, _, rfl, e2, is_links _ _⟩
      · unfold IsAll
        refine ⟨?_, ?_⟩
        · unfold Is
          exact ⟨z, _, rfl, e3, is_dates _ _⟩
        · unfold IsAll
          trivial
    refine ⟨_, _, _, rfl, isd G10.hha G10.hl1 G10.hl2, isd upd_same G10.hla G10.hda, ?_, fun H11 k11 => ⟨_, rfl, onF rfl ?_⟩⟩
    · show 1 + (Dt.size (.lst ((List.range cs.length).map fun i => linkD (L i))) + (Dt.size (.lst ((List.range cs.length).map fun i => Dt.int (D2 i))) + 0)) ≤ 1000
      have s1 : Dt.size (.lst ((List.range cs.length).map fun i => linkD (L i))) = 1 + cs.length := by
        show 1 + sizes _ = _
        rw [sizes_map _ (fun i => by cases L i <;> rfl), List.length_range]
      have s2 : Dt.size (.lst ((List.range cs.length).map fun i => Dt.int (D2 i))) = 1 + cs.length := by
        show 1 + sizes _ = _
        rw [sizes_map _ (fun i => rfl), List.length_range]
      rw [s1, s2]
      omega
    have G11 := G10.same k11
    have hr11 := k11 _ _ (kd _ _ hr9)
    refine ⟨_, rfl, _, "list", _, _, rfl, .lst hr11, ki_list_list _, _, rfl, onF rfl ?_⟩
    refine ⟨_, rfl, r, rfl, ⟨_, SqL.of hr11⟩, ?_⟩
    refine for_list (xs := told.map fun i => V.int (i : Nat)) (fun u σ H => ∃ o10, σ = [some (.ref sa), some (.ref ra), some (.int shift), o3, some (.ref la), some (.ref da), some (.ref ha), some (.int (t : Nat)), some (.int (i : Nat)), some (.ref r), o10] ∧ H = H11) ?_ ?_ ?_ ?_
    · exact ⟨_, rfl, rfl⟩
    · rintro u σ H _ ⟨o10, rfl, rfl⟩
      exact SqL.of hr11
    · rintro u x σ H hx ⟨o10, rfl, rfl⟩
      obtain ⟨k, hk, rfl⟩ := List.mem_map.mp (List.mem_of_getElem? hx)
      dsimp only [gName]
      exact ⟨_, rfl, _, rfl, _, rfl, onF rfl ⟨_, rfl, rfl⟩⟩
    · rintro σ H ⟨o10, rfl, rfl⟩
      refine ⟨_, rfl, _, rfl, _, rfl, ra, rs, cs.length, L, rk, D2, i, rfl, G11.rows, hok, hcl, hi, hrk, fun H12 r2 out k12 hr2 hpw2 hmem2 => ?_⟩
      have eq : told = out := Stree.uniq (lt := fun x y => lexR (Fm.rd L D2 rk x) (Fm.rd L D2 rk y) = true) (fun a h => by rw [Stree.lexR_irr] at h; cases h) (fun a b c h1 h2 => Stree.lexR_tr h1 h2) hpw hpw2 fun k => by rw [hmem k, hmem2 k]
      subst eq
      refine ⟨r, r2, told, rfl, rfl, k12 _ _ hr11, hr2, _, rfl, onF rfl ?_⟩
      exact ⟨_, _, _, _, _, rfl, G11.same k12⟩
  · rintro σ H ⟨o3, o7, o8, o9, o10, rfl, G⟩
    exact q H
end
end Thr
end

set_option Elab.async false
set_option linter.unusedVariables false
set_option maxRecDepth 100000
set_option maxHeartbeats 4000000
namespace Thr
open PySem L2 PyProof.Rows
theorem all_mk {l : PySem.W.OpenLaw} {w : World} {K : PySem.W.Frag} {h : Heap} {mg : Str → Option Value} {fa f1 f2 f3 f4 f5 f6 f7 f8 f9 f10 : Addr} {od1 an1 od2 an2 od3 an3 od4 an4 od5 an5 od6 an6 od7 an7 od8 an8 od9 an9 od10 an10 : Option Addr} {sl1 sl2 sl3 sl4 sl5 sl6 sl7 sl8 sl9 sl10 : Array (Option Value)} {oc1 kV1 dc1 pm1 cd1 ct1 oc2 kV2 dc2 pm2 cd2 ct2 oc3 kV3 dc3 pm3 ct3 oc4 kV4 dc4 pm4 cd4 ct4 oc5 kV5 dc5 pm5 cd5 ct5 oc6 kV6 dc6 pm6 cd6 ct6 oc7 kV7 dc7 pm7 cd7 ct7 oc8 kV8 dc8 pm8 cd8 ct8 oc9 kV9 dc9 pm9 cd9 ct9 oc10 kV10 dc10 pm10 cd10 ct10 : Value} {cA tA : Addr} (X : K.In h) (G : h.Ns mainGlobals mg) (hfa : mg "law" = some (.ref fa))
    (a1 : PySem.W.nsIn K mainGlobals "thread" = some (some (.ref f1)))
    (l1 : K.lookup f1 = some ⟨oc1, od1, .func (PySem.W.fnOf "thread" "thread" (defArgs sThread) (defBody sThread) (defScope sThread) .none kV1 dc1 pm1 an1 cd1 ct1), sl1⟩)
    (c1 : PySem.W.codeIn K cd1 "thread" = true) (k1 : PySem.W.keepIn K (.ref f1) = true)
    (a2 : PySem.W.nsIn K mainGlobals "top_of" = some (some (.ref f2)))
    (l2 : K.lookup f2 = some ⟨oc2, od2, .func (PySem.W.fnOf "top_of" "top_of" (defArgs sTopOf) (defBody sTopOf) (defScope sTopOf) .none kV2 dc2 pm2 an2 cd2 ct2), sl2⟩)
    (c2 : PySem.W.codeIn K cd2 "top_of" = true) (k2 : PySem.W.keepIn K (.ref f2) = true)
    (a3 : PySem.W.nsIn K mainGlobals "answers_to_each" = some (some (.ref f3)))
    (l3 : K.lookup f3 = some ⟨oc3, od3, .func (PySem.W.fnOf "answers_to_each" "answers_to_each" (defArgs sAns) (defBody sAns) (defScope sAns) .none kV3 dc3 pm3 an3 (.ref cA) ct3), sl3⟩)
    (c3 : PySem.W.codeIn K (.ref cA) "answers_to_each" = true) (k3 : PySem.W.keepIn K (.ref f3) = true)
    (a4 : PySem.W.nsIn K mainGlobals "_law_unturned" = some (some (.ref f4)))
    (l4 : K.lookup f4 = some ⟨oc4, od4, .func (PySem.W.fnOf "_law_unturned" "_law_unturned" (defArgs sUnturned) (defBody sUnturned) (defScope sUnturned) .none kV4 dc4 pm4 an4 cd4 ct4), sl4⟩)
    (c4 : PySem.W.codeIn K cd4 "_law_unturned" = true) (k4 : PySem.W.keepIn K (.ref f4) = true)
    (a5 : PySem.W.nsIn K mainGlobals "_law_room" = some (some (.ref f5)))
    (l5 : K.lookup f5 = some ⟨oc5, od5, .func (PySem.W.fnOf "_law_room" "_law_room" (defArgs sRoom) (defBody sRoom) (defScope sRoom) .none kV5 dc5 pm5 an5 cd5 ct5), sl5⟩)
    (c5 : PySem.W.codeIn K cd5 "_law_room" = true) (k5 : PySem.W.keepIn K (.ref f5) = true)
    (a6 : PySem.W.nsIn K mainGlobals "_law_whole" = some (some (.ref f6)))
    (l6 : K.lookup f6 = some ⟨oc6, od6, .func (PySem.W.fnOf "_law_whole" "_law_whole" (defArgs sWhole) (defBody sWhole) (defScope sWhole) .none kV6 dc6 pm6 an6 cd6 ct6), sl6⟩)
    (c6 : PySem.W.codeIn K cd6 "_law_whole" = true) (k6 : PySem.W.keepIn K (.ref f6) = true)
    (a7 : PySem.W.nsIn K mainGlobals "_law_at" = some (some (.ref f7)))
    (l7 : K.lookup f7 = some ⟨oc7, od7, .func (PySem.W.fnOf "_law_at" "_law_at" (defArgs sAt) (defBody sAt) (defScope sAt) .none kV7 dc7 pm7 an7 cd7 ct7), sl7⟩)
    (c7 : PySem.W.codeIn K cd7 "_law_at" = true) (k7 : PySem.W.keepIn K (.ref f7) = true)
    (a8 : PySem.W.nsIn K mainGlobals "_law_family" = some (some (.ref f8)))
    (l8 : K.lookup f8 = some ⟨oc8, od8, .func (PySem.W.fnOf "_law_family" "_law_family" (defArgs sFamily) (defBody sFamily) (defScope sFamily) .none kV8 dc8 pm8 an8 cd8 ct8), sl8⟩)
    (c8 : PySem.W.codeIn K cd8 "_law_family" = true) (k8 : PySem.W.keepIn K (.ref f8) = true)
    (a9 : PySem.W.nsIn K mainGlobals "_law_forest" = some (some (.ref f9)))
    (l9 : K.lookup f9 = some ⟨oc9, od9, .func (PySem.W.fnOf "_law_forest" "_law_forest" (defArgs sForest) (defBody sForest) (defScope sForest) .none kV9 dc9 pm9 an9 cd9 ct9), sl9⟩)
    (c9 : PySem.W.codeIn K cd9 "_law_forest" = true) (k9 : PySem.W.keepIn K (.ref f9) = true)
    (a10 : PySem.W.nsIn K mainGlobals "law" = some (some (.ref f10)))
    (l10 : K.lookup f10 = some ⟨oc10, od10, .func (PySem.W.fnOf "law" "law" (defArgs sLaw) (defBody sLaw) (defScope sLaw) .none kV10 dc10 pm10 an10 cd10 ct10), sl10⟩)
    (c10 : PySem.W.codeIn K cd10 "law" = true) (k10 : PySem.W.keepIn K (.ref f10) = true)
    (z0 : PySem.W.nsIn K mainGlobals "len" = some none)
    (z1 : PySem.W.nsIn K mainGlobals "sorted" = some none)
    (z2 : PySem.W.nsIn K mainGlobals "isinstance" = some none)
    (z3 : PySem.W.nsIn K mainGlobals "int" = some none)
    (z4 : PySem.W.nsIn K mainGlobals "str" = some none)
    (z5 : PySem.W.nsIn K mainGlobals "bool" = some none)
    (z6 : PySem.W.nsIn K mainGlobals "list" = some none)
    (z7 : PySem.W.nsIn K mainGlobals "tuple" = some none)
    (z8 : PySem.W.nsIn K mainGlobals "range" = some none)
    (tb : PySem.W.codeHdIn K cA tA = true) (tn : K.lookup tA = none)
    : ∃ (fd : FuncData) (c : Addr), PySem.W.codeHdIn K c tA = true ∧ K.lookup tA = none ∧ (∀ (s : Shared) (v : Value), BindsTo s fd ⟨[v], []⟩ [("_law_script", v)]) ∧ ∀ base : Heap, K.In base → base.Ns mainGlobals mg → PySem.W.CodeHd base c tA → base.BuiltinsAt mg tA → FnOk l.prog w K mg base CX0 5 fa fd ["_law_script"] (spLaw tA K) := by
  have e := hfa.symm.trans (PySem.W.mg_of X G a10)
  cases e
  have F1 := fun_mk (st := sThread) l1 c1 k1
  have b1 := F1.binds (ps := ["links", "dates", "number"]) fun _ _ _ _ _ _ us hl => match us, hl with | [_, _, _], _ => rfl
  have m1 := PySem.W.mg_of X G a1
  have F2 := fun_mk (st := sTopOf) l2 c2 k2
  have b2 := F2.binds (ps := ["links", "number"]) fun _ _ _ _ _ _ us hl => match us, hl with | [_, _], _ => rfl
  have m2 := PySem.W.mg_of X G a2
  have F3 := fun_mk (st := sAns) l3 c3 k3
  have b3 := F3.binds (ps := ["links", "dates"]) fun _ _ _ _ _ _ us hl => match us, hl with | [_, _], _ => rfl
  have m3 := PySem.W.mg_of X G a3
  have F4 := fun_mk (st := sUnturned) l4 c4 k4
  have b4 := F4.binds (ps := ["_law_found", "_law_due"]) fun _ _ _ _ _ _ us hl => match us, hl with | [_, _], _ => rfl
  have m4 := PySem.W.mg_of X G a4
  have F5 := fun_mk (st := sRoom) l5 c5 k5
  have b5 := F5.binds (ps := ["_law_script", "_law_most", "_law_bound"]) fun _ _ _ _ _ _ us hl => match us, hl with | [_, _, _], _ => rfl
  have m5 := PySem.W.mg_of X G a5
  have F6 := fun_mk (st := sWhole) l6 c6 k6
  have b6 := F6.binds (ps := ["_law_found"]) fun _ _ _ _ _ _ us hl => match us, hl with | [_], _ => rfl
  have m6 := PySem.W.mg_of X G a6
  have F7 := fun_mk (st := sAt) l7 c7 k7
  have b7 := F7.binds (ps := ["_law_script", "_law_k"]) fun _ _ _ _ _ _ us hl => match us, hl with | [_, _], _ => rfl
  have m7 := PySem.W.mg_of X G a7
  have F8 := fun_mk (st := sFamily) l8 c8 k8
  have b8 := F8.binds (ps := ["_law_rows", "_law_number"]) fun _ _ _ _ _ _ us hl => match us, hl with | [_, _], _ => rfl
  have m8 := PySem.W.mg_of X G a8
  have F9 := fun_mk (st := sForest) l9 c9 k9
  have b9 := F9.binds (ps := ["_law_cells"]) fun _ _ _ _ _ _ us hl => match us, hl with | [_], _ => rfl
  have m9 := PySem.W.mg_of X G a9
  have F10 := fun_mk (st := sLaw) l10 c10 k10
  have T : Glob mg := ⟨PySem.W.mg_none_of X G z0, PySem.W.mg_none_of X G z1, PySem.W.mg_none_of X G z2, PySem.W.mg_none_of X G z3, PySem.W.mg_none_of X G z4, PySem.W.mg_none_of X G z5, PySem.W.mg_none_of X G z6, PySem.W.mg_none_of X G z7, PySem.W.mg_none_of X G z8⟩
  refine ⟨PySem.W.fnOf "law" "law" (defArgs sLaw) (defBody sLaw) (defScope sLaw) .none kV10 dc10 pm10 an10 cd10 ct10, cA, tb, tn, fun s v => .of_eq rfl, fun base _ _ hC hB => ?_⟩
  have G2 : FnG l.prog w K mg base 1 "top_of" ["links", "number"] (spTop K) := ⟨f2, _, ok_topOf T F2, b2, k2, m2⟩
  have G3 : FnG l.prog w K mg base 2 "answers_to_each" ["links", "dates"] (spAns tA) := ⟨f3, _, ok_ans T hC hB l3 c3, b3, k3, m3⟩
  have G1 : FnG l.prog w K mg base 3 "thread" ["links", "dates", "number"] (spThread tA) := ⟨f1, _, ok_thread T G3 (G2.mono (by decide)) F1, b1, k1, m1⟩
  have G4 : FnG l.prog w K mg base 1 "_law_unturned" ["_law_found", "_law_due"] spUnturned := ⟨f4, _, ok_unturned T F4, b4, k4, m4⟩
  have G5 : FnG l.prog w K mg base 1 "_law_room" ["_law_script", "_law_most", "_law_bound"] (spRoom K) := ⟨f5, _, ok_room T F5, b5, k5, m5⟩
  have G6 : FnG l.prog w K mg base 1 "_law_whole" ["_law_found"] spWhole := ⟨f6, _, ok_whole T F6, b6, k6, m6⟩
  have G7 : FnG l.prog w K mg base 1 "_law_at" ["_law_script", "_law_k"] (spAt K) := ⟨f7, _, ok_at T F7, b7, k7, m7⟩
  have G8 : FnG l.prog w K mg base 2 "_law_family" ["_law_rows", "_law_number"] spFamily := ⟨f8, _, ok_family T F8, b8, k8, m8⟩
  have G9 : FnG l.prog w K mg base 1 "_law_forest" ["_law_cells"] spForest := ⟨f9, _, ok_forest T F9, b9, k9, m9⟩
  exact ok_law T (G7.mono (by decide)) (G6.mono (by decide)) (G5.mono (by decide)) (G9.mono (by decide)) (G8.mono (by decide)) (G4.mono (by decide)) (G1.mono (by decide)) F10
theorem walk {l : PySem.W.OpenLaw} {q : Program} {loose : List Str} {XP : (Str → Option Value) → Heap → Prop} {YP : World → Heap → Prop} {d : DefRec} {K : Params → PySem.W.Frag} {T : Addr} (hn : l.most = some 63) (hdf : d.params.defaults = [])
    (hY : ∀ (w : World) (h : Heap), YP w h → (K w.params).In h) (hTb : ∀ (w : World) (h : Heap), YP w h → h.get? T = some (PySem.W.tabObj #[]))
    (F : ∀ (w : World) (mg : Str → Option Value) (fa : Addr) (h : Heap), (K w.params).In h → h.Ns mainGlobals mg → mg d.name = some (.ref fa) →
      ∃ (fd : FuncData) (c : Addr), PySem.W.codeHdIn (K w.params) c T = true ∧ (K w.params).lookup T = none ∧ (∀ (s : Shared) (u : Value), BindsTo s fd ⟨[u], []⟩ [("_law_script", u)]) ∧ ∀ base : Heap, (K w.params).In base → base.Ns mainGlobals mg → PySem.W.CodeHd base c T → base.BuiltinsAt mg T → FnOk l.prog w (K w.params) mg base CX0 5 fa fd ["_law_script"] (spLaw T (K w.params))) :
    PySem.W.WalkO q loose XP YP l.row.toRowW d [] (fun f vs => PySem.call f vs) :=
  L2.walk_ofT (n := 63) (k := 5) (x := "_law_script") (CX := CX0) (sp := spLaw) hn (by decide) hdf ⟨rfl, by decide, by decide⟩ hY hTb F (fun _ _ a ns hl hT hS => ⟨a, ns, rfl, hS, hl, hT, fun _ => rfl⟩) fun _ _ _ _ z => z
end Thr
open PySem PySem.W PyProof.Rows
set_option maxRecDepth 100000 in
set_option maxHeartbeats 0 in
theorem PySem.Challenge.cw_letterdesk_k03_thread_holds : PySem.Challenge.rw_letterdesk_k03_thread.Holds := by
  w_on; o_law; k_head; (case hw => w_witness2)
  k_fill
  refine Thr.walk (l := PySem.Challenge.rw_letterdesk_k03_thread) rfl rfl (fun w h Y => PySem.W.km_in_of Y) (fun w h Y => PySem.W.km_tabs_of Y _ (List.mem_cons_self ..)) ?F
  case F =>
    intro w mg fa h KX G hmg
    refine' Thr.all_mk KX G hmg ?a1 ?l1 ?c1 ?k1 ?a2 ?l2 ?c2 ?k2 ?a3 ?l3 ?c3 ?k3 ?a4 ?l4 ?c4 ?k4 ?a5 ?l5 ?c5 ?k5 ?a6 ?l6 ?c6 ?k6 ?a7 ?l7 ?c7 ?k7 ?a8 ?l8 ?c8 ?k8 ?a9 ?l9 ?c9 ?k9 ?a10 ?l10 ?c10 ?k10 ?z0 ?z1 ?z2 ?z3 ?z4 ?z5 ?z6 ?z7 ?z8 ?tb ?tn
    (case a1 => k_is)
    (case l1 => k_is)
    (case c1 => k_is)
    (case k1 => k_is)
    (case a2 => k_is)
    (case l2 => k_is)
    (case c2 => k_is)
    (case k2 => k_is)
    (case a3 => k_is)
    (case l3 => k_is)
    (case c3 => k_is)
    (case k3 => k_is)
    (case a4 => k_is)
    (case l4 => k_is)
    (case c4 => k_is)
    (case k4 => k_is)
    (case a5 => k_is)
    (case l5 => k_is)
    (case c5 => k_is)
    (case k5 => k_is)
    (case a6 => k_is)
    (case l6 => k_is)
    (case c6 => k_is)
    (case k6 => k_is)
    (case a7 => k_is)
    (case l7 => k_is)
    (case c7 => k_is)
    (case k7 => k_is)
    (case a8 => k_is)
    (case l8 => k_is)
    (case c8 => k_is)
    (case k8 => k_is)
    (case a9 => k_is)
    (case l9 => k_is)
    (case c9 => k_is)
    (case k9 => k_is)
    (case a10 => k_is)
    (case l10 => k_is)
    (case c10 => k_is)
    (case k10 => k_is)
    (case z0 => k_is)
    (case z1 => k_is)
    (case z2 => k_is)
    (case z3 => k_is)
    (case z4 => k_is)
    (case z5 => k_is)
    (case z6 => k_is)
    (case z7 => k_is)
    (case z8 => k_is)
    (case tb => kernel_rfl)
    (case tn => kernel_rfl)
#print axioms PySem.Challenge.cw_letterdesk_k03_thread_holds
