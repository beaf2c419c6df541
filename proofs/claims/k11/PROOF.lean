import PyProof.Rows.All
import Wide.All
import OpenK.AllK
import Wide.FinOn
import Lean
import PyProof.EqAt
import PyProof.EqKinds
import PyProof.TupleCall
import PyProof.ConsumeWalk
import PyProof.CompFree
import PySem.Challenge.RW_fewspaces_k11_spaces_and_rows_looked_at
set_option Elab.async false
set_option linter.all false
set_option maxRecDepth 100000
/-! THE HAND LAYER, for ints, bools, texts, own classes, LISTS and tuples (index, slices, in, append, pop ..), calls, loops. Paste it whole ahead of your own text; what your proof does not reach may be deleted. -/
namespace L2
open PySem PySem.Spec PyProof.Rows

/-- a key: an int or a str -/
abbrev Key := Sum Int Str
def keyIs : Key → Value → Bool
  | .inl k, v => Value.isInt k v
  | .inr x, v => Value.isStrOf x v
def keyH (w : World) : Key → Int
  | .inl k => hashInt k
  | .inr x => hashStr w x
theorem keyIs_shape : ∀ {k : Key} {v : Value}, keyIs k v = true → (∃ i t, k = Sum.inl i ∧ v = Value.int i t) ∨ (∃ x t, k = Sum.inr x ∧ v = Value.str x t)
  | .inl i, v, h => by
    obtain ⟨t, e⟩ := Value.isInt_shape (k := i) (v := v) h
    exact .inl ⟨i, t, rfl, e⟩
  | .inr x, v, h => by
    obtain ⟨t, e⟩ := Value.isStrOf_shape (x := x) (v := v) h
    exact .inr ⟨x, t, rfl, e⟩
theorem keyIs_int (i : Int) (t : Tok) : keyIs (.inl i) (.int i t) = true := by simp [keyIs, Value.isInt]
theorem keyIs_str (x : Str) (t : Tok) : keyIs (.inr x) (.str x t) = true := by simp [keyIs, Value.isStrOf]
theorem key_ll (a b : Int) : decide ((Sum.inl a : Key) = Sum.inl b) = (a == b) := by
  by_cases e : a = b
  · subst e; simp
  · have h : ¬ (Sum.inl a : Key) = Sum.inl b := fun q => e (Sum.inl.inj q)
    rw [decide_eq_false h]
    exact (beq_eq_false_iff_ne.mpr e).symm
theorem key_rr (a b : Str) : decide ((Sum.inr a : Key) = Sum.inr b) = decide (a = b) := by
  by_cases e : a = b
  · subst e; simp
  · have h : ¬ (Sum.inr a : Key) = Sum.inr b := fun q => e (Sum.inr.inj q)
    rw [decide_eq_false h, decide_eq_false e]
theorem key_lr (a : Int) (b : Str) : decide ((Sum.inl a : Key) = Sum.inr b) = false := decide_eq_false (fun q => nomatch q)
theorem key_rl (a : Str) (b : Int) : decide ((Sum.inr a : Key) = Sum.inl b) = false := decide_eq_false (fun q => nomatch q)

def mixKind (prog : Program) (w : World) : PySem.KeyKind prog w Key where
  is := keyIs
  hash := keyH w
  inj := fun v a b ha hb => by
    rcases keyIs_shape ha with ⟨i, t, rfl, rfl⟩ | ⟨x, t, rfl, rfl⟩
    · rcases keyIs_shape hb with ⟨j, u, rfl, e⟩ | ⟨y, u, rfl, e⟩
      · injection e with e1 _; rw [e1]
      · exact nomatch e
    · rcases keyIs_shape hb with ⟨j, u, rfl, e⟩ | ⟨y, u, rfl, e⟩
      · exact nomatch e
      · injection e with e1 _; rw [e1]
  byValue := fun k v h => by
    rcases keyIs_shape h with ⟨i, t, rfl, rfl⟩ | ⟨x, t, rfl, rfl⟩ <;> rfl
  pyHash := fun hv h => by
    rcases keyIs_shape hv with ⟨i, t, rfl, rfl⟩ | ⟨x, t, rfl, rfl⟩
    · exact wpAny_pyHash_int h
    · exact wpAny_pyHash_str h
  eqBool := fun hu hv h => by
    rcases keyIs_shape hu with ⟨i, t, rfl, rfl⟩ | ⟨x, t, rfl, rfl⟩
    · rcases keyIs_shape hv with ⟨j, u, rfl, rfl⟩ | ⟨y, u, rfl, rfl⟩
      · rw [key_ll] at h; exact wpAny_eqBool_int h
      · rw [key_lr] at h; exact SeqAt.EqAt.int_str i t y u _ _ _ _ h
    · rcases keyIs_shape hv with ⟨j, u, rfl, rfl⟩ | ⟨y, u, rfl, rfl⟩
      · rw [key_rl] at h; exact SeqAt.EqAt.str_int x t j u _ _ _ _ h
      · rw [key_rr] at h; exact wpAny_eqBool_str h
  «strs» := fun k x t v h => by
    rcases keyIs_shape h with ⟨i, u, rfl, e⟩ | ⟨y, u, rfl, e⟩
    · exact nomatch e
    · injection e with e1 _
      subst e1
      cases v <;> rfl

theorem mixKind_is (prog : Program) (w : World) (k : Key) (v : Value) : (mixKind prog w).is k v = keyIs k v := rfl
theorem mixKind_int (prog : Program) (w : World) (i : Int) (t : Tok) : (mixKind prog w).is (.inl i) (.int i t) = true := keyIs_int i t
theorem mixKind_str (prog : Program) (w : World) (x : Str) (t : Tok) : (mixKind prog w).is (.inr x) (.str x t) = true := keyIs_str x t
end L2

namespace L2
open PySem PySem.Spec PyProof.Rows

/-- a value, without the heap -/
inductive V where
  | non | bl (b : Bool) | int (i : Int) | str (x : Str) | byt (b : Array UInt8) | flt (b : UInt64) | ref (a : Addr) | ty (n : String)
  deriving DecidableEq

def RelV : V → Value → Prop
  | .non, u => u = Value.none
  | .bl b, u => u = Value.bool b
  | .int i, u => ∃ t, u = Value.int i t
  | .str x, u => ∃ t, u = Value.str x t
  | .byt b, u => ∃ t, u = Value.bytes b t
  | .flt b, u => ∃ t, u = Value.float b t
  | .ref a, u => u = Value.ref a
  | .ty n, u => u = Value.type n

abbrev Vals : List V → List Value → Prop := Paired RelV
theorem Vals.length {xs : List V} {us : List Value} (r : Vals xs us) : xs.length = us.length := Paired.length r
theorem Vals.get : ∀ {xs : List V} {us : List Value} {i : Nat} {x : V}, Vals xs us → xs[i]? = some x → ∃ u, us[i]? = some u ∧ RelV x u
  | _, _, _, _, .nil, e => by simp at e
  | _, _, 0, _, .cons r _, e => by simp at e; subst e; exact ⟨_, rfl, r⟩
  | _, _, i + 1, x, .cons _ t, e => by
    obtain ⟨u, h1, h2⟩ := Vals.get (i := i) (x := x) t (by simpa using e)
    exact ⟨u, by simpa using h1, h2⟩
theorem Vals.set {x : V} {u : Value} (r : RelV x u) : ∀ {xs : List V} {us : List Value} (i : Nat), Vals xs us → Vals (xs.set i x) (us.set i u)
  | _, _, _, .nil => .nil
  | _, _, 0, .cons _ t => .cons r t
  | _, _, i + 1, .cons q t => .cons q (Vals.set r i t)
theorem Vals.append : ∀ {xs ys : List V} {us ws : List Value}, Vals xs us → Vals ys ws → Vals (xs ++ ys) (us ++ ws)
  | _, _, _, _, .nil, s => s
  | _, _, _, _, .cons r t, s => .cons r (Vals.append t s)
theorem Vals.take : ∀ {xs : List V} {us : List Value} (n : Nat), Vals xs us → Vals (xs.take n) (us.take n)
  | _, _, 0, _ => .nil
  | _, _, _ + 1, .nil => .nil
  | _, _, n + 1, .cons r t => .cons r (Vals.take n t)
theorem Vals.drop : ∀ {xs : List V} {us : List Value} (n : Nat), Vals xs us → Vals (xs.drop n) (us.drop n)
  | _, _, 0, r => r
  | _, _, _ + 1, .nil => .nil
  | _, _, n + 1, .cons _ t => Vals.drop n t
theorem Vals.none_of : ∀ {xs : List V} {us : List Value} {i : Nat}, Vals xs us → xs[i]? = none → us[i]? = none := fun {xs us i} r e => by
  have h1 := r.length
  have h2 : xs.length ≤ i := List.getElem?_eq_none_iff.mp e
  exact List.getElem?_eq_none_iff.mpr (by omega)

def RelO : Option V → Option Value → Prop
  | some v, some u => RelV v u
  | none, none => True
  | _, _ => False
def KV {κ : Type} : List (κ × V) → List (κ × Value) → Prop := Paired fun (p : κ × V) (q : κ × Value) => p.1 = q.1 ∧ RelV p.2 q.2

/-- a key of a dict (00_mix): an int or a text -/
def kV : Key → V
  | .inl i => .int i
  | .inr x => .str x

/-- what stands at a tracked address -/
inductive HO where
  /-- a list -/
  | lst (xs : List V)
  /-- a tuple (never changes) -/
  | tup (xs : List V)
  /-- a dict whose keys are ints and texts; one whose keys are tuples of ints and texts (the empty one is both) -/
  | dK (kvs : List (Key × V)) | dT (kvs : List (List Key × V))
  /-- a set of ints: its members, its size -/
  | set (S : Int → Bool) (n : Nat)
  /-- an instance of the class at C, its dict at dx, its attributes -/
  | ins (C dx : Addr) (fs : List (Str × V))
  /-- the dict of the instance at x -/
  | own (x : Addr)
  /-- the dict of an exception -/
  | xd (fs : List (Str × V))
  /-- a bound method, f of x -/
  | met (f x : Addr)
  /-- a range object lo, lo + 1, .. below hi -/
  | rng (lo hi : Int)
  /-- a thing that is known to the object (the script; a dict while a loop walks it): read, never written while it is so -/
  | frz (o : Obj) (u : HO)
  /-- a code object's table -/
  | tbl (ps : Array Value)
  /-- any other thing, by what is true of its one object (a def of one's own: SetO a S n := HO.ext fun h => ..) -/
  | ext (φ : Heap → Prop)

abbrev Hp := Addr → Option HO
def upd (H : Hp) (a : Addr) (o : HO) : Hp := fun b => if b = a then some o else H b
theorem upd_same {H : Hp} {a : Addr} {o : HO} : upd H a o a = some o := by unfold upd; rw [if_pos rfl]
theorem upd_ne {H : Hp} {a b : Addr} {o : HO} (h : b ≠ a) : upd H a o b = H b := by unfold upd; rw [if_neg h]
theorem upd_upd {H : Hp} {a : Addr} {o u : HO} : upd (upd H a o) a u = upd H a u := by
  funext b; unfold upd; split <;> rfl
/-- two objects of different content stand apart -/
theorem ne_of {H : Hp} {a b : Addr} {o u : HO} (h : H a = some o) (h' : H b = some u) (d : o ≠ u) : a ≠ b := by
  intro e; subst e; rw [h] at h'; exact d (Option.some.inj h')
theorem ne_of_none {H : Hp} {a b : Addr} {o : HO} (h : H a = some o) (h' : H b = none) : a ≠ b := by
  intro e; subst e; rw [h] at h'; cases h'

section
variable (P : Program) (w : World)
def ObjOk (H : Hp) (h : Heap) (a : Addr) : HO → Prop
  | .lst xs => xs.length ≤ sizeLine ∧ ∃ (its : List Value) (n : Nat), Vals xs its ∧ h.get? a = some { cls := .type "list", data := .seq its.toArray n }
  | .tup xs => xs.length ≤ sizeLine ∧ ∃ its : List Value, Vals xs its ∧ IsTup h a its.toArray
  | .dK kvs => kvs.length ≤ sizeLine ∧ (a == sysModules) = false ∧ ∃ vs, KV kvs vs ∧ h.DictOf (mixKind P w) a vs
  | .dT kvs => kvs.length ≤ sizeLine ∧ (a == sysModules) = false ∧ ∃ xs : List (List Key × Addr × Value),
      Paired (fun (p : List Key × V) (q : List Key × Addr × Value) => p.1 = q.1 ∧ H q.2.1 = some (.tup (p.1.map kV)) ∧ RelV p.2 q.2.2) kvs xs ∧
      ∃ o es ep, h.get? a = some o ∧ o.ExactDict ∧ o.data = .dict es ep ∧ es.toList = xs.map (entryOfKey (tupleKind (mixKind P w))) ∧ (xs.map (·.1)).Nodup
  | .set S n => h.SetOf (intKind P w) a S n
  | .ins C dx fs => H dx = some (.own a) ∧ fs.length ≤ 1000 ∧ dx ≠ a ∧ h.get? a = some (PySem.W.instObj C dx) ∧
      ∃ mA, h.Ns1 dx mA ∧ (∀ f, RelO (fs.lookup f) (mA f)) ∧ PySem.Within mA (fs.map (·.1))
  | .own _ => ∃ o, h.get? a = some o
  | .xd fs => ∃ mA, h.Ns1 a mA ∧ ∀ f, RelO (fs.lookup f) (mA f)
  | .rng lo hi => ∃ t u v, h.get? a = some { cls := .type "range", data := .fields #[.int lo t, .int hi u, .int 1 v] }
  | .frz o u => h.get? a = some o ∧ ObjOk H h a u
  | .tbl ps => h.get? a = some { cls := .none, data := .fields ps }
  | .met f x => h.get? a = some (PySem.W.methodObj (.ref f) (.ref x))
  | .ext φ => φ h ∧ (∃ o, h.get? a = some o) ∧ ∀ h1 h2 : Heap, φ h1 → (∀ o, h1.get? a = some o → h2.get? a = some o) → φ h2
/-- the abstract heap is held -/
def HOk (H : Hp) (h : Heap) : Prop := ∀ a o, H a = some o → ObjOk P w H h a o
end

section
variable {P : Program} {w : World} {H H' : Hp} {h h' : Heap} {a : Addr} {o : HO}
theorem ObjOk.lt (x : ObjOk P w H h a o) : a < h.objs.size := by
  cases o with
  | lst xs => obtain ⟨_, _, _, _, e⟩ := x; exact Heap.lt_size e
  | tup xs => obtain ⟨_, _, _, p⟩ := x; exact p.lt
  | dK kvs => obtain ⟨_, _, _, _, o, _, _, e, _⟩ := x; exact Heap.lt_size e
  | dT kvs => obtain ⟨_, _, _, _, o, _, _, e, _⟩ := x; exact Heap.lt_size e
  | set S n => obtain ⟨o, _, _, _, e, _⟩ := x; exact Heap.lt_size e
  | ins C dx fs => obtain ⟨_, _, _, e, _⟩ := x; exact Heap.lt_size e
  | own y => obtain ⟨_, e⟩ := x; exact Heap.lt_size e
  | xd fs => obtain ⟨_, ⟨_, _, _, e, _⟩, _⟩ := x; exact Heap.lt_size e
  | rng lo hi => obtain ⟨_, _, _, e⟩ := x; exact Heap.lt_size e
  | frz ob u => obtain ⟨e, _⟩ := x; exact Heap.lt_size e
  | tbl ps => exact Heap.lt_size (show h.get? a = some _ from x)
  | met f y => exact Heap.lt_size (show h.get? a = some _ from x)
  | ext φ => obtain ⟨_, ⟨_, e⟩, _⟩ := x; exact Heap.lt_size e
theorem Paired.mapP {α β : Type} {F G : α → β → Prop} : ∀ {l₁ : List α} {l₂ : List β}, Paired F l₁ l₂ → (∀ a b, F a b → G a b) → Paired G l₁ l₂
  | _, _, .nil, _ => .nil
  | _, _, .cons r t, f => .cons (f _ _ r) (Paired.mapP t f)
theorem Paired.imp' {α β : Type} {F G : α → β → Prop} (f : ∀ a b, F a b → G a b) {l₁ : List α} {l₂ : List β} (r : Paired F l₁ l₂) : Paired G l₁ l₂ := Paired.mapP r f
/-- what an object's description leans on: its own object, its own dict, the tuples -/
theorem ObjOk.stay (x : ObjOk P w H h a o) (k : ∀ b u, (b = a ∨ H b = some (.own a)) → h.get? b = some u → h'.get? b = some u)
    (ho : ∀ b, H b = some (.own a) → H' b = some (.own a)) (ht : ∀ b xs, H b = some (.tup xs) → H' b = some (.tup xs)) : ObjOk P w H' h' a o := by
  induction o with
  | lst xs => obtain ⟨z, its, n, r, e⟩ := x; exact ⟨z, its, n, r, k _ _ (.inl rfl) e⟩
  | tup xs => obtain ⟨z, its, r, ob, e, c⟩ := x; exact ⟨z, its, r, ob, k _ _ (.inl rfl) e, c⟩
  | dK kvs => obtain ⟨z, y, vs, r, ob, es, ep, e, c⟩ := x; exact ⟨z, y, vs, r, ob, es, ep, k _ _ (.inl rfl) e, c⟩
  | dT kvs =>
    obtain ⟨z, y, xs, r, ob, es, ep, e, c⟩ := x
    exact ⟨z, y, xs, Paired.mapP r fun p q z => ⟨z.1, ht _ _ z.2.1, z.2.2⟩, ob, es, ep, k _ _ (.inl rfl) e, c⟩
  | set S n => obtain ⟨ob, es, ep, t, e, c⟩ := x; exact ⟨ob, es, ep, t, k _ _ (.inl rfl) e, c⟩
  | ins C dx fs =>
    obtain ⟨d, z, ne, e, mA, ⟨od, es, ep, e2, c⟩, r⟩ := x
    exact ⟨ho _ d, z, ne, k _ _ (.inl rfl) e, mA, ⟨od, es, ep, k _ _ (.inr d) e2, c⟩, r⟩
  | own y => obtain ⟨ob, e⟩ := x; exact ⟨ob, k _ _ (.inl rfl) e⟩
  | xd fs => obtain ⟨mA, ⟨od, es, ep, e, c⟩, r⟩ := x; exact ⟨mA, ⟨od, es, ep, k _ _ (.inl rfl) e, c⟩, r⟩
  | rng lo hi => obtain ⟨t, u, v, e⟩ := x; exact ⟨t, u, v, k _ _ (.inl rfl) e⟩
  | frz ob u ih => obtain ⟨e, q⟩ := x; exact ⟨k _ _ (.inl rfl) e, ih q⟩
  | tbl ps =>
    have e : h.get? a = some { cls := .none, data := .fields ps } := x
    show h'.get? a = some { cls := .none, data := .fields ps }
    exact k a _ (.inl rfl) e
  | met f y =>
    have e : h.get? a = some (PySem.W.methodObj (.ref f) (.ref y)) := x
    show h'.get? a = some (PySem.W.methodObj (.ref f) (.ref y))
    exact k a _ (.inl rfl) e
  | ext φ => obtain ⟨p, ⟨o, e⟩, st⟩ := x; exact ⟨st _ _ p fun o q => k _ _ (.inl rfl) q, ⟨o, k _ _ (.inl rfl) e⟩, st⟩
theorem HOk.lt (x : HOk P w H h) (e : H a = some o) : a < h.objs.size := (x a o e).lt
theorem HOk.fresh (x : HOk P w H h) (e : h.objs.size ≤ a) : H a = none := by
  cases q : H a with
  | none => rfl
  | some u => exact absurd (Nat.lt_of_lt_of_le (x.lt q) e) (Nat.lt_irrefl _)
/-- every object of the heap is kept -/
theorem HOk.kept (x : HOk P w H h) (k : ∀ b u, h.get? b = some u → h'.get? b = some u) : HOk P w H h' := fun a o e =>
  (x a o e).stay (fun b u _ q => k b u q) (fun _ q => q) fun _ _ q => q
/-- a new object is laid and tracked -/
theorem HOk.laid (x : HOk P w H h) (k : ∀ b u, h.get? b = some u → h'.get? b = some u) (hp : h.objs.size ≤ a) (new : ObjOk P w (upd H a o) h' a o) : HOk P w (upd H a o) h' := fun b u e => by
  have hn := x.fresh hp
  by_cases hb : b = a
  · subst hb; rw [upd_same] at e; cases e; exact new
  · rw [upd_ne hb] at e
    exact (x b u e).stay (fun c v _ q => k c v q) (fun c q => by rw [upd_ne (ne_of_none q hn)]; exact q) fun c xs q => by rw [upd_ne (ne_of_none q hn)]; exact q
end

/-- what may be read as u: it is u, or a known u -/
def Rd (H : Hp) (a : Addr) (u : HO) : Prop := H a = some u ∨ ∃ o, H a = some (.frz o u)
theorem Rd.of {H : Hp} {a : Addr} {u : HO} (h : H a = some u) : Rd H a u := .inl h
theorem Rd.ok {P : Program} {w : World} {H : Hp} {h : Heap} {a : Addr} {u : HO} (r : Rd H a u) (x : HOk P w H h) : ObjOk P w H h a u := by
  rcases r with r | ⟨o, r⟩
  · exact x a u r
  · obtain ⟨_, q⟩ := x a _ r
    exact q
/-- what may be written -/
def Mut : Option HO → Prop
  | some (.lst _) => True
  | some (.dK _) => True
  | some (.dT _) => True
  | some (.set _ _) => True
  | some (.ins _ _ _) => True
  | some (.ext _) => True
  | _ => False
section
variable {P : Program} {w : World} {H : Hp} {h h' : Heap} {x e : Addr} {o' : HO}
/-- the object at e is changed: x itself, or the dict of the instance x -/
theorem HOk.write (ok : HOk P w H h) (mu : Mut (H x)) (he : e = x ∨ H e = some (.own x)) (k : ∀ b u, b ≠ e → h.get? b = some u → h'.get? b = some u) (heo : ∃ u, h'.get? e = some u)
    (new : ObjOk P w (upd H x o') h' x o') : HOk P w (upd H x o') h' := fun b u q => by
  have nown : ∀ c y, H c = some (.own y) → c ≠ x := fun c y r z => by subst z; rw [r] at mu; exact mu
  have ntup : ∀ c xs, H c = some (.tup xs) → c ≠ x := fun c xs r z => by subst z; rw [r] at mu; exact mu
  by_cases hb : b = x
  · subst hb; rw [upd_same] at q; cases q; exact new
  · rw [upd_ne hb] at q
    by_cases hbe : b = e
    · have q' : H b = some (.own x) := by
        rcases he with z | z
        · exact absurd (hbe.trans z) hb
        · rw [hbe]; exact z
      rw [q] at q'; cases q'
      obtain ⟨v, hv⟩ := heo
      exact ⟨v, by rw [hbe]; exact hv⟩
    · refine (ok b u q).stay (fun c v hc r => k c v ?_ r) (fun c r => by rw [upd_ne (nown c b r)]; exact r) fun c xs r => by rw [upd_ne (ntup c xs r)]; exact r
      rcases hc with rfl | hc
      · exact hbe
      · rintro rfl
        rcases he with z | z
        · exact nown c b hc z
        · rw [hc] at z; cases z; exact hb rfl
end

/-! ### kept unless tracked; of the frames at fs (the callers') the slots may change (an exception that passes writes there); of the records at ex (iterators) nothing is said -/
structure Un (fs ex : List Addr) (H H' : Hp) (h h' : Heap) : Prop where
  keep : ∀ b o, h.get? b = some o → H b = none → b ∉ fs → b ∉ ex → h'.get? b = some o
  slot : ∀ b o, h.get? b = some o → H b = none → b ∈ fs → b ∉ ex → ∃ sl, h'.get? b = some { o with slots := sl }
  free : ∀ b o, h.get? b = some o → H b = none → b ∉ ex → H' b = none
  there : ∀ b o, h.get? b = some o → b ∉ ex → ∃ o', h'.get? b = some o'
  tups : ∀ b xs, H b = some (.tup xs) → H' b = some (.tup xs)
  frzs : ∀ b o u, H b = some (.frz o u) → H' b = some (.frz o u)
  tbls : ∀ b ps, H b = some (.tbl ps) → ∃ more, H' b = some (.tbl (ps ++ more))
section
variable {fs fs' ex ex' : List Addr} {H H1 H2 : Hp} {h h1 h2 h' : Heap} {a x e : Addr} {o : HO}
theorem Un.any (u : Un fs ex H H1 h h1) {b : Addr} {ob : Obj} (q : h.get? b = some ob) (n : H b = none) (hx : b ∉ ex) : ∃ sl, h1.get? b = some { ob with slots := sl } := by
  by_cases hb : b ∈ fs
  · exact u.slot b ob q n hb hx
  · exact ⟨ob.slots, u.keep b ob q n hb hx⟩
theorem Un.trans (a : Un fs ex H H1 h h1) (b : Un fs ex H1 H2 h1 h2) : Un fs ex H H2 h h2 where
  keep := fun c ob q n hc hx => b.keep c ob (a.keep c ob q n hc hx) (a.free c ob q n hx) hc hx
  slot := fun c ob q n hc hx => by
    obtain ⟨sl, e1⟩ := a.slot c ob q n hc hx
    obtain ⟨sl', e2⟩ := b.slot c _ e1 (a.free c ob q n hx) hc hx
    exact ⟨sl', e2⟩
  free := fun c ob q n hx => by
    obtain ⟨o', e1⟩ := a.there c ob q hx
    exact b.free c o' e1 (a.free c ob q n hx) hx
  there := fun c ob q hx => by
    obtain ⟨o', e1⟩ := a.there c ob q hx
    exact b.there c o' e1 hx
  tups := fun c xs q => b.tups c xs (a.tups c xs q)
  frzs := fun c ob xs q => b.frzs c ob xs (a.frzs c ob xs q)
  tbls := fun c ps q => by
    obtain ⟨m1, e1⟩ := a.tbls c ps q
    obtain ⟨m2, e2⟩ := b.tbls c _ e1
    exact ⟨m1 ++ m2, by rw [e2, Array.append_assoc]⟩
theorem Un.kept (k : ∀ b u, h.get? b = some u → h'.get? b = some u) : Un fs ex H H h h' :=
  ⟨fun b ob q _ _ _ => k b ob q, fun b ob q _ _ _ => ⟨ob.slots, k b ob q⟩, fun _ _ _ n _ => n, fun b ob q _ => ⟨ob, k b ob q⟩, fun _ _ q => q, fun _ _ _ q => q, fun _ ps q => ⟨#[], by rw [q]; simp⟩⟩
theorem Un.refl : Un fs ex H H h h := Un.kept fun _ _ q => q
theorem Un.laid (k : ∀ b u, h.get? b = some u → h'.get? b = some u) (hp : h.objs.size ≤ a) (hn : H a = none) : Un fs ex H (upd H a o) h h' where
  keep := fun b u q _ _ _ => k b u q
  slot := fun b u q _ _ _ => ⟨u.slots, k b u q⟩
  free := fun b u q n _ => by rw [upd_ne (Nat.ne_of_lt (Nat.lt_of_lt_of_le (Heap.lt_size q) hp))]; exact n
  there := fun b u q _ => ⟨u, k b u q⟩
  tups := fun b xs q => by rw [upd_ne (ne_of_none q hn)]; exact q
  frzs := fun b u xs q => by rw [upd_ne (ne_of_none q hn)]; exact q
  tbls := fun b ps q => ⟨#[], by rw [upd_ne (ne_of_none q hn), q]; simp⟩
theorem Un.write (mu : Mut (H x)) (he : e = x ∨ H e = some (.own x)) (k : ∀ b u, b ≠ e → h.get? b = some u → h'.get? b = some u) (heo : ∃ u, h'.get? e = some u) : Un fs ex H (upd H x o) h h' := by
  have hx : ∀ b, H b = none → b ≠ x := fun b n z => by subst z; rw [n] at mu; exact mu
  have hb : ∀ b, H b = none → b ≠ e := fun b n z => by
    subst z
    rcases he with r | r
    · exact hx b n r
    · rw [n] at r; cases r
  have hm : ∀ b u, H b = some u → ¬ Mut (some u) → b ≠ x := fun b u q nm z => by subst z; rw [q] at mu; exact nm mu
  refine ⟨fun b u q n _ _ => k b u (hb b n) q, fun b u q n _ _ => ⟨u.slots, k b u (hb b n) q⟩, fun b u q n _ => by rw [upd_ne (hx b n)]; exact n, fun b u q _ => ?_,
    fun b xs q => by rw [upd_ne (hm b _ q fun z => z)]; exact q, fun b u xs q => by rw [upd_ne (hm b _ q fun z => z)]; exact q, fun b ps q => ⟨#[], by rw [upd_ne (hm b _ q fun z => z), q]; simp⟩⟩
  by_cases hbe : b = e
  · subst hbe; exact heo
  · exact ⟨u, k b u hbe q⟩
theorem Un.mono (u : Un fs ex H H1 h h1) (hs : ∀ b ∈ fs, b ∈ fs') (hx : ∀ b ∈ ex, b ∈ ex') : Un fs' ex' H H1 h h1 :=
  ⟨fun b ob q n hb he => u.keep b ob q n (fun z => hb (hs b z)) fun z => he (hx b z), fun _ _ q n _ he => u.any q n fun z => he (hx _ z), fun b ob q n he => u.free b ob q n fun z => he (hx b z), fun b ob q he => u.there b ob q fun z => he (hx b z), u.tups, u.frzs, u.tbls⟩
end

/-! ### the heap without what is tracked -/
def trk (h : Heap) (H : Hp) : List Addr := (List.range h.objs.size).filter fun a => (H a).isSome
def hidT (h : Heap) (H : Hp) : Heap := PySem.W.hideAll h (trk h H)
theorem hidT_size (h : Heap) (H : Hp) : (hidT h H).objs.size = h.objs.size := PySem.W.hideAll_size _ _
theorem hidT_get {h : Heap} {H : Hp} {b : Addr} {o : Obj} (e : h.get? b = some o) (n : H b = none) : (hidT h H).get? b = some o :=
  PySem.W.hideAll_get _ e fun hm => by
    have q : (H b).isSome = true := (List.mem_filter.mp hm).2
    rw [n] at q; simp at q
theorem of_hidT {h : Heap} {H : Hp} {b : Addr} {o : Obj} (e : (hidT h H).get? b = some o) : h.get? b = some o ∧ H b = none := by
  have e' : h.get? b = some o := PySem.W.of_hideAll (trk h H) e
  refine ⟨e', ?_⟩
  cases q : H b with
  | none => rfl
  | some x =>
    have hm : b ∈ trk h H := List.mem_filter.mpr ⟨List.mem_range.mpr (Heap.lt_size e'), by simp [q]⟩
    have z : (hidT h H).get? b = none := PySem.W.hideAll_none (trk h H) hm
    rw [z] at e; cases e

/-! ### OpenK's ledger, filled with every new object but one -/
def allNews (g h : Heap) (L : Addr) : List (Addr × Obj) := (List.range h.objs.size).filterMap fun a => if a = L ∨ (g.get? a).isSome = true then none else (h.get? a).map fun o => (a, o)
theorem mem_allNews {g h : Heap} {L a : Addr} {o : Obj} (h1 : a ≠ L) (h2 : g.get? a = none) (h3 : h.get? a = some o) : (a, o) ∈ allNews g h L :=
  List.mem_filterMap.mpr ⟨a, List.mem_range.mpr (Heap.lt_size h3), by simp [h1, h2, h3]⟩
theorem of_mem_allNews {g h : Heap} {L : Addr} {p : Addr × Obj} (hp : p ∈ allNews g h L) : p.1 ≠ L ∧ g.get? p.1 = none ∧ h.get? p.1 = some p.2 := by
  obtain ⟨b, _, e⟩ := List.mem_filterMap.mp hp
  split at e
  · cases e
  · rename_i hn
    cases q : h.get? b with
    | none => rw [q] at e; simp at e
    | some u =>
      rw [q] at e
      simp only [Option.map_some, Option.some.injEq] at e
      subst e
      refine ⟨fun z => hn (.inl z), ?_, q⟩
      show g.get? b = none
      cases r : g.get? b with
      | none => rfl
      | some v => exact (hn (.inr (by simp [r]))).elim
def rest (g h : Heap) (L d : Addr) : List (Addr × Obj) := (allNews g h L).filter fun p => decide (p.1 ≠ d)
theorem rest_ne {g h : Heap} {L d : Addr} : ∀ p ∈ rest g h L d, p.1 ≠ d := fun p hp => of_decide_eq_true (List.mem_filter.mp hp).2
theorem mem_rest {g h : Heap} {L d a : Addr} {o : Obj} (h1 : a ≠ L) (h2 : g.get? a = none) (h3 : h.get? a = some o) (h4 : a ≠ d) : (a, o) ∈ rest g h L d :=
  List.mem_filter.mpr ⟨mem_allNews h1 h2 h3, decide_eq_true h4⟩
theorem news_all {g h : Heap} {L : Addr} : News g L h (allNews g h L) := fun p hp => let ⟨a, b, c⟩ := of_mem_allNews hp; ⟨c, a, b⟩
theorem news_at {g h : Heap} {L d : Addr} {o : Obj} (h1 : d ≠ L) (h2 : g.get? d = none) (h3 : h.get? d = some o) : News g L h ((d, o) :: rest g h L d) := fun p hp => by
  rcases List.mem_cons.mp hp with rfl | hp
  · exact ⟨h3, h1, h2⟩
  · exact news_all p (List.mem_filter.mp hp).1
/-- behind a rule that changed d alone: all else but the frame is kept -/
theorem kept_of_news {g h h' : Heap} {L d : Addr} {m : Str → Option Value} (k : ∀ b o, g.get? b = some o → h.get? b = some o) (F : Fr g L h' m) (N : News g L h' (rest g h L d)) :
    ∀ b o, b ≠ L → b ≠ d → h.get? b = some o → h'.get? b = some o := fun b o h1 h2 e => by
  cases q : g.get? b with
  | some u =>
    have := k b u q
    rw [e] at this; cases this
    exact F.keep b _ q
  | none => exact (N (b, o) (mem_rest h1 q e h2)).1
end L2

namespace L2
open PySem PySem.Spec PyProof.Rows

/-- the module's facts, over the base: the heap at the law's entry without what is tracked there -/
structure Mod (K : PySem.W.Frag) (mg : Str → Option Value) (base : Heap) : Prop where
  kin : K.In base
  glob : base.Ns mainGlobals mg
  blt : ∃ mb, base.Ns builtinsNs mb ∧ ∀ x : Str, x ≠ "__name__" → mb x = bootBuiltins x
  nolimit : base.NoLimit

/-- the context: a def's body (or a comprehension's block) running. base: fixed through the whole law; s₀, H₀: the entry; outer: the frames whose slots others may change (a def's callers); stack: all frames that run;
   ex: iterators that were made ahead of the entry and are walked here (a comprehension's); fn: the names whose cells were made at the entry (a def: all; a comprehension's block: its own); calm: not within an except suite; pn: pins that every state bears; xe: what is wanted of an exception that leaves the code -/
structure Cx where
  prog : Program
  w : World
  K : PySem.W.Frag
  mg : Str → Option Value
  base : Heap
  A : Around
  N : List Str
  s₀ : Shared
  H₀ : Hp
  env : Env
  outer : List Env
  stack : List Env
  ex : List Addr
  fn : Str → Bool
  calm : Bool
  pn : List (Addr × Obj)
  xe : Value → Shared → Prop
/-- the callers' frames -/
def frs (l : List Env) : List Addr := l.filterMap (·.frame)
abbrev Cx.fs (X : Cx) : List Addr := frs X.outer

def Vis (sc : Scope) (x : Str) : Prop := sc.names.lookup x = some .local ∨ sc.names.lookup x = some .cell ∨ sc.names.lookup x = some .free
def Loc (sc : Scope) (x : Str) : Prop := sc.names.lookup x = some .local ∨ sc.names.lookup x = some .cell
def Look (env : Env) (h : Heap) (m : Str → Option Value) (x : Str) (u : Value) : Prop :=
  (env.kindOf x = some .local ∧ m x = some u) ∨ ((env.kindOf x = some .cell ∨ env.kindOf x = some .free) ∧ ∃ c, env.cells.lookup x = some c ∧ h.IsCell c (some u))

structure Cx.Ok (X : Cx) : Prop where
  mod : Mod X.K X.mg X.base
  kind : X.env.scope.kind = .function
  glob : X.env.globals = mainGlobals
  blt : X.env.builtins = builtinsNs
  above : X.s₀.heap.objs.size ≤ X.env.locals
  inj : ∀ x y c, X.env.cells.lookup x = some c → X.env.cells.lookup y = some c → x = y
  has : ∀ x, (X.env.kindOf x = some .cell ∨ X.env.kindOf x = some .free) → ∃ c, X.env.cells.lookup x = some c
  cab : ∀ x c, X.fn x = true → X.env.cells.lookup x = some c → X.s₀.heap.objs.size ≤ c
  hd : X.calm = true → X.A.handled = none
  frames : X.A.frames = some X.stack
  stk : X.stack = X.outer ∨ (X.stack = X.env :: X.outer ∧ X.env.frame = some X.env.locals)
  exf : ∀ b ∈ X.ex, b ≠ X.env.locals ∧ ∀ x c, X.env.cells.lookup x = some c → c ≠ b
  bs : ∀ b o, X.base.get? b = some o → X.s₀.heap.get? b = some o ∧ X.H₀ b = none
  bsz : X.base.objs.size ≤ X.s₀.heap.objs.size
  noex : ∀ b o, X.base.get? b = some o → b ∉ X.ex
  exfs : ∀ b ∈ X.ex, b ∉ X.fs
  funs : X.s₀.heap.FunFrames X.base X.outer
  frf : ∀ b ∈ X.fs, X.H₀ b = none

structure Inv (X : Cx) (pins : List (Addr × Obj)) (σ : List (Option V)) (H : Hp) (s : Shared) : Prop where
  ok : X.Ok
  os : s.os = X.s₀.os
  bare : AllBare s.gens
  base : Un X.fs X.ex X.H₀ H X.s₀.heap s.heap
  loc : ∃ m, s.heap.Ns X.env.locals m ∧ ∀ (i : Nat) (x : Str) (v : V), X.N[i]? = some x → σ[i]? = some (some v) → Vis X.env.scope x → ∃ u, RelV v u ∧ Look X.env s.heap m x u
  cell : ∀ x c, X.env.cells.lookup x = some c → ∃ v, s.heap.IsCell c v
  free : H X.env.locals = none
  freeC : ∀ x c, X.env.cells.lookup x = some c → H c = none
  pin : ∀ p ∈ X.pn ++ pins, s.heap.get? p.1 = some p.2 ∧ H p.1 = none ∧ p.1 ≠ X.env.locals ∧ p.1 ∉ X.fs ∧ ∀ v, p.2.data ≠ .cell v
  hok : HOk X.prog X.w H s.heap
  len : σ.length = X.N.length

section
variable {X : Cx} {pins : List (Addr × Obj)} {σ : List (Option V)} {H H' : Hp} {s : Shared} {h' : Heap}

theorem Cx.Ok.nofr (ok : X.Ok) {b : Addr} {o : Obj} (e : X.base.get? b = some o) : b ∉ X.fs := fun hb => by
  have := (ok.funs.mem hb).1
  rw [e] at this; cases this
theorem Inv.bs (I : Inv X pins σ H s) : ∀ b o, X.base.get? b = some o → s.heap.get? b = some o ∧ H b = none := fun b o e =>
  ⟨I.base.keep b o (I.ok.bs b o e).1 (I.ok.bs b o e).2 (I.ok.nofr e) (I.ok.noex b o e), I.base.free b o (I.ok.bs b o e).1 (I.ok.bs b o e).2 (I.ok.noex b o e)⟩
theorem Inv.bk (I : Inv X pins σ H s) : ∀ b o, X.base.get? b = some o → s.heap.get? b = some o := fun b o e => (I.bs b o e).1
theorem Inv.mod (I : Inv X pins σ H s) : Mod X.K X.mg X.base := I.ok.mod
theorem Inv.kIn (I : Inv X pins σ H s) : X.K.In s.heap := I.ok.mod.kin.keeps I.bk
theorem Inv.nolimit (I : Inv X pins σ H s) : s.heap.NoLimit := I.ok.mod.nolimit.keeps I.bk
/-- the frame over the base: for OpenK's rules (K.In X.base is I.mod.kin) -/
theorem Inv.fr (I : Inv X pins σ H s) : ∃ m, Fr X.base X.env.locals s.heap m :=
  let ⟨m, hn, _⟩ := I.loc
  ⟨m, hn, I.bk, Nat.le_trans I.ok.bsz I.ok.above⟩
theorem Inv.lt (I : Inv X pins σ H s) : X.env.locals < s.heap.objs.size := let ⟨_, hn, _⟩ := I.loc; hn.lt
theorem Inv.sz (I : Inv X pins σ H s) : X.s₀.heap.objs.size ≤ s.heap.objs.size := Nat.le_trans I.ok.above (Nat.le_of_lt I.lt)
theorem Inv.nofs (I : Inv X pins σ H s) {a : Addr} (h : s.heap.objs.size ≤ a) : a ∉ X.fs := fun hb => by
  obtain ⟨_, o, ho, _⟩ := I.ok.funs.mem hb
  exact absurd (Nat.lt_of_lt_of_le (Heap.lt_size ho) (Nat.le_trans I.sz h)) (Nat.lt_irrefl _)
theorem Inv.cne (I : Inv X pins σ H s) : ∀ x c, X.env.cells.lookup x = some c → c ≠ X.env.locals := fun x c e z => by
  obtain ⟨v, o, ho, hd⟩ := I.cell x c e
  obtain ⟨m, ⟨o', es, ep, ho', hd', _⟩, _⟩ := I.loc
  rw [z, ho'] at ho; cases ho; rw [hd'] at hd; cases hd
theorem Inv.funs (I : Inv X pins σ H s) : s.heap.FunFrames X.base X.outer := by
  have all : ∀ (l : List Env), (∀ b ∈ frs l, b ∈ X.fs) → X.s₀.heap.FunFrames X.base l → s.heap.FunFrames X.base l := by
    intro l
    induction l with
    | nil => intro _ _; trivial
    | cons env r ih =>
      intro hs hl
      obtain ⟨hk, ⟨L, o, hf, hn, ho, hd⟩, hr⟩ := hl
      have hL : L ∈ X.fs := hs L (by unfold frs; rw [List.filterMap_cons, hf]; exact List.mem_cons_self)
      obtain ⟨sl, e⟩ := I.base.slot L o ho (I.ok.frf L hL) hL fun z => I.ok.exfs L z hL
      exact ⟨hk, ⟨L, _, hf, hn, e, hd⟩, ih (fun b hb => hs b (by unfold frs; rw [List.filterMap_cons, hf]; exact List.mem_cons_of_mem _ hb)) hr⟩
  exact all X.outer (fun _ hb => hb) I.ok.funs

/-- the frames that run, for a call -/
theorem Inv.stack (I : Inv X pins σ H s) : s.heap.FunFrames X.base X.stack := by
  rcases I.ok.stk with e | ⟨e, hf⟩
  · rw [e]; exact I.funs
  · rw [e]
    obtain ⟨m, hn, _⟩ := I.loc
    refine .cons (by rw [I.ok.kind]; decide) hf hn ?_ I.funs
    exact Heap.get?_none_of_le (Nat.le_trans I.ok.bsz I.ok.above)
theorem Inv.stkSub (I : Inv X pins σ H s) : ∀ b ∈ frs X.stack, b ∈ X.env.locals :: X.fs := fun b hb => by
  rcases I.ok.stk with e | ⟨e, hf⟩
  · rw [e] at hb; exact List.mem_cons_of_mem _ hb
  · rw [e] at hb
    unfold frs at hb
    rw [List.filterMap_cons, hf] at hb
    exact hb
theorem Inv.stkFree (I : Inv X pins σ H s) : ∀ b ∈ frs X.stack, H b = none := fun b hb => by
  rcases List.mem_cons.mp (I.stkSub b hb) with e | hb
  · rw [e]; exact I.free
  · obtain ⟨_, o, ho, _⟩ := I.ok.funs.mem hb
    exact I.base.free b o ho (I.ok.frf b hb) fun z => I.ok.exfs b z hb

/-- THE STEP: the untracked objects but the frame and the records at ch are kept (the callers' frames up to slots), the frame's map is kept, the new abstract heap is held -/
theorem Inv.step {g' : Array GenState} {t' : Nat} {d' : Drawn} {ch : List Addr} (I : Inv X pins σ H s)
    (hch : ∀ b ∈ ch, (b ∈ X.ex ∨ X.s₀.heap.objs.size ≤ b) ∧ b ≠ X.env.locals ∧ (∀ x c, X.env.cells.lookup x = some c → c ≠ b) ∧ ∀ p ∈ X.pn ++ pins, p.1 ≠ b)
    (keep : ∀ b o, b ≠ X.env.locals → b ∉ X.fs → b ∉ ch → s.heap.get? b = some o → H b = none → h'.get? b = some o)
    (slot : ∀ b o, b ≠ X.env.locals → b ∈ X.fs → b ∉ ch → s.heap.get? b = some o → H b = none → ∃ sl, h'.get? b = some { o with slots := sl }) (free : ∀ b o, b ∉ ch → s.heap.get? b = some o → H b = none → H' b = none)
    (there : ∀ b o, b ∉ ch → s.heap.get? b = some o → ∃ o', h'.get? b = some o')
    (tups : ∀ b xs, H b = some (.tup xs) → H' b = some (.tup xs)) (frzs : ∀ b o u, H b = some (.frz o u) → H' b = some (.frz o u)) (tbls : ∀ b ps, H b = some (.tbl ps) → ∃ more, H' b = some (.tbl (ps ++ more)))
    (ns : ∀ m, s.heap.Ns X.env.locals m → h'.Ns X.env.locals m) (hok : HOk X.prog X.w H' h') (hg : AllBare g') :
    Inv X pins σ H' { s with heap := h', gens := g', drawn := d', toks := t' } := by
  have neL : ∀ b o, X.s₀.heap.get? b = some o → b ≠ X.env.locals := fun b o e => Nat.ne_of_lt (Nat.lt_of_lt_of_le (Heap.lt_size e) I.ok.above)
  have neC : ∀ b o, X.s₀.heap.get? b = some o → b ∉ X.ex → b ∉ ch := fun b o e hx hb => by
    rcases (hch b hb).1 with z | z
    · exact hx z
    · exact absurd (Nat.lt_of_lt_of_le (Heap.lt_size e) z) (Nat.lt_irrefl _)
  have cellK : ∀ x c, X.env.cells.lookup x = some c → ∀ v, s.heap.IsCell c v → h'.IsCell c v := fun x c e v ⟨o, ho, hd⟩ => by
    have nch : c ∉ ch := fun z => (hch c z).2.2.1 x c e rfl
    by_cases hc : c ∈ X.fs
    · obtain ⟨sl, q⟩ := slot c o (I.cne x c e) hc nch ho (I.freeC x c e)
      exact ⟨_, q, hd⟩
    · exact ⟨o, keep c o (I.cne x c e) hc nch ho (I.freeC x c e), hd⟩
  refine ⟨I.ok, I.os, hg, ⟨fun b o e n hb hx => ?_, fun b o e n hb hx => ?_, fun b o e n hx => ?_, fun b o e hx => ?_, fun b xs e => tups b xs (I.base.tups b xs e), fun b o xs e => frzs b o xs (I.base.frzs b o xs e), fun b ps e => ?_⟩, ?_, fun x c e => ?_, ?_, fun x c e => ?_, fun p hp => ?_, hok, I.len⟩
  · exact keep b o (neL b o e) hb (neC b o e hx) (I.base.keep b o e n hb hx) (I.base.free b o e n hx)
  · obtain ⟨sl, e1⟩ := I.base.slot b o e n hb hx
    obtain ⟨sl', e2⟩ := slot b _ (neL b o e) hb (neC b o e hx) e1 (I.base.free b o e n hx)
    exact ⟨sl', e2⟩
  · obtain ⟨o', e1⟩ := I.base.there b o e hx
    exact free b o' (neC b o e hx) e1 (I.base.free b o e n hx)
  · obtain ⟨o', e1⟩ := I.base.there b o e hx
    exact there b o' (neC b o e hx) e1
  · obtain ⟨m1, e1⟩ := I.base.tbls b ps e
    obtain ⟨m2, e2⟩ := tbls b _ e1
    exact ⟨m1 ++ m2, by rw [e2, Array.append_assoc]⟩
  · obtain ⟨m, hn, hl⟩ := I.loc
    refine ⟨m, ns m hn, fun i x v e1 e2 e3 => ?_⟩
    obtain ⟨u, r, l⟩ := hl i x v e1 e2 e3
    refine ⟨u, r, ?_⟩
    rcases l with l | ⟨k, c, e, z⟩
    · exact .inl l
    · exact .inr ⟨k, c, e, cellK x c e _ z⟩
  · obtain ⟨v, z⟩ := I.cell x c e
    exact ⟨v, cellK x c e v z⟩
  · obtain ⟨m, ⟨o, _, _, ho, _⟩, _⟩ := I.loc
    exact free _ o (fun z => (hch _ z).2.1 rfl) ho I.free
  · obtain ⟨v, o, ho, hd⟩ := I.cell x c e
    exact free c o (fun z => (hch c z).2.2.1 x c e rfl) ho (I.freeC x c e)
  · obtain ⟨e, n, ne, nf, d⟩ := I.pin p hp
    have nch : p.1 ∉ ch := fun z => (hch p.1 z).2.2.2 p hp rfl
    exact ⟨keep p.1 p.2 ne nf nch e n, free p.1 p.2 nch e n, ne, nf, d⟩
/-- .. where the frame's own object is kept too -/
theorem Inv.un {t' : Nat} (I : Inv X pins σ H s) (u : Un X.fs [] H H' s.heap h') (hok : HOk X.prog X.w H' h') : Inv X pins σ H' { s with heap := h', toks := t' } := by
  obtain ⟨m, ⟨o, es, ep, ho, r⟩, _⟩ := id I.loc
  obtain ⟨sl, hL⟩ := u.any ho I.free (by simp)
  exact I.step (g' := s.gens) (d' := s.drawn) (ch := []) (fun _ z => nomatch z) (fun b o _ hb _ e n => u.keep b o e n hb (by simp)) (fun b o _ hb _ e n => u.slot b o e n hb (by simp)) (fun b o _ e n => u.free b o e n (by simp)) (fun b o _ e => u.there b o e (by simp)) u.tups u.frzs u.tbls (fun m' hm => by
    obtain ⟨o', es', ep', ho', r'⟩ := hm
    rw [ho] at ho'; cases ho'
    exact ⟨_, es', ep', hL, r'⟩) hok I.bare
/-- behind a call (or a comprehension's block): the slots of this frame may have changed too, the records at ch may have turned -/
theorem Inv.call {g' : Array GenState} {t' : Nat} {d' : Drawn} {ch : List Addr} (I : Inv X pins σ H s) (u : Un (frs X.stack) ch H H' s.heap h') (hok : HOk X.prog X.w H' h') (hg : AllBare g')
    (hch : ∀ b ∈ ch, (b ∈ X.ex ∨ X.s₀.heap.objs.size ≤ b) ∧ b ≠ X.env.locals ∧ (∀ x c, X.env.cells.lookup x = some c → c ≠ b) ∧ ∀ p ∈ X.pn ++ pins, p.1 ≠ b) :
    Inv X pins σ H' { s with heap := h', gens := g', drawn := d', toks := t' } := by
  obtain ⟨m, ⟨o, es, ep, ho, r⟩, _⟩ := id I.loc
  obtain ⟨sl, hL⟩ := u.any ho I.free fun z => (hch _ z).2.1 rfl
  exact I.step (ch := ch) hch (fun b o hL hb hc e n => u.keep b o e n (fun z => (List.mem_cons.mp (I.stkSub b z)).elim hL hb) hc) (fun b o _ _ hc e n => u.any e n hc) (fun b o hc e n => u.free b o e n hc) (fun b o hc e => u.there b o e hc) u.tups u.frzs u.tbls (fun m' hm => by
    obtain ⟨o', es', ep', ho', r'⟩ := hm
    rw [ho] at ho'; cases ho'
    exact ⟨_, es', ep', hL, r'⟩) hok hg
/-- an untracked record of ours (an iterator) has turned -/
theorem Inv.turned {t' : Nat} {it : Addr} (I : Inv X pins σ H s) (k : ∀ b o, b ≠ it → s.heap.get? b = some o → h'.get? b = some o) (hn : H it = none) (hL : it ≠ X.env.locals)
    (h1 : it ∈ X.ex ∨ X.s₀.heap.objs.size ≤ it) (h2 : ∀ x c, X.env.cells.lookup x = some c → c ≠ it) (h3 : ∀ p ∈ X.pn ++ pins, p.1 ≠ it) : Inv X pins σ H { s with heap := h', toks := t' } := by
  have nit : ∀ b u, H b = some u → b ≠ it := fun b u e z => by rw [z, hn] at e; cases e
  refine I.step (g' := s.gens) (d' := s.drawn) (ch := [it]) (fun b hb => ?_) (fun b o _ _ hc e _ => k b o (fun z => hc (by simp [z])) e) (fun b o _ _ hc e _ => ⟨o.slots, k b o (fun z => hc (by simp [z])) e⟩) (fun _ _ _ _ n => n)
    (fun b o hc e => ⟨o, k b o (fun z => hc (by simp [z])) e⟩) (fun _ _ e => e) (fun _ _ _ e => e) (fun b ps e => ⟨#[], by rw [e]; simp⟩) (fun m hm => ?_) (fun b u e => ?_) I.bare
  · have e : b = it := by simpa using hb
    subst e
    exact ⟨h1, hL, h2, h3⟩
  · obtain ⟨o, es, ep, ho, r⟩ := hm
    exact ⟨o, es, ep, k _ o (Ne.symm hL) ho, r⟩
  · refine (I.hok b u e).stay (fun c v hc q => k c v ?_ q) (fun _ q => q) fun _ _ q => q
    rcases hc with z | z
    · rw [z]; exact nit b u e
    · exact nit c _ z
theorem Inv.tok (I : Inv X pins σ H s) (t : Nat) : Inv X pins σ H { s with toks := t } := I.un (h' := s.heap) (t' := t) Un.refl I.hok
/-- all objects kept -/
theorem Inv.kept {t' : Nat} (I : Inv X pins σ H s) (k : ∀ b u, s.heap.get? b = some u → h'.get? b = some u) : Inv X pins σ H { s with heap := h', toks := t' } := I.un (Un.kept k) (I.hok.kept k)
/-- a new object laid and tracked -/
theorem Inv.laid {a : Addr} {o : HO} {t' : Nat} (I : Inv X pins σ H s) (k : ∀ b u, s.heap.get? b = some u → h'.get? b = some u) (hp : s.heap.objs.size ≤ a) (new : ObjOk X.prog X.w (upd H a o) h' a o) :
    Inv X pins σ (upd H a o) { s with heap := h', toks := t' } := I.un (Un.laid k hp (I.hok.fresh hp)) (I.hok.laid k hp new)
/-- an object written -/
theorem Inv.write {x e : Addr} {o : HO} {t' : Nat} (I : Inv X pins σ H s) (mu : Mut (H x)) (he : e = x ∨ H e = some (.own x)) (k : ∀ b u, b ≠ e → s.heap.get? b = some u → h'.get? b = some u) (heo : ∃ u, h'.get? e = some u)
    (new : ObjOk X.prog X.w (upd H x o) h' x o) : Inv X pins σ (upd H x o) { s with heap := h', toks := t' } := I.un (Un.write mu he k heo) (I.hok.write mu he k heo new)
/-- forgetting slots, pins -/
theorem Inv.weak {σ' : List (Option V)} (I : Inv X pins σ H s) (hl : σ'.length = σ.length) (w : ∀ (i : Nat) v, σ'[i]? = some (some v) → σ[i]? = some (some v)) : Inv X pins σ' H s :=
  ⟨I.ok, I.os, I.bare, I.base, let ⟨m, hn, hl'⟩ := I.loc; ⟨m, hn, fun i x v e1 e2 e3 => hl' i x v e1 (w i v e2) e3⟩, I.cell, I.free, I.freeC, I.pin, I.hok, hl.trans I.len⟩
theorem Inv.pins_of {pins' : List (Addr × Obj)} (I : Inv X pins σ H s) (h : ∀ p ∈ pins', s.heap.get? p.1 = some p.2 ∧ H p.1 = none ∧ p.1 ≠ X.env.locals ∧ p.1 ∉ X.fs ∧ ∀ v, p.2.data ≠ .cell v) : Inv X pins' σ H s :=
  ⟨I.ok, I.os, I.bare, I.base, I.loc, I.cell, I.free, I.freeC, fun p hp => (List.mem_append.mp hp).elim (fun z => I.pin p (List.mem_append_left _ z)) (h p), I.hok, I.len⟩

theorem nodup_ix {N : List Str} (hN : N.Nodup) {i j : Nat} {x : Str} (a : N[i]? = some x) (b : N[j]? = some x) : i = j := by
  obtain ⟨h1, e1⟩ := List.getElem?_eq_some_iff.mp a
  obtain ⟨h2, e2⟩ := List.getElem?_eq_some_iff.mp b
  exact (List.getElem_inj hN).mp (e1.trans e2.symm)

/-- a name is stored; what changed -/
theorem store_ok2 {M : Model} {A : Around} {E : Value → Shared → Prop} {i : Nat} {x : Str} {v : V} {u : Value} {Q : Unit → Shared → Prop} (I : Inv X pins σ H s) (hN : X.N.Nodup) (hi : X.N[i]? = some x) (hx : Loc X.env.scope x) (r : RelV v u)
    (h : ∀ s', Inv X pins (σ.set i (some v)) H s' → (∃ a, Heap.SameBut a s.heap s'.heap ∧ (a = X.env.locals ∨ X.env.cells.lookup x = some a)) → Q () s') (hf : X.fn x = true ∨ X.env.scope.names.lookup x = some .local := by first | exact .inl rfl | exact .inr rfl | assumption) : wpAny M A (storeName X.env x u) Q E s := by
  obtain ⟨m, hn, hl⟩ := id I.loc
  have hcls : (X.env.scope.kind == .class || (X.env.scope.kind == .module && X.env.locals != X.env.globals)) = false := by rw [I.ok.kind]; rfl
  have hiσ : i < σ.length := by rw [I.len]; exact (List.getElem?_eq_some_iff.mp hi).1
  have cne := I.cne
  have tracked : ∀ {a : Addr} {h' : Heap}, (∃ o, s.heap.get? a = some o ∧ H a = none) → Heap.SameBut a s.heap h' → HOk X.prog X.w H h' := fun {a h'} ha hs b ob e => by
    obtain ⟨_, _, hfree⟩ := ha
    refine (I.hok b ob e).stay (fun c w' hc q => (hs.2 c ?_).trans q) (fun _ q => q) fun _ _ q => q
    rintro rfl
    rcases hc with rfl | hc
    · rw [hfree] at e; cases e
    · rw [hfree] at hc; cases hc
  rcases hx with hk | hk
  · refine wpAny_storeName_local hk hn (fun h' hn' hs => ?_) hcls
    obtain ⟨oL, _, _, hoL, _⟩ := id hn
    refine h _ ⟨I.ok, I.os, I.bare, ⟨fun b o e n hb hx => ?_, fun b o e n hb hx => ?_, I.base.free, fun b o e hx => ?_, I.base.tups, I.base.frzs, I.base.tbls⟩, ⟨_, hn', fun j y v' e1 e2 e3 => ?_⟩, fun y c e => ?_, I.free, I.freeC, fun p hp => ?_, tracked ⟨oL, hoL, I.free⟩ hs, by simpa using I.len⟩ ⟨_, hs, .inl rfl⟩
    · exact (hs.2 b (Nat.ne_of_lt (Nat.lt_of_lt_of_le (Heap.lt_size e) I.ok.above))).trans (I.base.keep b o e n hb hx)
    · obtain ⟨sl, e1⟩ := I.base.slot b o e n hb hx
      exact ⟨sl, (hs.2 b (Nat.ne_of_lt (Nat.lt_of_lt_of_le (Heap.lt_size e) I.ok.above))).trans e1⟩
    · obtain ⟨o', e1⟩ := I.base.there b o e hx
      exact ⟨o', (hs.2 b (Nat.ne_of_lt (Nat.lt_of_lt_of_le (Heap.lt_size e) I.ok.above))).trans e1⟩
    · by_cases hj : j = i
      · subst hj
        rw [hi] at e1; cases e1
        rw [List.getElem?_set_self hiσ] at e2
        cases e2
        exact ⟨u, r, .inl ⟨hk, by simp⟩⟩
      · rw [List.getElem?_set_ne (Ne.symm hj)] at e2
        obtain ⟨u', r', q⟩ := hl j y v' e1 e2 e3
        refine ⟨u', r', ?_⟩
        rcases q with ⟨k, e⟩ | ⟨k, c, e, z⟩
        · refine .inl ⟨k, ?_⟩
          have : y ≠ x := fun e => hj (nodup_ix hN e1 (e ▸ hi))
          simp [this, e]
        · exact .inr ⟨k, c, e, z.sameBut hs (cne y c e)⟩
    · obtain ⟨w', z⟩ := I.cell y c e
      exact ⟨w', z.sameBut hs (cne y c e)⟩
    · obtain ⟨e, n, ne, nf, d⟩ := I.pin p hp
      exact ⟨(hs.2 p.1 ne).trans e, n, ne, nf, d⟩
  · have hfn : X.fn x = true := by
      rcases hf with z | z
      · exact z
      · rw [z] at hk; cases hk
    obtain ⟨c, hc⟩ := I.ok.has x (.inl hk)
    obtain ⟨w', z⟩ := I.cell x c hc
    refine wpAny_storeName_cell I.ok.kind hk hc z (fun h' hc' hs => ?_)
    obtain ⟨oc, hoc, hocd⟩ := id z
    refine h { s with heap := h' } ⟨I.ok, I.os, I.bare, ⟨fun b o e n hb hx => ?_, fun b o e n hb hx => ?_, I.base.free, fun b o e hx => ?_, I.base.tups, I.base.frzs, I.base.tbls⟩, ⟨m, hn.sameBut hs (Ne.symm (cne x c hc)), fun j y v' e1 e2 e3 => ?_⟩, fun y c' e => ?_, I.free, I.freeC, fun p hp => ?_, tracked ⟨oc, hoc, I.freeC x c hc⟩ hs, by simpa using I.len⟩ ⟨c, hs, .inr hc⟩
    · exact (hs.2 b (Nat.ne_of_lt (Nat.lt_of_lt_of_le (Heap.lt_size e) (I.ok.cab x c hfn hc)))).trans (I.base.keep b o e n hb hx)
    · obtain ⟨sl, e1⟩ := I.base.slot b o e n hb hx
      exact ⟨sl, (hs.2 b (Nat.ne_of_lt (Nat.lt_of_lt_of_le (Heap.lt_size e) (I.ok.cab x c hfn hc)))).trans e1⟩
    · obtain ⟨o', e1⟩ := I.base.there b o e hx
      exact ⟨o', (hs.2 b (Nat.ne_of_lt (Nat.lt_of_lt_of_le (Heap.lt_size e) (I.ok.cab x c hfn hc)))).trans e1⟩
    · by_cases hj : j = i
      · subst hj
        rw [hi] at e1; cases e1
        rw [List.getElem?_set_self hiσ] at e2
        cases e2
        exact ⟨u, r, .inr ⟨.inl hk, c, hc, hc'⟩⟩
      · rw [List.getElem?_set_ne (Ne.symm hj)] at e2
        obtain ⟨u', r', q⟩ := hl j y v' e1 e2 e3
        refine ⟨u', r', ?_⟩
        rcases q with q | ⟨k, c', e, z'⟩
        · exact .inl q
        · refine .inr ⟨k, c', e, z'.sameBut hs ?_⟩
          rintro rfl
          exact hj (nodup_ix hN e1 (I.ok.inj _ _ _ e hc ▸ hi))
    · by_cases hcc : c' = c
      · subst hcc; exact ⟨_, hc'⟩
      · obtain ⟨w2, z2⟩ := I.cell y c' e
        exact ⟨w2, z2.sameBut hs hcc⟩
    · obtain ⟨e, n, ne, nf, d⟩ := I.pin p hp
      refine ⟨(hs.2 p.1 ?_).trans e, n, ne, nf, d⟩
      intro q
      rw [q, hoc] at e
      have q' : oc = p.2 := Option.some.inj e
      exact d w' (by rw [← q']; exact hocd)
theorem store_ok {M : Model} {A : Around} {E : Value → Shared → Prop} {i : Nat} {x : Str} {v : V} {u : Value} {Q : Unit → Shared → Prop} (I : Inv X pins σ H s) (hN : X.N.Nodup) (hi : X.N[i]? = some x) (hx : Loc X.env.scope x) (r : RelV v u)
    (h : ∀ s', Inv X pins (σ.set i (some v)) H s' → Q () s') (hf : X.fn x = true ∨ X.env.scope.names.lookup x = some .local := by first | exact .inl rfl | exact .inr rfl | assumption) : wpAny M A (storeName X.env x u) Q E s :=
  store_ok2 I hN hi hx r (fun s' I' _ => h s' I') hf
/-- behind a call or a block, the state as it is -/
theorem Inv.call' {s' : Shared} {ch : List Addr} (I : Inv X pins σ H s) (ho : s'.os = s.os) (u : Un (frs X.stack) ch H H' s.heap s'.heap) (hok : HOk X.prog X.w H' s'.heap) (hg : AllBare s'.gens)
    (hch : ∀ b ∈ ch, (b ∈ X.ex ∨ X.s₀.heap.objs.size ≤ b) ∧ b ≠ X.env.locals ∧ (∀ x c, X.env.cells.lookup x = some c → c ≠ b) ∧ ∀ p ∈ X.pn ++ pins, p.1 ≠ b) : Inv X pins σ H' s' := by
  obtain ⟨h', g', d', t', o'⟩ := s'
  have e : o' = s.os := ho
  subst e
  exact I.call (g' := g') (t' := t') (d' := d') u hok hg hch
end

/-! ### the judgements -/
/-- an exception: its class, its own dict's address (where it has one), the abstract heap behind it -/
abbrev XK := Value → Option Addr → Hp → Prop
abbrev St := List (Option V)
abbrev VK := V → Hp → Prop
/-- an expression's reading; a test's; an argument list's -/
abbrev TE := St → Hp → VK → Prop
abbrev TT := St → Hp → (Bool → Hp → Prop) → Prop
abbrev TA := St → Hp → (List V → Hp → Prop) → Prop
/-- what is wanted behind a statement -/
structure Ends where
  nx : St → Hp → Prop
  rt : VK
  bk : St → Hp → Prop := fun _ _ => False
  ct : St → Hp → Prop := fun _ _ => False
abbrev TS := Ends → St → Hp → Prop

def EP (X : Cx) (pins : List (Addr × Obj)) (σ : St) (Q : VK) (u : Value) (s' : Shared) : Prop := ∃ v H', Inv X pins σ H' s' ∧ RelV v u ∧ Q v H'
def TP (X : Cx) (pins : List (Addr × Obj)) (σ : St) (Q : Bool → Hp → Prop) (b : Bool) (s' : Shared) : Prop := ∃ H', Inv X pins σ H' s' ∧ Q b H'
def AP (X : Cx) (pins : List (Addr × Obj)) (σ : St) (Q : List V → Hp → Prop) (us : List Value) (s' : Shared) : Prop := ∃ vs H', Inv X pins σ H' s' ∧ Vals vs us ∧ Q vs H'
def SP (X : Cx) (pins : List (Addr × Obj)) (D : Ends) (f : Flow) (s' : Shared) : Prop :=
  match f with
  | .next => ∃ σ' H', Inv X pins σ' H' s' ∧ D.nx σ' H'
  | .brk => ∃ σ' H', Inv X pins σ' H' s' ∧ D.bk σ' H'
  | .cont => ∃ σ' H', Inv X pins σ' H' s' ∧ D.ct σ' H'
  | .ret u => ∃ v σ' H', Inv X pins σ' H' s' ∧ RelV v u ∧ D.rt v H'

def PE (X : Cx) (e : Expr) (t : TE) : Prop :=
  ∀ (pins : List (Addr × Obj)) (s : Shared) (σ : St) (H : Hp) (Q : VK), Inv X pins σ H s → t σ H Q → wpAny (model X.prog X.w) X.A (eval e X.env) (EP X pins σ Q) X.xe s
def PT (X : Cx) (e : Expr) (t : TT) : Prop :=
  ∀ (pins : List (Addr × Obj)) (s : Shared) (σ : St) (H : Hp) (Q : Bool → Hp → Prop), Inv X pins σ H s → t σ H Q → wpAny (model X.prog X.w) X.A (isTrue e X.env (eval e X.env)) (TP X pins σ Q) X.xe s
/-- a test whatever its 'whole' is (and, or) -/
def PW (X : Cx) (e : Expr) (t : TT) : Prop :=
  ∀ (whole : Sem Value) (pins : List (Addr × Obj)) (s : Shared) (σ : St) (H : Hp) (Q : Bool → Hp → Prop), Inv X pins σ H s → t σ H Q → wpAny (model X.prog X.w) X.A (isTrue e X.env whole) (TP X pins σ Q) X.xe s
theorem PW.pt {X : Cx} {e : Expr} {t : TT} (h : PW X e t) : PT X e t := h _
/-- an argument list (no star), from the left -/
def PA (X : Cx) (es : List Expr) (t : TA) : Prop :=
  ∀ (pos : Pos) (pins : List (Addr × Obj)) (s : Shared) (σ : St) (H : Hp) (Q : List V → Hp → Prop), Inv X pins σ H s → t σ H Q → wpAny (model X.prog X.w) X.A (spliced (backTo pos (starEach es X.env))) (AP X pins σ Q) X.xe s
def PS (X : Cx) (st : Stmt) (t : TS) : Prop :=
  ∀ (pins : List (Addr × Obj)) (s : Shared) (σ : St) (H : Hp) (D : Ends), Inv X pins σ H s → t D σ H → wpAny (model X.prog X.w) X.A (exec st X.env) (SP X pins D) X.xe s
def PSs (X : Cx) (st : List Stmt) (t : TS) : Prop :=
  ∀ (pins : List (Addr × Obj)) (s : Shared) (σ : St) (H : Hp) (D : Ends), Inv X pins σ H s → t D σ H → wpAny (model X.prog X.w) X.A (execs st X.env) (SP X pins D) X.xe s
/-- weaken the end -/
theorem thn {α : Type} {t : Sem α} {Q Q' : α → Shared → Prop} {M : Model} {A : Around} {E : Value → Shared → Prop} {s : Shared} (h : wpAny M A t Q E s) (hQ : ∀ a s, Q a s → Q' a s) : wpAny M A t Q' E s := wpAny_mono h hQ fun _ _ x => x
end L2

namespace L2
open PySem PySem.Spec PyProof.Rows
section
variable {X : Cx}

/-- two expressions in a row -/
theorem bin {a b : Expr} {ta tb : TE} (ha : PE X a ta) (hb : PE X b tb) {pins : List (Addr × Obj)} {s : Shared} {σ : St} {H : Hp} {R : V → V → Hp → Prop} (I : Inv X pins σ H s) (h : ta σ H fun x H1 => tb σ H1 fun y H2 => R x y H2)
    {α : Type} {Q : α → Shared → Prop} {f : Value → Value → Sem α}
    (hf : ∀ v u s2 x y H2, Inv X pins σ H2 s2 → RelV x v → RelV y u → R x y H2 → wpAny (model X.prog X.w) X.A (f v u) Q X.xe s2) :
    wpAny (model X.prog X.w) X.A (eval a X.env) (fun v s₁ => wpAny (model X.prog X.w) X.A (eval b X.env) (fun u s₂ => wpAny (model X.prog X.w) X.A (f v u) Q X.xe s₂) X.xe s₁) X.xe s := by
  refine thn (ha pins s σ H _ I h) fun v s1 ⟨x, H1, I1, r1, q1⟩ => ?_
  refine thn (hb pins s1 σ H1 _ I1 q1) fun u s2 ⟨y, H2, I2, r2, q2⟩ => ?_
  exact hf v u s2 x y H2 I2 r1 r2 q2

/-! ### names and constants -/
def tVar (i : Nat) : TE := fun σ H Q => ∃ v, σ[i]? = some (some v) ∧ Q v H
def tC (v : V) : TE := fun _ H Q => Q v H
theorem pe_var {i : Nat} {x : Str} {pos : Pos} (hN : X.N[i]? = some x) (hv : Vis X.env.scope x) (hd : (x == ("__debug__" : Str)) = false := by decide) (hcd : (x == ("__classdict__" : Str)) = false := by decide) : PE X (.Name x pos) (tVar i) := by
  intro pins s σ H Q I h
  obtain ⟨v, e, h⟩ := h
  obtain ⟨m, hn, hl⟩ := I.loc
  obtain ⟨u, r, l⟩ := hl i x v hN e hv
  have fin : EP X pins σ Q u s := ⟨v, H, I, r, h⟩
  rcases l with ⟨hk, hm⟩ | ⟨hk, c, hc, hcell⟩
  · exact wpAny_Name (wpAny_loadName_local I.ok.kind hk hn hm fin) hd
  · rcases hk with hk | hk
    · exact wpAny_Name (wpAny_loadName_cell I.ok.kind hk hc hcell fin) hd
    · exact wpAny_Name (wpAny_loadName_free I.ok.kind hk hc hcell fin hcd) hd
theorem pe_int {i j pos} : PE X (.Constant (.int i) j pos) (tC (.int i)) := fun _ _ _ H _ I h => wpAny_Constant_int ⟨.int i, H, I.tok _, ⟨_, rfl⟩, h⟩
theorem pe_bl {b j pos} : PE X (.Constant (.bool b) j pos) (tC (.bl b)) := fun _ _ _ H _ I h => Constant_bool ⟨.bl b, H, I, rfl, h⟩
theorem pe_non {j pos} : PE X (.Constant .none j pos) (tC .non) := fun _ _ _ H _ I h => Constant_none ⟨.non, H, I, rfl, h⟩
theorem pe_str {x j pos} : PE X (.Constant (.str x) j pos) (tC (.str x)) := fun _ _ _ H _ I h => Calls.Constant_str ⟨.str x, H, I.tok _, ⟨_, rfl⟩, h⟩

/-- a global name of the def -/
def Gl (X : Cx) (x : Str) : Prop := X.env.kindOf x = some .globalImplicit
theorem ld_glob {E : Value → Shared → Prop} {pins : List (Addr × Obj)} {s : Shared} {σ : St} {H : Hp} {x : Str} {u : Value} {pos : Pos} {Q : Value → Shared → Prop} (I : Inv X pins σ H s) (hg : Gl X x) (hm : X.mg x = some u) (h : Q u s)
    (hd : (x == ("__debug__" : Str)) = false := by decide) : wpAny (model X.prog X.w) X.A (eval (.Name x pos) X.env) Q E s :=
  Calls.Name_function_global I.ok.kind hg (Calls.loadGlobal_global (by rw [I.ok.glob]; exact I.mod.glob.keeps I.bk) hm h) hd
theorem ld_blt {E : Value → Shared → Prop} {pins : List (Addr × Obj)} {s : Shared} {σ : St} {H : Hp} {x : Str} {u : Value} {pos : Pos} {Q : Value → Shared → Prop} (I : Inv X pins σ H s) (hg : Gl X x) (hm : X.mg x = none) (hv : bootBuiltins x = some u) (h : Q u s)
    (hn : x ≠ "__name__" := by decide) (hd : (x == ("__debug__" : Str)) = false := by decide) : wpAny (model X.prog X.w) X.A (eval (.Name x pos) X.env) Q E s := by
  obtain ⟨mb, h1, h2⟩ := I.mod.blt
  exact Calls.Name_function_global I.ok.kind hg (Calls.loadGlobal_builtin (by rw [I.ok.glob]; exact I.mod.glob.keeps I.bk) hm (by rw [I.ok.blt]; exact h1.keeps I.bk) ((h2 x hn).trans hv) h) hd
/-- a module's constant, a class, a function, as a value -/
theorem pe_glob {x : Str} {v : V} {u : Value} {pos : Pos} (hg : Gl X x) (hm : X.mg x = some u) (r : RelV v u) (hd : (x == ("__debug__" : Str)) = false := by decide) : PE X (.Name x pos) (tC v) :=
  fun _ _ _ H _ I h => ld_glob I hg hm ⟨v, H, I, r, h⟩ hd
theorem pe_bltn {x : Str} {v : V} {u : Value} {pos : Pos} (hg : Gl X x) (hm : X.mg x = none) (hv : bootBuiltins x = some u) (r : RelV v u) (hn : x ≠ "__name__" := by decide) (hd : (x == ("__debug__" : Str)) = false := by decide) : PE X (.Name x pos) (tC v) :=
  fun _ _ _ H _ I h => ld_blt I hg hm hv ⟨v, H, I, r, h⟩ hn hd

/-! ### arithmetic -/
/-- two ints -/
def t2I (ta tb : TE) (k : Int → Int → Hp → Prop) : St → Hp → Prop := fun σ H => ta σ H fun x H1 => tb σ H1 fun y H2 => ∃ i j, x = .int i ∧ y = .int j ∧ k i j H2
def tAdd (ta tb : TE) : TE := fun σ H Q => t2I ta tb (fun i j H2 => Q (.int (i + j)) H2) σ H
def tSub (ta tb : TE) : TE := fun σ H Q => t2I ta tb (fun i j H2 => Q (.int (i - j)) H2) σ H
/-- the left factor below 2^64 -/
def tMul (ta tb : TE) : TE := fun σ H Q => t2I ta tb (fun i j H2 => (-(2 ^ 64) < i ∧ i < 2 ^ 64) ∧ Q (.int (i * j)) H2) σ H
variable {a b : Expr} {ta tb : TE} {pos : Pos}
theorem pe_add (ha : PE X a ta) (hb : PE X b tb) : PE X (.BinOp a .Add b pos) (tAdd ta tb) := by
  intro pins s σ H Q I h
  refine wpAny_BinOp (bin ha hb I h fun v u s2 x y H2 I2 rx ry q => ?_)
  obtain ⟨i, j, rfl, rfl, q⟩ := q
  obtain ⟨t, rfl⟩ := rx
  obtain ⟨t', rfl⟩ := ry
  exact add_int ⟨.int _, H2, I2.tok _, ⟨_, rfl⟩, q⟩
theorem pe_sub (ha : PE X a ta) (hb : PE X b tb) : PE X (.BinOp a .Sub b pos) (tSub ta tb) := by
  intro pins s σ H Q I h
  refine wpAny_BinOp (bin ha hb I h fun v u s2 x y H2 I2 rx ry q => ?_)
  obtain ⟨i, j, rfl, rfl, q⟩ := q
  obtain ⟨t, rfl⟩ := rx
  obtain ⟨t', rfl⟩ := ry
  exact sub_int ⟨.int _, H2, I2.tok _, ⟨_, rfl⟩, q⟩
theorem pe_mul (ha : PE X a ta) (hb : PE X b tb) : PE X (.BinOp a .Mult b pos) (tMul ta tb) := by
  intro pins s σ H Q I h
  refine wpAny_BinOp (bin ha hb I h fun v u s2 x y H2 I2 rx ry q => ?_)
  obtain ⟨i, j, rfl, rfl, ⟨q1, q2⟩, q⟩ := q
  obtain ⟨t, rfl⟩ := rx
  obtain ⟨t', rfl⟩ := ry
  exact mul_int ⟨.int _, H2, I2.tok _, ⟨_, rfl⟩, q⟩ (.of_left (intBits_le_64 q1 q2))

/-! ### comparisons -/
def PC (X : Cx) (op : CmpOp) (a b : Expr) (t : TE) : Prop :=
  ∀ (pins : List (Addr × Obj)) (s : Shared) (σ : St) (H : Hp) (Q : VK), Inv X pins σ H s → t σ H Q →
    wpAny (model X.prog X.w) X.A (eval a X.env) (fun v s₁ => wpAny (model X.prog X.w) X.A (eval b X.env) (fun u s₂ => wpAny (model X.prog X.w) X.A (compareOp op v u) (EP X pins σ Q) X.xe s₂) X.xe s₁) X.xe s
theorem nobehind (b : Expr) {op : CmpOp} (h : op ≠ .In) (h2 : op ≠ .NotIn) : behindInMarks op b = false := by
  have e1 : (op == CmpOp.In) = false := by cases op <;> first | rfl | exact absurd rfl h
  have e2 : (op == CmpOp.NotIn) = false := by cases op <;> first | rfl | exact absurd rfl h2
  cases b <;> simp [behindInMarks, e1, e2]
def tCmp (p : Int → Int → Bool) (ta tb : TE) : TE := fun σ H Q => t2I ta tb (fun i j H2 => Q (.bl (p i j)) H2) σ H
abbrev tLt : TE → TE → TE := tCmp fun i j => decide (i < j)
abbrev tLe : TE → TE → TE := tCmp fun i j => decide (i ≤ j)
abbrev tGt : TE → TE → TE := tCmp fun i j => decide (j < i)
abbrev tGe : TE → TE → TE := tCmp fun i j => decide (j ≤ i)
abbrev tEqI : TE → TE → TE := tCmp fun i j => decide (i = j)
abbrev tNeI : TE → TE → TE := tCmp fun i j => !decide (i = j)
/-- a comparison of two ints, by its rule -/
theorem pc_int {op : CmpOp} {p : Int → Int → Bool} (ha : PE X a ta) (hb : PE X b tb)
    (rule : ∀ (i j : Int) (t u : Tok) (Q : Value → Shared → Prop) (s : Shared), Q (.bool (p i j)) s → wpAny (model X.prog X.w) X.A (compareOp op (.int i t) (.int j u)) Q X.xe s) : PC X op a b (tCmp p ta tb) := by
  intro pins s σ H Q I h
  refine bin ha hb I h fun v u s2 x y H2 I2 rx ry q => ?_
  obtain ⟨i, j, rfl, rfl, q⟩ := q
  obtain ⟨t, rfl⟩ := rx
  obtain ⟨t', rfl⟩ := ry
  exact rule i j t t' _ s2 ⟨.bl _, H2, I2, rfl, q⟩
theorem pc_lt (ha : PE X a ta) (hb : PE X b tb) : PC X .Lt a b (tLt ta tb) := pc_int ha hb fun _ _ _ _ _ _ h => lt_int h
theorem pc_le (ha : PE X a ta) (hb : PE X b tb) : PC X .LtE a b (tLe ta tb) := pc_int ha hb fun _ _ _ _ _ _ h => le_int h
theorem pc_gt (ha : PE X a ta) (hb : PE X b tb) : PC X .Gt a b (tGt ta tb) := pc_int ha hb fun _ _ _ _ _ _ h => gt_int h
theorem pc_ge (ha : PE X a ta) (hb : PE X b tb) : PC X .GtE a b (tGe ta tb) := pc_int ha hb fun _ _ _ _ _ _ h => ge_int h
theorem pc_eqI (ha : PE X a ta) (hb : PE X b tb) : PC X .Eq a b (tEqI ta tb) := pc_int ha hb fun _ _ _ _ _ _ h => eq_int (by rw [Bool.beq_eq_decide_eq]; exact h)
theorem pc_neI (ha : PE X a ta) (hb : PE X b tb) : PC X .NotEq a b (tNeI ta tb) := pc_int ha hb fun _ _ _ _ _ _ h => ne_int (by rw [bne, Bool.beq_eq_decide_eq]; exact h)
/-- is None -/
def tIsN (ta : TE) : TE := fun σ H Q => ta σ H fun x H1 => Q (.bl (decide (x = .non))) H1
def tNotN (ta : TE) : TE := fun σ H Q => ta σ H fun x H1 => Q (.bl (!decide (x = .non))) H1
theorem RelV.none_iff {x : V} {v : Value} (r : RelV x v) : (v == Value.none) = decide (x = .non) := by
  cases x with
  | non => cases r; rfl
  | bl _ => cases r; rfl
  | int _ => obtain ⟨t, rfl⟩ := r; rfl
  | str _ => obtain ⟨t, rfl⟩ := r; rfl
  | byt _ => obtain ⟨t, rfl⟩ := r; rfl
  | flt _ => obtain ⟨t, rfl⟩ := r; rfl
  | ref _ => cases r; rfl
  | ty _ => cases r; rfl
theorem pc_isN {j pos'} (ha : PE X a ta) : PC X .Is a (.Constant .none j pos') (tIsN ta) := by
  intro pins s σ H Q I h
  refine thn (ha pins s σ H _ I h) fun v s1 ⟨x, H1, I1, r1, q1⟩ => ?_
  exact Constant_none (is_none_gen ⟨.bl _, H1, I1, by rw [r1.none_iff]; rfl, q1⟩)
theorem pc_notN {j pos'} (ha : PE X a ta) : PC X .IsNot a (.Constant .none j pos') (tNotN ta) := by
  intro pins s σ H Q I h
  refine thn (ha pins s σ H _ I h) fun v s1 ⟨x, H1, I1, r1, q1⟩ => ?_
  exact Constant_none (isnot_none_gen ⟨.bl _, H1, I1, by rw [r1.none_iff]; rfl, q1⟩)
/-- a comparison as a value, as a test -/
def tB (t : TE) : TT := fun σ H Q => t σ H fun x H1 => ∃ c, x = .bl c ∧ Q c H1
theorem pe_cmp {op : CmpOp} {t : TE} (h : PC X op a b t) (h1 : behindInMarks op b = false := by first | exact nobehind _ (by decide) (by decide) | rfl) : PE X (.Compare a [op] [b] pos) t := fun pins s σ H Q I hw => wpAny_Compare1 (h pins s σ H Q I hw) h1
theorem pt_cmp {op : CmpOp} {t : TE} (h : PC X op a b t) (h1 : behindInMarks op b = false := by first | exact nobehind _ (by decide) (by decide) | rfl) : PT X (.Compare a [op] [b] pos) (tB t) := by
  intro pins s σ H Q I hw
  refine wpAny_isTrue_Compare1 (thn (h pins s σ H _ I hw) fun v s1 h1 => thn h1 fun u s2 h2 => thn h2 fun c s3 ⟨x, H1, I1, r1, q1⟩ => ?_) h1
  obtain ⟨d, rfl, q⟩ := q1
  cases r1
  exact wpAny_truthy_bool ⟨H1, I1, q⟩
/-- an expression whose value is a bool, as a test -/
theorem pt_val {e : Expr} {t : TE} (h : PE X e t) (he : ∀ whole, isTrue e X.env whole = (do let v ← whole; standAt e.pos; holding [v] (truthy v)) := by intro _; rfl) : PT X e (tB t) := by
  intro pins s σ H Q I hw
  refine isTrue_plain (thn (h pins s σ H _ I hw) fun v s1 ⟨x, H1, I1, r1, q1⟩ => ?_) (he _)
  obtain ⟨d, rfl, q⟩ := q1
  cases r1
  exact wpAny_truthy_bool ⟨H1, I1, q⟩

/-! ### and, or, not -/
variable {tA tB' : TT} {rest : List Expr}
def tAnd (t u : TT) : TT := fun σ H Q => t σ H fun c H1 => if c = true then u σ H1 Q else Q false H1
def tOr (t u : TT) : TT := fun σ H Q => t σ H fun c H1 => if c = true then Q true H1 else u σ H1 Q
def tNot (t : TT) : TT := fun σ H Q => t σ H fun c H1 => Q (!c) H1
theorem pw_and1 (ha : PT X a tA) : PW X (.BoolOp .And [a] pos) tA := by
  intro wh pins s σ H Q I h
  refine isTrue_and (thn (ha pins s σ H Q I h) fun c s1 e => ?_)
  cases c with
  | true => exact isTrue_and_nil e
  | false => exact e
theorem pw_or1 (ha : PT X a tA) : PW X (.BoolOp .Or [a] pos) tA := by
  intro wh pins s σ H Q I h
  refine isTrue_or (thn (ha pins s σ H Q I h) fun c s1 e => ?_)
  cases c with
  | false => exact isTrue_or_nil e
  | true => exact e
theorem pw_and (ha : PT X a tA) (hb : PW X (.BoolOp .And (b :: rest) pos) tB') : PW X (.BoolOp .And (a :: b :: rest) pos) (tAnd tA tB') := by
  intro wh pins s σ H Q I h
  refine isTrue_and (thn (ha pins s σ H _ I h) fun c s1 ⟨H1, I1, q1⟩ => ?_)
  cases c with
  | true => exact hb wh pins s1 σ H1 Q I1 q1
  | false => exact ⟨H1, I1, q1⟩
theorem pw_or (ha : PT X a tA) (hb : PW X (.BoolOp .Or (b :: rest) pos) tB') : PW X (.BoolOp .Or (a :: b :: rest) pos) (tOr tA tB') := by
  intro wh pins s σ H Q I h
  refine isTrue_or (thn (ha pins s σ H _ I h) fun c s1 ⟨H1, I1, q1⟩ => ?_)
  cases c with
  | true => exact ⟨H1, I1, q1⟩
  | false => exact hb wh pins s1 σ H1 Q I1 q1
theorem pt_not (ha : PT X a tA) : PT X (.UnaryOp .Not a pos) (tNot tA) := by
  intro pins s σ H Q I h
  exact isTrue_not (ha pins s σ H (fun c H1 => Q (!c) H1) I h)
/-- .. as values (bools) -/
def tAndV (ta tb : TE) : TE := fun σ H Q => ta σ H fun x H1 => ∃ c, x = .bl c ∧ if c = true then tb σ H1 Q else Q (.bl false) H1
def tOrV (ta tb : TE) : TE := fun σ H Q => ta σ H fun x H1 => ∃ c, x = .bl c ∧ if c = true then Q (.bl true) H1 else tb σ H1 Q
def tNotV (ta : TE) : TE := fun σ H Q => ta σ H fun x H1 => ∃ c, x = .bl c ∧ Q (.bl (!c)) H1
theorem pe_one {op} {t : TE} (h : PE X a t) : PE X (.BoolOp op [a] pos) t := fun pins s σ H Q I hw => BoolOp_one (h pins s σ H Q I hw)
theorem pe_and (ha : PE X a ta) (hb : PE X (.BoolOp .And (b :: rest) pos) tb) : PE X (.BoolOp .And (a :: b :: rest) pos) (tAndV ta tb) := by
  intro pins s σ H Q I h
  refine BoolOp_and (thn (ha pins s σ H _ I h) fun v s1 ⟨x, H1, I1, r1, q1⟩ => ?_)
  obtain ⟨c, rfl, q1⟩ := q1
  cases r1
  refine wpAny_truthy_bool ?_
  cases c with
  | true => exact hb pins s1 σ H1 Q I1 q1
  | false => exact ⟨.bl false, H1, I1, rfl, q1⟩
theorem pe_or (ha : PE X a ta) (hb : PE X (.BoolOp .Or (b :: rest) pos) tb) : PE X (.BoolOp .Or (a :: b :: rest) pos) (tOrV ta tb) := by
  intro pins s σ H Q I h
  refine BoolOp_or (thn (ha pins s σ H _ I h) fun v s1 ⟨x, H1, I1, r1, q1⟩ => ?_)
  obtain ⟨c, rfl, q1⟩ := q1
  cases r1
  refine wpAny_truthy_bool ?_
  cases c with
  | false => exact hb pins s1 σ H1 Q I1 q1
  | true => exact ⟨.bl true, H1, I1, rfl, q1⟩
theorem pe_not (ha : PE X a ta) : PE X (.UnaryOp .Not a pos) (tNotV ta) := by
  intro pins s σ H Q I h
  refine UnaryOp_ (thn (ha pins s σ H _ I h) fun v s1 ⟨x, H1, I1, r1, q1⟩ => ?_)
  obtain ⟨c, rfl, q1⟩ := q1
  cases r1
  exact not_of (wpAny_truthy_bool ⟨.bl (!c), H1, I1, rfl, q1⟩)
/-- a if t else b -/
def tIf (t : TT) (ta tb : TE) : TE := fun σ H Q => t σ H fun c H1 => if c = true then ta σ H1 Q else tb σ H1 Q
theorem pe_ifExp {c : Expr} (hc : PT X c tA) (ha : PE X a ta) (hb : PE X b tb) : PE X (.IfExp c a b pos) (tIf tA ta tb) := by
  intro pins s σ H Q I h
  refine wpAny_IfExp (thn (hc pins s σ H _ I h) fun d s1 ⟨H1, I1, q1⟩ => ?_)
  cases d with
  | true => exact ha pins s1 σ H1 Q I1 q1
  | false => exact hb pins s1 σ H1 Q I1 q1
end
end L2

namespace L2
open PySem PySem.Spec PyProof.Rows

/-! ### a list, a tuple that is read: tracked, frozen, or an object of the module -/
def SqL (K : PySem.W.Frag) (H : Hp) (a : Addr) (xs : List V) : Prop :=
  Rd H a (.lst xs) ∨
    ∃ (o : Obj) (its : Array Value) (n : Nat), K.lookup a = some o ∧ o.cls = .type "list" ∧ o.dict = none ∧ o.data = .seq its n ∧ its.size ≤ sizeLine ∧ Vals xs its.toList
def SqT (K : PySem.W.Frag) (H : Hp) (a : Addr) (xs : List V) : Prop :=
  Rd H a (.tup xs) ∨
    ∃ (o : Obj) (its : Array Value) (n : Nat), K.lookup a = some o ∧ o.cls = .type "tuple" ∧ o.data = .seq its n ∧ its.size ≤ sizeLine ∧ Vals xs its.toList
def absV : Value → Option V
  | .none => some .non
  | .bool b => some (.bl b)
  | .int i _ => some (.int i)
  | .str x _ => some (.str x)
  | .bytes b _ => some (.byt b)
  | .float b _ => some (.flt b)
  | .ref a => some (.ref a)
  | .type n => some (.ty n)
  | _ => none
theorem RelV.abs {x : V} {u : Value} (r : RelV x u) : absV u = some x := by
  cases x with
  | non => cases r; rfl
  | bl _ => cases r; rfl
  | int _ => obtain ⟨t, rfl⟩ := r; rfl
  | str _ => obtain ⟨t, rfl⟩ := r; rfl
  | byt _ => obtain ⟨t, rfl⟩ := r; rfl
  | flt _ => obtain ⟨t, rfl⟩ := r; rfl
  | ref _ => cases r; rfl
  | ty _ => cases r; rfl
theorem RelV.inj {x y : V} {u : Value} (r : RelV x u) (q : RelV y u) : x = y := Option.some.inj (r.abs.symm.trans q.abs)
theorem Vals.inj : ∀ {xs ys : List V} {us : List Value}, Vals xs us → Vals ys us → xs = ys
  | _, _, _, .nil, .nil => rfl
  | _, _, _, .cons r t, .cons r' t' => by rw [r.inj r', Vals.inj t t']
section
variable {X : Cx} {pins : List (Addr × Obj)} {σ : St} {H : Hp} {s : Shared} {a : Addr} {xs ys : List V}
theorem SqL.of {K : PySem.W.Frag} (h : H a = some (.lst xs)) : SqL K H a xs := .inl (.inl h)
theorem SqT.of {K : PySem.W.Frag} (h : H a = some (.tup xs)) : SqT K H a xs := .inl (.inl h)
theorem Inv.list (I : Inv X pins σ H s) (h : SqL X.K H a xs) : ∃ its : List Value, Vals xs its ∧ PlainL s.heap a its.toArray ∧ xs.length ≤ sizeLine := by
  rcases h with h | ⟨o, its, n, hk, hc, hd, hs, hz, r⟩
  · obtain ⟨z, its, n, r, e⟩ := h.ok I.hok
    exact ⟨its, r, ⟨_, n, e, rfl, rfl, rfl⟩, z⟩
  · refine ⟨its.toList, r, ⟨o, n, I.kIn a o hk, hc, hd, by simpa using hs⟩, ?_⟩
    have e := r.length
    simp only [Array.length_toList] at e
    omega
theorem Inv.tuple (I : Inv X pins σ H s) (h : SqT X.K H a xs) : ∃ its : List Value, Vals xs its ∧ IsTup s.heap a its.toArray ∧ xs.length ≤ sizeLine := by
  rcases h with h | ⟨o, its, n, hk, hc, hs, hz, r⟩
  · obtain ⟨z, its, r, p⟩ := h.ok I.hok
    exact ⟨its, r, p, z⟩
  · refine ⟨its.toList, r, ⟨o, I.kIn a o hk, hc, n, by simpa using hs⟩, ?_⟩
    have e := r.length
    simp only [Array.length_toList] at e
    omega
theorem Inv.list_inj (I : Inv X pins σ H s) (h : SqL X.K H a xs) (h' : SqL X.K H a ys) : xs = ys := by
  obtain ⟨its, r, ⟨o, n, e, _, _, d⟩, _⟩ := I.list h
  obtain ⟨its', r', ⟨o', n', e', _, _, d'⟩, _⟩ := I.list h'
  rw [e] at e'; cases e'
  rw [d] at d'
  injection d' with d1 _
  have : its = its' := by simpa using congrArg Array.toList d1
  subst this
  exact r.inj r'
theorem Inv.tuple_inj (I : Inv X pins σ H s) (h : SqT X.K H a xs) (h' : SqT X.K H a ys) : xs = ys := by
  obtain ⟨its, r, ⟨o, e, _, n, d⟩, _⟩ := I.tuple h
  obtain ⟨its', r', ⟨o', e', _, n', d'⟩, _⟩ := I.tuple h'
  rw [e] at e'; cases e'
  rw [d] at d'
  injection d' with d1 _
  have : its = its' := by simpa using congrArg Array.toList d1
  subst this
  exact r.inj r'
end

/-! ### another wish about exceptions -/
abbrev Cx.wish (X : Cx) (E : Value → Shared → Prop) : Cx := { X with xe := E }
/-- no exception leaves -/
abbrev Cx.nox (X : Cx) : Cx := X.wish fun _ _ => False
theorem Cx.Ok.wish {X : Cx} (ok : X.Ok) (E : Value → Shared → Prop) : (X.wish E).Ok :=
  ⟨ok.mod, ok.kind, ok.glob, ok.blt, ok.above, ok.inj, ok.has, ok.cab, ok.hd, ok.frames, ok.stk, ok.exf, ok.bs, ok.bsz, ok.noex, ok.exfs, ok.funs, ok.frf⟩
theorem Cx.Ok.unwish {X : Cx} {E : Value → Shared → Prop} (ok : (X.wish E).Ok) : X.Ok :=
  ⟨ok.mod, ok.kind, ok.glob, ok.blt, ok.above, ok.inj, ok.has, ok.cab, ok.hd, ok.frames, ok.stk, ok.exf, ok.bs, ok.bsz, ok.noex, ok.exfs, ok.funs, ok.frf⟩
section
variable {X : Cx} {pins : List (Addr × Obj)} {σ : St} {H : Hp} {s : Shared} {E : Value → Shared → Prop}
theorem Inv.wish (I : Inv X pins σ H s) (E : Value → Shared → Prop) : Inv (X.wish E) pins σ H s := ⟨I.ok.wish E, I.os, I.bare, I.base, I.loc, I.cell, I.free, I.freeC, I.pin, I.hok, I.len⟩
theorem Inv.unwish (I : Inv (X.wish E) pins σ H s) : Inv X pins σ H s := ⟨I.ok.unwish, I.os, I.bare, I.base, I.loc, I.cell, I.free, I.freeC, I.pin, I.hok, I.len⟩
theorem SP.unwish {D : Ends} {f : Flow} {s' : Shared} (h : SP (X.wish E) pins D f s') : SP X pins D f s' := by
  cases f with
  | next => obtain ⟨σ', H', I, q⟩ := h; exact ⟨σ', H', I.unwish, q⟩
  | brk => obtain ⟨σ', H', I, q⟩ := h; exact ⟨σ', H', I.unwish, q⟩
  | cont => obtain ⟨σ', H', I, q⟩ := h; exact ⟨σ', H', I.unwish, q⟩
  | ret u => obtain ⟨v, σ', H', I, r, q⟩ := h; exact ⟨v, σ', H', I.unwish, r, q⟩
theorem PE.nox {e : Expr} {t : TE} (h : PE X.nox e t) : PE X e t := fun pins s σ H Q I hw =>
  wpAny_mono (h pins s σ H Q (I.wish _) hw) (fun _ _ ⟨v, H', I', r, q⟩ => ⟨v, H', I'.unwish, r, q⟩) fun _ _ z => False.elim z
theorem PT.nox {e : Expr} {t : TT} (h : PT X.nox e t) : PT X e t := fun pins s σ H Q I hw =>
  wpAny_mono (h pins s σ H Q (I.wish _) hw) (fun _ _ ⟨H', I', q⟩ => ⟨H', I'.unwish, q⟩) fun _ _ z => False.elim z
theorem PSs.nox {st : List Stmt} {t : TS} (h : PSs X.nox st t) : PSs X st t := fun pins s σ H D I hw =>
  wpAny_mono (h pins s σ H D (I.wish _) hw) (fun _ _ q => q.unwish) fun _ _ z => False.elim z
end

/-! ### blocks and small statements -/
section
variable {X : Cx} {st : Stmt} {rest : List Stmt} {t u : TS} {e : Expr} {te : TE} {pos : Pos}
def tNext : TS := fun D σ H => D.nx σ H
def tSeq (t u : TS) : TS := fun D σ H => t { D with nx := u D } σ H
theorem pss_nil : PSs X [] tNext := fun _ _ σ H _ I h => wpAny_execs_nil ⟨σ, H, I, h⟩
theorem pss_cons (h1 : PS X st t) (h2 : PSs X rest u) : PSs X (st :: rest) (tSeq t u) := by
  intro pins s σ H D I h
  refine wpAny_execs_cons (thn (h1 pins s σ H { D with nx := u D } I h) fun f s1 q => ?_)
  cases f with
  | next =>
    obtain ⟨σ', H', I', q⟩ := q
    exact h2 pins s1 σ' H' D I' q
  | ret v => exact q
  | brk => exact q
  | cont => exact q
theorem pss_one (h1 : PS X st t) : PSs X [st] t := by
  intro pins s σ H D I h
  refine wpAny_execs_cons (thn (h1 pins s σ H D I h) fun f s1 q => ?_)
  cases f with
  | next => exact wpAny_execs_nil q
  | ret v => exact q
  | brk => exact q
  | cont => exact q
def tBreak : TS := fun D σ H => D.bk σ H
def tCont : TS := fun D σ H => D.ct σ H
theorem ps_pass : PS X (.Pass pos) tNext := fun _ _ σ H _ I h => wpAny_Pass ⟨σ, H, I, h⟩
theorem ps_break : PS X (.Break pos) tBreak := fun _ _ σ H _ I h => wpAny_Break ⟨σ, H, I, h⟩
theorem ps_continue : PS X (.Continue pos) tCont := fun _ _ σ H _ I h => wpAny_Continue ⟨σ, H, I, h⟩
/-- in a def's body nothing is shown -/
theorem Inv.quiet {pins : List (Addr × Obj)} {σ : St} {H : Hp} {s : Shared} (I : Inv X pins σ H s) : interactive X.env = false := by simp [interactive, I.ok.kind]
/-- a docstring -/
theorem ps_doc {x j pos pos'} : PS X (.Expr (.Constant (.str x) j pos) pos') tNext := fun _ s σ H _ I h => wpAny_Expr (Calls.Constant_str (show SP X _ _ .next { s with toks := s.toks + 1 } from ⟨σ, H, I.tok _, h⟩)) I.quiet
/-- an expression whose value is dropped -/
def tDrop (te : TE) : TS := fun D σ H => te σ H fun _ H1 => D.nx σ H1
theorem ps_expr (he : PE X e te) (hs : swapsWith e none pos.line X.env = pure false := by rfl) : PS X (.Expr e pos) (tDrop te) := by
  intro pins s σ H D I h
  exact wpAny_Expr_any (thn (he pins s σ H _ I h) fun v s1 ⟨x, H1, I1, r1, q1⟩ => ⟨σ, H1, I1, q1⟩) I.quiet hs
def tRet (te : TE) : TS := fun D σ H => te σ H D.rt
theorem ps_ret (he : PE X e te) : PS X (.Return (some e) pos) (tRet te) := by
  intro pins s σ H D I h
  exact wpAny_Return_some (thn (he pins s σ H _ I h) fun v s1 ⟨x, H1, I1, r1, q1⟩ => ⟨x, σ, H1, I1, r1, q1⟩)
def tRetN : TS := fun D _ H => D.rt .non H
theorem ps_retN : PS X (.Return none pos) tRetN := fun _ _ σ H _ I h => wpAny_Return_none ⟨.non, σ, H, I, rfl, h⟩
def tIfS (c : TT) (t u : TS) : TS := fun D σ H => c σ H fun b H1 => if b = true then t D σ H1 else u D σ H1
theorem ps_if {c : Expr} {a b : List Stmt} {tc : TT} (hc : PT X c tc) (ha : PSs X a t) (hb : PSs X b u) : PS X (.If c a b pos) (tIfS tc t u) := by
  intro pins s σ H D I h
  refine wpAny_If (thn (hc pins s σ H _ I h) fun d s1 ⟨H1, I1, q1⟩ => ?_)
  cases d with
  | true => exact ha pins s1 σ H1 D I1 q1
  | false => exact hb pins s1 σ H1 D I1 q1
/-- code that the proof never comes to -/
def tNever : TS := fun _ _ _ => False
theorem ps_never : PS X st tNever := fun _ _ _ _ _ _ h => h.elim
theorem pss_never {sts : List Stmt} : PSs X sts tNever := fun _ _ _ _ _ _ h => h.elim
end

/-! ### targets -/
abbrev TG := V → St → Hp → (St → Hp → Prop) → Prop
abbrev TGs := List V → St → Hp → (St → Hp → Prop) → Prop
def PG (X : Cx) (target : Expr) (t : TG) : Prop :=
  ∀ (pins : List (Addr × Obj)) (s : Shared) (σ : St) (H : Hp) (v : V) (u : Value) (Q : St → Hp → Prop), Inv X pins σ H s → RelV v u → t v σ H Q →
    wpAny (model X.prog X.w) X.A (assign target X.env u) (fun _ s' => ∃ σ' H', Inv X pins σ' H' s' ∧ Q σ' H') X.xe s
/-- several targets, one after another -/
def PGs (X : Cx) (ts : List Expr) (t : TGs) : Prop :=
  ∀ (pins : List (Addr × Obj)) (s : Shared) (σ : St) (H : Hp) (vs : List V) (us : List Value) (Q : St → Hp → Prop), Inv X pins σ H s → Vals vs us → t vs σ H Q →
    wpAny (model X.prog X.w) X.A (assignInOrder ((assignEach ts X.env).map (·.2)) us) (fun _ s' => ∃ σ' H', Inv X pins σ' H' s' ∧ Q σ' H') X.xe s
/-- o[i] = v, by values -/
abbrev TSet := V → V → V → Hp → (Hp → Prop) → Prop
def PSet (X : Cx) (t : TSet) : Prop :=
  ∀ (pins : List (Addr × Obj)) (s : Shared) (σ : St) (H : Hp) (o i v : V) (ov iv u : Value) (Q : Hp → Prop), Inv X pins σ H s → RelV o ov → RelV i iv → RelV v u → t o i v H Q →
    wpAny (model X.prog X.w) X.A (setItem ov iv u) (fun _ s' => ∃ H', Inv X pins σ H' s' ∧ Q H') X.xe s
/-- a op= b, by values -/
abbrev TIp := V → V → Hp → VK → Prop
def PIp (X : Cx) (op : Operator) (t : TIp) : Prop :=
  ∀ (pins : List (Addr × Obj)) (s : Shared) (σ : St) (H : Hp) (x y : V) (v u : Value) (Q : VK), Inv X pins σ H s → RelV x v → RelV y u → t x y H Q →
    wpAny (model X.prog X.w) X.A (inplaceOp op v u) (EP X pins σ Q) X.xe s
section
variable {X : Cx} {pos : Pos}
def gName (i : Nat) : TG := fun v σ H Q => Q (σ.set i (some v)) H
theorem pg_name {i : Nat} {x : Str} (hN : X.N.Nodup) (hi : X.N[i]? = some x) (hx : Loc X.env.scope x) (hf : X.fn x = true ∨ X.env.scope.names.lookup x = some .local := by first | exact .inl rfl | exact .inr rfl | assumption) : PG X (.Name x pos) (gName i) := by
  intro pins s σ H v u Q I r h
  exact wpAny_assign_Name (store_ok I hN hi hx r (fun s' I' => ⟨_, H, I', h⟩) hf)
def gNil : TGs := fun vs σ H Q => vs = [] ∧ Q σ H
def gCons (t : TG) (u : TGs) : TGs := fun vs σ H Q => ∃ v r, vs = v :: r ∧ t v σ H fun σ' H' => u r σ' H' Q
theorem pgs_nil : PGs X [] gNil := by
  intro pins s σ H vs us Q I r h
  obtain ⟨e, h⟩ := h
  subst e
  cases r
  exact assignInOrder_nil ⟨σ, H, I, h⟩
theorem pgs_cons {e : Expr} {es : List Expr} {t : TG} {u : TGs} (h1 : PG X e t) (h2 : PGs X es u)
    (hs : (assignEach (e :: es) X.env).map (·.2) = assign e X.env :: (assignEach es X.env).map (·.2) := by rfl) : PGs X (e :: es) (gCons t u) := by
  intro pins s σ H vs us Q I r h
  obtain ⟨v, vr, e1, h⟩ := h
  subst e1
  cases r with
  | cons r rr =>
    rw [hs]
    refine assignInOrder_cons (thn (h1 pins s σ H _ _ _ I r h) fun _ s1 ⟨σ1, H1, I1, q1⟩ => ?_)
    exact h2 pins s1 σ1 H1 _ _ Q I1 rr q1
/-- (a, b, ..) = a tuple of that length -/
def gTup (K : PySem.W.Frag) (n : Nat) (t : TGs) : TG := fun v σ H Q => ∃ a xs, v = .ref a ∧ SqT K H a xs ∧ xs.length = n ∧ t xs σ H Q
theorem pg_tup {es : List Expr} {k : Nat} {t : TGs} {n : Nat} (hc : X.calm = true) (h : PGs X es t)
    (hn : (assignEach es X.env).length = n := by rfl) (hst : (assignEach es X.env).findIdx? (·.1) = none := by rfl) : PG X (.Tuple es k pos) (gTup X.K n t) := by
  intro pins s σ H v u Q I r hw
  obtain ⟨a, xs, e1, hq, hl, hw⟩ := hw
  subst e1
  cases r
  obtain ⟨its, rv, ht, hz⟩ := I.tuple hq
  refine assign_Tuple_tuple (I.ok.hd hc) ht (by simp [hn, ← hl, rv.length]) hst fun h' hx => ?_
  have I1 : Inv X pins σ H { s with heap := h' } := I.kept (t' := s.toks) fun b o e => hx b o (Nat.ne_of_lt (Heap.lt_size e)) e
  exact h pins _ σ H xs _ Q I1 (by simpa using rv) hw
/-- o[i] = .. -/
def gSub (to ti : TE) (t : TSet) : TG := fun v σ H Q => to σ H fun o H1 => ti σ H1 fun i H2 => t o i v H2 fun H3 => Q σ H3
theorem pg_sub {o i : Expr} {to ti : TE} {t : TSet} (ho : PE X o to) (hi : PE X i ti) (hs : PSet X t)
    (ha : ∀ v, assign (.Subscript o i pos) X.env v = (do
      let ov ← holding [v] (eval o X.env)
      let iv ← holding [v, ov] (eval i X.env)
      standAt pos
      holding [v, ov, iv] (setItem ov iv v)
      release [v, ov, iv] []) := by intro _; rfl) : PG X (.Subscript o i pos) (gSub to ti t) := by
  intro pins s σ H v u Q I r h
  rw [ha]
  refine wpAny_bind (wpAny_holding (thn (ho pins s σ H _ I h) fun ov s1 ⟨x, H1, I1, r1, q1⟩ => ?_))
  refine wpAny_bind (wpAny_holding (thn (hi pins s1 σ H1 _ I1 q1) fun iv s2 ⟨y, H2, I2, r2, q2⟩ => ?_))
  refine wpAny_bind (wpAny_standAt (wpAny_bind (wpAny_holding (thn (hs pins s2 σ H2 x y v ov iv u _ I2 r1 r2 r q2) fun _ s3 ⟨H3, I3, q3⟩ => ?_))))
  exact wpAny_release ⟨σ, H3, I3, q3⟩
/-- target = value -/
def tAsg (te : TE) (g : TG) : TS := fun D σ H => te σ H fun x H1 => g x σ H1 D.nx
theorem ps_asg {tg e : Expr} {te : TE} {g : TG} (he : PE X e te) (hg : PG X tg g) (hs : swapsWithSole [tg] e pos.line X.env = pure false := by rfl) (hw : swappedStores [tg] e X.env = pure none := by rfl)
    (h1 : (assignEach [tg] X.env).map (·.2) = [assign tg X.env] := by rfl) : PS X (.Assign [tg] e pos) (tAsg te g) := by
  intro pins s σ H D I h
  refine wpAny_Assign_stores (thn (he pins s σ H _ I h) fun v s1 ⟨x, H1, I1, r1, q1⟩ => ?_) hs hw
  rw [h1]
  exact thn (hg pins s1 σ H1 x v _ I1 r1 q1) fun _ s2 q => q
/-- name = value -/
theorem ps_set {i : Nat} {x : Str} {e : Expr} {te : TE} {pos' : Pos} (hN : X.N.Nodup) (hi : X.N[i]? = some x) (hx : Loc X.env.scope x) (he : PE X e te) (hs : swapsWith e (some (.Name x pos')) pos.line X.env = pure false := by rfl) (hf : X.fn x = true ∨ X.env.scope.names.lookup x = some .local := by first | exact .inl rfl | exact .inr rfl | assumption) :
    PS X (.Assign [.Name x pos'] e pos) (tAsg te (gName i)) := by
  intro pins s σ H D I h
  refine wpAny_Assign_Name (thn (he pins s σ H _ I h) fun v s1 ⟨y, H1, I1, r1, q1⟩ => ?_) hs
  exact store_ok I1 hN hi hx r1 (fun s2 I2 => ⟨_, H1, I2, q1⟩) hf
/-- a, b = x, y with plain local names: stored from the right; the pair itself is not tracked (the opening rows as in PyProof/Rows/TupAssign.lean:23) -/
def tPar (i j : Nat) (ta : TA) : TS := fun D σ H => ta σ H fun vs H1 => ∃ v w, vs = [v, w] ∧ D.nx ((σ.set i (some v)).set j (some w)) H1
theorem ps_par {i j : Nat} {x y : Str} {a b : Expr} {ta : TA} {px py pt : Pos} {kt k2 pt2} (hc : X.calm = true) (hN : X.N.Nodup) (hi : X.N[i]? = some x) (hj : X.N[j]? = some y) (hij : i ≠ j)
    (hx : X.env.scope.names.lookup x = some .local) (hy : X.env.scope.names.lookup y = some .local) (ha : PA X [a, b] ta)
    (hw : swappedStores [.Tuple [.Name x px, .Name y py] kt pt] (.Tuple [a, b] k2 pt2) X.env = pure (some [x, y]))
    (hs : swapsWithSole [.Tuple [.Name x px, .Name y py] kt pt] (.Tuple [a, b] k2 pt2) pos.line X.env = pure false := by rfl) :
    PS X (.Assign [.Tuple [.Name x px, .Name y py] kt pt] (.Tuple [a, b] k2 pt2) pos) (tPar i j ta) := by
  intro pins s σ H D I h
  rw [exec_Assign_arm]
  refine wpAny_bind (wpAny_standAt ?_)
  rw [hs]
  refine wpAny_bind (wpAny_pure ?_)
  rw [if_neg (by decide)]
  refine wpAny_bind (Tuple_ (thn (ha _ pins s σ H _ I h) fun us s1 ⟨vs, H1, I1, r1, q1⟩ => ?_))
  obtain ⟨v, w, e1, q1⟩ := q1
  subst e1
  obtain ⟨u1, u2, rfl, rv, rw'⟩ : ∃ u1 u2, us = [u1, u2] ∧ RelV v u1 ∧ RelV w u2 := by
    cases r1 with
    | cons p q =>
      cases q with
      | cons p' q' =>
        cases q'
        exact ⟨_, _, rfl, p, p'⟩
  refine wpAny_newObj_type ?_ (by show 2 ≤ sizeLine; decide)
  have I2 : Inv X pins σ H1 { s1 with heap := s1.heap.push { cls := .type "tuple", data := .seq [u1, u2].toArray } } := I1.kept (t' := s1.toks) fun b o e => Heap.get?_push_of_some _ e
  rw [hw]
  refine wpAny_bind (wpAny_pure ?_)
  show wpAny (model X.prog X.w) X.A (do rule "assign.swapped-stores"; let items ← unpackItems (.ref s1.heap.objs.size) 2 none; assignInOrder [fun v => bindName X.env y v, fun v => bindName X.env x v] items.reverse; pure Flow.next) _ _ _
  refine wpAny_bind (wpAny_rule (wpAny_bind (unpackItems_tuple (items := #[u1, u2]) (I.ok.hd hc) (IsTup.new s1.heap _) fun h' hx' => ?_)))
  have I3 := I2.kept (h' := h') (t' := s1.toks) fun b o e => hx' b o (Nat.ne_of_lt (Heap.lt_size e)) e
  show wpAny _ _ (assignInOrder [fun v => bindName X.env y v, fun v => bindName X.env x v] [u2, u1] >>= fun _ => pure Flow.next) _ _ _
  refine wpAny_bind (assignInOrder_cons (wpAny_bindName (store_ok I3 hN hj (.inl hy) rw' (fun s2 I4 => ?_) (.inr hy))))
  refine assignInOrder_cons (wpAny_bindName (store_ok I4 hN hi (.inl hx) rv (fun s3 I5 => assignInOrder_nil (wpAny_pure ?_)) (.inr hx)))
  rw [List.set_comm _ _ (Ne.symm hij)] at I5
  exact ⟨_, H1, I5, q1⟩
/-- name op= e -/
def tAug (i : Nat) (te : TE) (ti : TIp) : TS := fun D σ H => ∃ x, σ[i]? = some (some x) ∧ te σ H fun y H1 => ti x y H1 fun z H2 => D.nx (σ.set i (some z)) H2
theorem ps_aug {i : Nat} {x : Str} {e : Expr} {te : TE} {op : Operator} {ti : TIp} {pos' : Pos} (hN : X.N.Nodup) (hi : X.N[i]? = some x) (hx : Loc X.env.scope x) (he : PE X e te) (ho : PIp X op ti) (hf : X.fn x = true ∨ X.env.scope.names.lookup x = some .local := by first | exact .inl rfl | exact .inr rfl | assumption) :
    PS X (.AugAssign (.Name x pos') op e pos) (tAug i te ti) := by
  intro pins s σ H D I h
  obtain ⟨v, e1, h⟩ := h
  obtain ⟨m, hn, hl⟩ := I.loc
  have vis : Vis X.env.scope x := by rcases hx with k | k; exact .inl k; exact .inr (.inl k)
  obtain ⟨u, r, l⟩ := hl i x v hi e1 vis
  refine wpAny_AugAssign_Name ?_
  have go : wpAny (model X.prog X.w) X.A (eval e X.env) (fun w s₂ => wpAny (model X.prog X.w) X.A (inplaceOp op u w) (fun r s₃ => wpAny (model X.prog X.w) X.A (storeName X.env x r) (fun _ => SP X pins D .next) X.xe s₃) X.xe s₂) X.xe s := by
    refine thn (he pins s σ H _ I h) fun w s1 ⟨y, H1, I1, r1, q1⟩ => ?_
    refine thn (ho pins s1 σ H1 v y u w _ I1 r r1 q1) fun z s2 ⟨zv, H2, I2, r2, q2⟩ => ?_
    exact store_ok I2 hN hi hx r2 (fun s3 I3 => ⟨_, H2, I3, q2⟩) hf
  rcases l with ⟨hk, hm⟩ | ⟨hk, c, hc, hcell⟩
  · exact wpAny_loadName_local I.ok.kind hk hn hm go
  · rcases hk with hk | hk
    · exact wpAny_loadName_cell I.ok.kind hk hc hcell go
    · rcases hx with k | k
      · have : X.env.scope.names.lookup x = some .free := hk
        rw [k] at this; cases this
      · have : X.env.scope.names.lookup x = some .free := hk
        rw [k] at this; cases this
/-- o[i] op= e -/
def tAugS (to ti te : TE) (tget : V → V → Hp → VK → Prop) (tip : TIp) (tset : TSet) : TS := fun D σ H => to σ H fun o H1 => ti σ H1 fun i H2 => tget o i H2 fun x H3 => te σ H3 fun y H4 => tip x y H4 fun z H5 => tset o i z H5 fun H6 => D.nx σ H6
/-- o[i], by values -/
def PGet (X : Cx) (t : V → V → Hp → VK → Prop) : Prop :=
  ∀ (pins : List (Addr × Obj)) (s : Shared) (σ : St) (H : Hp) (o i : V) (ov iv : Value) (Q : VK), Inv X pins σ H s → RelV o ov → RelV i iv → t o i H Q →
    wpAny (model X.prog X.w) X.A (getItem ov iv) (EP X pins σ Q) X.xe s
theorem ps_augS {o i e : Expr} {to ti te : TE} {tget : V → V → Hp → VK → Prop} {tip : TIp} {tset : TSet} {op : Operator} {tpos : Pos} (ho : PE X o to) (hi : PE X i ti) (hg : PGet X tget) (he : PE X e te) (hp : PIp X op tip) (hs : PSet X tset)
    (ha : ∀ ov iv new, augStore i ov iv new = (do holding [new, ov, iv] (setItem ov iv new); release [new, ov, iv] []; pure .next) := by intros; rfl) : PS X (.AugAssign (.Subscript o i tpos) op e pos) (tAugS to ti te tget tip tset) := by
  intro pins s σ H D I h
  refine wpAny_AugAssign_SubscriptAny (thn (ho pins s σ H _ I h) fun ov s1 ⟨x1, H1, I1, r1, q1⟩ => ?_) ha
  refine thn (hi pins s1 σ H1 _ I1 q1) fun iv s2 ⟨x2, H2, I2, r2, q2⟩ => ?_
  refine thn (hg pins s2 σ H2 x1 x2 ov iv _ I2 r1 r2 q2) fun old s3 ⟨x3, H3, I3, r3, q3⟩ => ?_
  refine thn (he pins s3 σ H3 _ I3 q3) fun v s4 ⟨x4, H4, I4, r4, q4⟩ => ?_
  refine thn (hp pins s4 σ H4 x3 x4 old v _ I4 r3 r4 q4) fun new s5 ⟨x5, H5, I5, r5, q5⟩ => ?_
  exact thn (hs pins s5 σ H5 x1 x2 x5 ov iv new _ I5 r1 r2 r5 q5) fun _ s6 ⟨H6, I6, q6⟩ => ⟨σ, H6, I6, q6⟩
/-- ints -/
def ipI (f : Int → Int → Int) : TIp := fun x y H Q => ∃ i j, x = .int i ∧ y = .int j ∧ Q (.int (f i j)) H
theorem ip_add : PIp X .Add (ipI fun i j => i + j) := by
  intro pins s σ H x y v u Q I r1 r2 h
  obtain ⟨i, j, e1, e2, q⟩ := h
  subst e1; subst e2
  obtain ⟨t, rfl⟩ := r1
  obtain ⟨t', rfl⟩ := r2
  exact iadd_int ⟨.int _, H, I.tok _, ⟨_, rfl⟩, q⟩
theorem ip_sub : PIp X .Sub (ipI fun i j => i - j) := by
  intro pins s σ H x y v u Q I r1 r2 h
  obtain ⟨i, j, e1, e2, q⟩ := h
  subst e1; subst e2
  obtain ⟨t, rfl⟩ := r1
  obtain ⟨t', rfl⟩ := r2
  exact isub_int ⟨.int _, H, I.tok _, ⟨_, rfl⟩, q⟩
end

/-! ### while -/
section
variable {X : Cx} {pos : Pos}
/-- the invariant W with its measure -/
def tWhile (c : TT) (tb : TS) : TS := fun D σ H => ∃ W : Nat → St → Hp → Prop, (∃ m, W m σ H) ∧ ∀ m σ H, W m σ H →
  c σ H fun b H1 => if b = true then ∃ N : St → Hp → Prop, (∀ σ' H', N σ' H' → ∃ m', m' < m ∧ W m' σ' H') ∧ tb { D with nx := N, ct := N, bk := D.nx } σ H1 else D.nx σ H1
theorem ps_while {c : Expr} {body : List Stmt} {tc : TT} {tb : TS} (hp : PassesOwn (model X.prog X.w) X.A X.env X.xe) (hc : PT X c tc) (hb : PSs X body tb) : PS X (.While c body [] pos) (tWhile tc tb) := by
  intro pins s σ H D I h
  obtain ⟨W, ⟨m0, w0⟩, turn⟩ := h
  refine wpAny_While (codeAny_whileLoop (fun n s' => ∃ σ' H', Inv X pins σ' H' s' ∧ W n σ' H') ?_ m0 ⟨σ, H, I, w0⟩)
  rintro n s1 ⟨σ1, H1, I1, w1⟩
  refine wpAny_passesOwn hp (thn (hc pins s1 σ1 H1 _ I1 (turn n σ1 H1 w1)) fun b s2 ⟨H2, I2, q2⟩ => ?_)
  cases b with
  | true =>
    obtain ⟨N, hN, q2⟩ := q2
    rw [if_pos rfl]
    refine wpAny_passesOwn hp (thn (hb pins s2 σ1 H2 _ I2 q2) fun f s3 q3 => ?_)
    cases f with
    | next =>
      obtain ⟨σ3, H3, I3, n3⟩ := q3
      obtain ⟨m', hm, w3⟩ := hN σ3 H3 n3
      exact ⟨m', hm, σ3, H3, I3, w3⟩
    | cont =>
      obtain ⟨σ3, H3, I3, n3⟩ := q3
      obtain ⟨m', hm, w3⟩ := hN σ3 H3 n3
      exact ⟨m', hm, σ3, H3, I3, w3⟩
    | brk => exact q3
    | ret v => exact q3
  | false =>
    rw [if_neg Bool.false_ne_true]
    exact wpAny_execs_nil ⟨σ1, H2, I2, q2⟩
end

/-! ### what a loop or a comprehension walks -/
/-- at turn i: it yields x (the heap may grow), or it stops -/
structure It where
  go : Nat → Hp → Prop
  yld : Nat → Hp → V → Hp → Prop
  stop : Nat → Hp → Prop
/-- the iterator's own objects may turn: they are not the frame's, not pinned, younger than the entry (or a comprehension's own) -/
def FpOk (X : Cx) (pins : List (Addr × Obj)) (H : Hp) (b : Addr) : Prop :=
  H b = none ∧ b ≠ X.env.locals ∧ b ∉ X.fs ∧ (b ∈ X.ex ∨ X.s₀.heap.objs.size ≤ b) ∧ (∀ x c, X.env.cells.lookup x = some c → c ≠ b) ∧ ∀ p ∈ X.pn ++ pins, p.1 ≠ b
theorem Inv.fpOk {X : Cx} {pins : List (Addr × Obj)} {σ : St} {H H' : Hp} {s : Shared} {b : Addr} (I : Inv X pins σ H s) (hb : s.heap.objs.size ≤ b) (hn : H' b = none) : FpOk X pins H' b := by
  refine ⟨hn, Nat.ne_of_gt (Nat.lt_of_lt_of_le I.lt hb), I.nofs hb, .inr (Nat.le_trans I.sz hb), fun x c e z => ?_, fun p hp z => ?_⟩
  · obtain ⟨v, q⟩ := I.cell x c e
    exact absurd (Nat.lt_of_lt_of_le q.lt (by rw [z]; exact hb)) (Nat.lt_irrefl _)
  · exact absurd (Nat.lt_of_lt_of_le (Heap.lt_size (I.pin p hp).1) (by rw [z]; exact hb)) (Nat.lt_irrefl _)
structure Turn (P : Program) (w : World) (K : PySem.W.Frag) (tg : Expr) (J : It) (fp : List Addr) (it : Addr) (tn : Nat → Heap → Prop) : Prop where
  mem : it ∈ fp
  obj : ∀ i h, tn i h → ∀ b ∈ fp, ∃ o, h.get? b = some o ∧ ∀ v, o.data ≠ .cell v
  keep : ∀ i h h', tn i h → (∀ b ∈ fp, ∀ o, h.get? b = some o → h'.get? b = some o) → tn i h'
  item : ∀ (X : Cx), X.prog = P → X.w = w → X.K = K → X.calm = true → ∀ (i : Nat) (pins : List (Addr × Obj)) (s : Shared) (σ : St) (H : Hp) (E : Value → Shared → Prop), Inv X pins σ H s → (∀ b ∈ fp, FpOk X pins H b) → tn i s.heap → J.go i H →
    wpAny (model P w) X.A (pyNext (.ref it)) (fun r s1 => ∃ u, r = some u ∧
      wpAny (model P w) X.A (letOwnedTupleGo tg (.ref it) u) (fun _ s2 => ∃ x H', Inv X pins σ H' s2 ∧ RelV x u ∧ J.yld i H x H' ∧ tn (i + 1) s2.heap ∧ ∀ b ∈ fp, H' b = none) E s1) E s
  done : ∀ (X : Cx), X.prog = P → X.w = w → X.K = K → X.calm = true → ∀ (i : Nat) (pins : List (Addr × Obj)) (s : Shared) (σ : St) (H : Hp) (E : Value → Shared → Prop), Inv X pins σ H s → (∀ b ∈ fp, FpOk X pins H b) → tn i s.heap → J.stop i H →
    wpAny (model P w) X.A (pyNext (.ref it)) (fun r s1 => r = none ∧ Inv X pins σ H s1) E s
  self : ∀ (A : Around) (i : Nat) (s : Shared) (Q : Value → Shared → Prop) (E : Value → Shared → Prop), tn i s.heap → Q (.ref it) s → wpAny (model P w) A (pyIter (.ref it)) Q E s
abbrev TI := St → Hp → (It → Hp → Prop) → Prop
/-- an iterator has come -/
def PIE (X : Cx) (pins : List (Addr × Obj)) (σ : St) (tg : Expr) (R : It → Hp → Prop) (itv : Value) (s2 : Shared) : Prop :=
  ∃ (it : Addr) (fp : List Addr) (tn : Nat → Heap → Prop) (J : It) (H' : Hp), itv = .ref it ∧ Inv X pins σ H' s2 ∧ Turn X.prog X.w X.K tg J fp it tn ∧ tn 0 s2.heap ∧ (∀ b ∈ fp, FpOk X pins H' b) ∧ R J H'
def PI (X : Cx) (tg iter : Expr) (wi : TI) : Prop :=
  ∀ (pins : List (Addr × Obj)) (s : Shared) (σ : St) (H : Hp) (R : It → Hp → Prop), Inv X pins σ H s → wi σ H R →
    wpAny (model X.prog X.w) X.A (eval iter X.env) (fun v s1 => wpAny (model X.prog X.w) X.A (pyIter v) (PIE X pins σ tg R) X.xe s1) X.xe s

/-- the step ahead of the store is nothing for an iterator that keeps no tuple -/
theorem go_of {M : Model} {A : Around} {E : Value → Shared → Prop} {s : Shared} {tg : Expr} {it : Addr} {u : Value} {o : Obj} {n : String} {vs : Array Value} {Q : Unit → Shared → Prop} (ho : s.heap.get? it = some o) (hc : o.cls = .type n) (hd : o.data = .fields vs)
    (hn : ["enumerate", "zip", "dict_itemiterator", "dict_reverseitemiterator", "odict_iterator", "itertools.zip_longest", "itertools.pairwise"].contains n = false) (hQ : Q () s) : wpAny M A (letOwnedTupleGo tg (.ref it) u) Q E s := by
  unfold letOwnedTupleGo
  cases tg <;> first
    | exact wpAny_pure hQ
    | (cases u <;> first
        | exact wpAny_pure hQ
        | (refine wpAny_bind (wpAny_load ho ?_)
           rw [hc, hd]
           show wpAny M A (if (["enumerate", "zip", "dict_itemiterator", "dict_reverseitemiterator", "odict_iterator", "itertools.zip_longest", "itertools.pairwise"].contains n && vs[0]? == some (rawInt _)) = true then _ else _) Q E s
           rw [if_neg (by intro h; rw [hn, Bool.false_and] at h; cases h)]
           exact wpAny_pure hQ))

/-- the list at a, as it stands at each turn (a loop may append to it) -/
def Itl (K : PySem.W.Frag) (a : Addr) : It :=
  ⟨fun i H => ∃ xs x, SqL K H a xs ∧ xs[i]? = some x, fun i H x H' => H' = H ∧ ∀ xs, SqL K H a xs → xs[i]? = some x, fun i H => ∃ xs, SqL K H a xs ∧ xs.length ≤ i⟩
def Itt (K : PySem.W.Frag) (a : Addr) : It :=
  ⟨fun i H => ∃ xs x, SqT K H a xs ∧ xs[i]? = some x, fun i H x H' => H' = H ∧ ∀ xs, SqT K H a xs → xs[i]? = some x, fun i H => ∃ xs, SqT K H a xs ∧ xs.length ≤ i⟩
/-- lo, lo + 1, .. (n of them) -/
def Itr (lo : Int) (n : Nat) : It := ⟨fun i _ => i < n, fun i H x H' => H' = H ∧ x = .int (lo + i), fun i _ => n ≤ i⟩
theorem turn_list {P : Program} {w : World} {K : PySem.W.Frag} {tg : Expr} (a it : Addr) : Turn P w K tg (Itl K a) [it] it (fun i h => h.IsListIter it a i) where
  mem := by simp
  obj := fun i h st b hb => by
    have e : b = it := by simpa using hb
    subst e
    obtain ⟨o, e, c, d⟩ := st
    exact ⟨o, e, fun v z => by rw [d] at z; cases z⟩
  keep := fun i h h' st k => st.at fun o e => k it (by simp) o e
  item := by
    intro X hP hw hK hc i pins s σ H E I hf st hg
    subst hP hw hK
    obtain ⟨xs, x, hq, hx⟩ := hg
    obtain ⟨its, rv, p, hz⟩ := I.list hq
    obtain ⟨u, hu, ru⟩ := rv.get hx
    obtain ⟨f0, f1, f2, f3, f4, f5⟩ := hf it (by simp)
    refine wpAny_pyNext_list_item st p.isList (x := u) (by simpa using hu) fun h' st' sb => ?_
    have I1 : Inv X pins σ H { s with heap := h' } := I.turned (t' := s.toks) (fun b o hb e => (sb.2 b hb).trans e) f0 f1 f3 f4 f5
    obtain ⟨o, e, c, d⟩ := id st'
    exact ⟨u, rfl, go_of (s := { s with heap := h' }) e c d (by decide) ⟨x, H, I1, ru, ⟨rfl, fun ys hy => by rw [I.list_inj hy hq]; exact hx⟩, st', fun b hb => (hf b hb).1⟩⟩
  done := by
    intro X hP hw hK hc i pins s σ H E I hf st hg
    subst hP hw hK
    obtain ⟨xs, hq, hx⟩ := hg
    obtain ⟨its, rv, p, hz⟩ := I.list hq
    obtain ⟨f0, f1, f2, f3, f4, f5⟩ := hf it (by simp)
    have hl := rv.length
    exact wpAny_pyNext_list_end (I.ok.hd hc) st p.isList (by simp; omega) fun h' eb => ⟨rfl, I.turned (t' := s.toks) (fun b o hb e => eb b o hb e) f0 f1 f3 f4 f5⟩
  self := fun _ _ _ _ _ st h => wpAny_pyIter_listiter st h
theorem turn_tuple {P : Program} {w : World} {K : PySem.W.Frag} {tg : Expr} (a it : Addr) : Turn P w K tg (Itt K a) [it] it (fun i h => h.IsTupleIter it a i) where
  mem := by simp
  obj := fun i h st b hb => by
    have e : b = it := by simpa using hb
    subst e
    obtain ⟨o, e, c, d⟩ := st
    exact ⟨o, e, fun v z => by rw [d] at z; cases z⟩
  keep := fun i h h' st k => st.at fun o e => k it (by simp) o e
  item := by
    intro X hP hw hK hc i pins s σ H E I hf st hg
    subst hP hw hK
    obtain ⟨xs, x, hq, hx⟩ := hg
    obtain ⟨its, rv, p, hz⟩ := I.tuple hq
    obtain ⟨u, hu, ru⟩ := rv.get hx
    obtain ⟨f0, f1, f2, f3, f4, f5⟩ := hf it (by simp)
    refine wpAny_pyNext_tuple_item st (show s.heap.IsTuple a its.toArray from p) (x := u) (by simpa using hu) fun h' st' sb => ?_
    have I1 : Inv X pins σ H { s with heap := h' } := I.turned (t' := s.toks) (fun b o hb e => (sb.2 b hb).trans e) f0 f1 f3 f4 f5
    obtain ⟨o, e, c, d⟩ := id st'
    exact ⟨u, rfl, go_of (s := { s with heap := h' }) e c d (by decide) ⟨x, H, I1, ru, ⟨rfl, fun ys hy => by rw [I.tuple_inj hy hq]; exact hx⟩, st', fun b hb => (hf b hb).1⟩⟩
  done := by
    intro X hP hw hK hc i pins s σ H E I hf st hg
    subst hP hw hK
    obtain ⟨xs, hq, hx⟩ := hg
    obtain ⟨its, rv, p, hz⟩ := I.tuple hq
    obtain ⟨f0, f1, f2, f3, f4, f5⟩ := hf it (by simp)
    have hl := rv.length
    exact wpAny_pyNext_tuple_end (I.ok.hd hc) st (show s.heap.IsTuple a its.toArray from p) (by simp; omega) fun h' eb => ⟨rfl, I.turned (t' := s.toks) (fun b o hb e => eb b o hb e) f0 f1 f3 f4 f5⟩
  self := fun _ _ _ _ _ st h => wpAny_pyIter_tupleiter st h
theorem turn_range {P : Program} {w : World} {K : PySem.W.Frag} {tg : Expr} (it : Addr) (lo : Int) (n : Nat) : Turn P w K tg (Itr lo n) [it] it (fun i h => IsRangeIter h it (lo + (i : Nat) * 1) ((n : Int) - (i : Nat)) 1) where
  mem := by simp
  obj := fun i h st b hb => by
    have e : b = it := by simpa using hb
    subst e
    exact ⟨_, st, fun v z => by
      have z' : Data.fields _ = Data.cell v := z
      cases z'⟩
  keep := fun i h h' st k => k it (by simp) _ st
  item := by
    intro X hP hw hK hc i pins s σ H E I hf st hg
    subst hP hw hK
    obtain ⟨f0, f1, f2, f3, f4, f5⟩ := hf it (by simp)
    have W := Walks.range (prog := X.prog) (w := X.w) (I.ok.hd hc) it lo 1 n
    refine W.item i s _ _ hg st fun v h' tk hv st' kk => ?_
    obtain ⟨t, rfl⟩ := hv
    have I1 : Inv X pins σ H { s with heap := h', toks := tk } := I.turned (fun b o hb e => kk b o (by simpa using hb) e) f0 f1 f3 f4 f5
    refine ⟨_, rfl, go_of (s := { s with heap := h', toks := tk }) (n := "range_iterator") st' rfl rfl (by decide) ⟨.int (lo + i), H, I1, ⟨t, ?_⟩, ⟨rfl, rfl⟩, st', fun b hb => (hf b hb).1⟩⟩
    rw [Int.mul_one]
  done := by
    intro X hP hw hK hc i pins s σ H E I hf st hg
    subst hP hw hK
    obtain ⟨f0, f1, f2, f3, f4, f5⟩ := hf it (by simp)
    exact wpAny_pyNext_range_end (I.ok.hd hc) st (by have : n ≤ i := hg; omega) fun h' eb => ⟨rfl, I.turned (t' := s.toks) (fun b o hb e => eb b o hb e) f0 f1 f3 f4 f5⟩
  self := fun _ _ _ _ _ st h => wpAny_pyIter_rangeiter st h
end L2

namespace L2
open PySem PySem.Spec PyProof.Rows
section
variable {X : Cx} {tg : Expr}
def iList (K : PySem.W.Frag) (tl : TE) : TI := fun σ H R => tl σ H fun x H1 => ∃ a, x = .ref a ∧ (∃ xs, SqL K H1 a xs) ∧ R (Itl K a) H1
def iTup (K : PySem.W.Frag) (tl : TE) : TI := fun σ H R => tl σ H fun x H1 => ∃ a, x = .ref a ∧ (∃ xs, SqT K H1 a xs) ∧ R (Itt K a) H1
theorem pi_list {l : Expr} {tl : TE} (hl : PE X l tl) : PI X tg l (iList X.K tl) := by
  intro pins s σ H R I h
  refine thn (hl pins s σ H _ I h) fun v s1 ⟨x, H1, I1, r1, q1⟩ => ?_
  obtain ⟨a, e, ⟨xs, hq⟩, q⟩ := q1
  subst e
  cases r1
  obtain ⟨its, rv, p, hz⟩ := I1.list hq
  refine wpAny_pyIter_list p.isList ?_
  refine ⟨s1.heap.objs.size, [s1.heap.objs.size], _, _, H1, rfl, I1.kept (t' := s1.toks) fun b o e => Heap.get?_push_of_some _ e, turn_list a _, ⟨_, Heap.get?_push_size _ rfl, rfl, rfl⟩, fun b hb => ?_, q⟩
  have e : b = s1.heap.objs.size := by simpa using hb
  subst e
  exact I1.fpOk (Nat.le_refl _) (I1.hok.fresh (Nat.le_refl _))
theorem pi_tup {l : Expr} {tl : TE} (hl : PE X l tl) : PI X tg l (iTup X.K tl) := by
  intro pins s σ H R I h
  refine thn (hl pins s σ H _ I h) fun v s1 ⟨x, H1, I1, r1, q1⟩ => ?_
  obtain ⟨a, e, ⟨xs, hq⟩, q⟩ := q1
  subst e
  cases r1
  obtain ⟨its, rv, p, hz⟩ := I1.tuple hq
  refine wpAny_pyIter_tuple (show s1.heap.IsTuple a its.toArray from p) ?_
  refine ⟨s1.heap.objs.size, [s1.heap.objs.size], _, _, H1, rfl, I1.kept (t' := s1.toks) fun b o e => Heap.get?_push_of_some _ e, turn_tuple a _, ⟨_, Heap.get?_push_size _ rfl, rfl, rfl⟩, fun b hb => ?_, q⟩
  have e : b = s1.heap.objs.size := by simpa using hb
  subst e
  exact I1.fpOk (Nat.le_refl _) (I1.hok.fresh (Nat.le_refl _))
/-- a range object just made, walked -/
theorem range_it {pins : List (Addr × Obj)} {σ : St} {H : Hp} {s : Shared} {R : It → Hp → Prop} {E : Value → Shared → Prop} {lo hi : Int} {t u v : Tok} {tk : Nat} (I : Inv X pins σ H s) (h1 : -(2 ^ 62) ≤ lo) (h2 : lo < 2 ^ 62) (h3 : -(2 ^ 62) ≤ hi) (h4 : hi < 2 ^ 62)
    (q : R (Itr lo (hi - lo).toNat) H) : wpAny (model X.prog X.w) X.A (pyIter (.ref s.heap.objs.size)) (PIE X pins σ tg R) E { s with heap := s.heap.push { cls := .type "range", data := .fields #[.int lo t, .int hi u, .int 1 v] }, toks := tk } := by
  refine wpAny_pyIter_range (IsRange.new ..) (small_one h1 h2 h3 h4) ?_
  have I1 : Inv X pins σ H { s with heap := s.heap.push { cls := .type "range", data := .fields #[.int lo t, .int hi u, .int 1 v] }, toks := tk } := I.kept fun b o e => Heap.get?_push_of_some _ e
  refine ⟨(s.heap.push { cls := .type "range", data := .fields #[.int lo t, .int hi u, .int 1 v] }).objs.size, [(s.heap.push { cls := .type "range", data := .fields #[.int lo t, .int hi u, .int 1 v] }).objs.size], _, _, H, rfl,
    I1.kept (t' := tk) fun b o e => Heap.get?_push_of_some _ e, turn_range _ lo (hi - lo).toNat, ?_, fun b hb => ?_, q⟩
  · have e1 : lo + ((0 : Nat) : Int) * 1 = lo := by simp
    have e2 : (((hi - lo).toNat : Nat) : Int) - ((0 : Nat) : Int) = Builtin.Range.rangeSize lo hi 1 := by rw [rangeSize_one]; split <;> omega
    show IsRangeIter _ _ (lo + ((0 : Nat) : Int) * 1) ((((hi - lo).toNat : Nat) : Int) - ((0 : Nat) : Int)) 1
    rw [e1, e2]
    exact Heap.get?_push_size _ rfl
  · have e : b = (s.heap.push { cls := .type "range", data := .fields #[.int lo t, .int hi u, .int 1 v] }).objs.size := by simpa using hb
    subst e
    exact I1.fpOk (Nat.le_refl _) (I1.hok.fresh (Nat.le_refl _))
def iRng1 (ta : TA) : TI := fun σ H R => ta σ H fun vs H1 => ∃ j : Int, vs = [.int j] ∧ -(2 ^ 62) ≤ j ∧ j < 2 ^ 62 ∧ R (Itr 0 j.toNat) H1
def iRng2 (ta : TA) : TI := fun σ H R => ta σ H fun vs H1 => ∃ i j : Int, vs = [.int i, .int j] ∧ (-(2 ^ 62) ≤ i ∧ i < 2 ^ 62 ∧ -(2 ^ 62) ≤ j ∧ j < 2 ^ 62) ∧ R (Itr i (j - i).toNat) H1
theorem pi_range1 {a : Expr} {ta : TA} {p pos : Pos} (hg : Gl X "range") (hm : X.mg "range" = none) (ha : PA X [a] ta) (hs : starEach [a] X.env = [(false, eval a X.env)] := by rfl) : PI X tg (.Call (.Name "range" p) [a] [] pos) (iRng1 ta) := by
  intro pins s σ H R I h
  refine Call_ (ld_blt I hg hm boot_range (PyProof.Rows.callWith_type1 (thn (ha pos pins s σ H _ I h) fun us s1 ⟨vs, H1, I1, r1, q1⟩ => ?_) hs rfl))
  obtain ⟨j, e, q1, q2, q⟩ := q1
  subst e
  cases r1 with
  | cons r rr =>
    cases rr
    obtain ⟨t, rfl⟩ := r
    exact call_range_1 (range_it I1 (by omega) (by omega) q1 q2 (by simpa using q))
theorem pi_range2 {a b : Expr} {ta : TA} {p pos : Pos} (hg : Gl X "range") (hm : X.mg "range" = none) (ha : PA X [a, b] ta) (hs : starEach [a, b] X.env = [(false, eval a X.env), (false, eval b X.env)] := by rfl) (hs2 : starEach [b] X.env = [(false, eval b X.env)] := by rfl) :
    PI X tg (.Call (.Name "range" p) [a, b] [] pos) (iRng2 ta) := by
  intro pins s σ H R I h
  refine Call_ (ld_blt I hg hm boot_range (PyProof.Rows.callWith_type1 (thn (ha pos pins s σ H _ I h) fun us s1 ⟨vs, H1, I1, r1, q1⟩ => ?_) (by rw [hs, hs2]) (by rw [hs2]; rfl)))
  obtain ⟨i, j, e, ⟨q1, q2, q3, q4⟩, q⟩ := q1
  subst e
  cases r1 with
  | cons r rr =>
    cases rr with
    | cons r' rr =>
      cases rr
      obtain ⟨t, rfl⟩ := r
      obtain ⟨t', rfl⟩ := r'
      exact call_range_2 (range_it I1 q1 q2 q3 q4 q)

/-! ### for -/
/-- W: the invariant by the turn and a measure; N: what the body is to reach -/
def tFor (wi : TI) (g : TG) (tb : TS) : TS := fun D σ H => wi σ H fun J H1 => ∃ W : Nat → Nat → St → Hp → Prop, (∃ m, W 0 m σ H1) ∧ ∀ i m σ H, W i m σ H →
  (J.stop i H ∧ D.nx σ H) ∨ (J.go i H ∧ ∃ N : St → Hp → Prop, (∀ σ' H', N σ' H' → ∃ m', m' < m ∧ W (i + 1) m' σ' H') ∧ ∀ x H', J.yld i H x H' → g x σ H' fun σ2 H2 => tb { D with nx := N, ct := N, bk := D.nx } σ2 H2)
/-- the records at fp as they stand -/
def pinsAt (fp : List Addr) (h : Heap) : List (Addr × Obj) := fp.filterMap fun b => (h.get? b).map fun o => (b, o)
theorem mem_pinsAt {fp : List Addr} {h : Heap} {b : Addr} {o : Obj} (hb : b ∈ fp) (e : h.get? b = some o) : (b, o) ∈ pinsAt fp h := List.mem_filterMap.mpr ⟨b, hb, by rw [e]; rfl⟩
theorem of_pinsAt {fp : List Addr} {h : Heap} {p : Addr × Obj} (hp : p ∈ pinsAt fp h) : p.1 ∈ fp ∧ h.get? p.1 = some p.2 := by
  obtain ⟨b, hb, e⟩ := List.mem_filterMap.mp hp
  cases q : h.get? b with
  | none => rw [q] at e; cases e
  | some o =>
    rw [q] at e
    have e' : (b, o) = p := Option.some.inj e
    subst e'
    exact ⟨hb, q⟩
theorem Inv.pinned {pins : List (Addr × Obj)} {σ : St} {H : Hp} {s : Shared} {fp : List Addr} (I : Inv X pins σ H s) (hf : ∀ b ∈ fp, FpOk X pins H b) (ho : ∀ b ∈ fp, ∃ o, s.heap.get? b = some o ∧ ∀ v, o.data ≠ .cell v) : Inv X (pins ++ pinsAt fp s.heap) σ H s :=
  I.pins_of fun p hp => (List.mem_append.mp hp).elim (fun z => I.pin p (List.mem_append_right _ z)) fun z => by
    obtain ⟨hb, e⟩ := of_pinsAt z
    obtain ⟨f0, f1, f2, _⟩ := hf p.1 hb
    obtain ⟨o, e', d⟩ := ho p.1 hb
    rw [e] at e'; cases e'
    exact ⟨e, f0, f1, f2, d⟩
theorem Inv.unpinned {pins pl : List (Addr × Obj)} {σ : St} {H : Hp} {s : Shared} (I : Inv X (pins ++ pl) σ H s) : Inv X pins σ H s := I.pins_of fun p hp => I.pin p (List.mem_append_right _ (List.mem_append_left _ hp))
theorem ps_for {iter : Expr} {body : List Stmt} {wi : TI} {g : TG} {tb : TS} {pos : Pos} (hp : PassesOwn (model X.prog X.w) X.A X.env X.xe) (hc : X.calm = true) (hi : PI X tg iter wi) (hg : PG X tg g) (hb : PSs X body tb)
    (hs : ∀ x, foldedSetIterable iter X.env x = pure x := by intro _; rfl) : PS X (.For tg iter body [] pos) (tFor wi g tb) := by
  intro pins s σ H D I h
  refine wpAny_For (thn (hi pins s σ H _ I h) fun v s1 h1 => thn h1 fun itv s2 h2 => ?_) hs
  obtain ⟨it, fp, tn, J, H2, e, I2, T, st2, f2, W, ⟨m0, w0⟩, turn⟩ := h2
  subst e
  -- what stays true of the iterator's objects through the loop
  have stat : ∀ {H' : Hp}, (∀ b ∈ fp, H' b = none) → ∀ b ∈ fp, FpOk X pins H' b := fun hn b hb => ⟨hn b hb, (f2 b hb).2⟩
  refine codeAny_forLoop_any (fun n s' => ∃ i σ' H', Inv X pins σ' H' s' ∧ tn i s'.heap ∧ (∀ b ∈ fp, H' b = none) ∧ W i n σ' H') ?_ m0 ⟨0, σ, H2, I2, st2, fun b hb => (f2 b hb).1, w0⟩
  rintro n s3 ⟨i, σ3, H3, I3, st3, fr3, w3⟩
  rcases turn i n σ3 H3 w3 with ⟨stop, qn⟩ | ⟨go, N, hN, step⟩
  · refine wpAny_passesOwn hp (thn (T.done X rfl rfl rfl hc i pins s3 σ3 H3 X.xe I3 (stat fr3) st3 stop) fun r s4 ⟨hr, I4⟩ => ?_)
    subst hr
    exact wpAny_execs_nil ⟨σ3, H3, I4, qn⟩
  · refine wpAny_passesOwn hp (thn (T.item X rfl rfl rfl hc i pins s3 σ3 H3 X.xe I3 (stat fr3) st3 go) fun r s4 ⟨u, hr, h4⟩ => ?_)
    subst hr
    refine wpAny_passesOwn hp (thn h4 fun _ s5 ⟨x, H5, I5, r5, y5, st5, fr5⟩ => ?_)
    have I5' := I5.pinned (stat fr5) (T.obj _ _ st5)
    refine wpAny_passesOwn hp (thn (hg _ s5 σ3 H5 x u _ I5' r5 (step x H5 y5)) fun _ s6 ⟨σ6, H6, I6, q6⟩ => ?_)
    refine wpAny_passesOwn hp (thn (hb _ s6 σ6 H6 _ I6 q6) fun f s7 q7 => ?_)
    have again : ∀ {σ7 : St} {H7 : Hp}, Inv X (pins ++ pinsAt fp s5.heap) σ7 H7 s7 → N σ7 H7 → ∃ m, m < n ∧ ∃ i σ' H', Inv X pins σ' H' s7 ∧ tn i s7.heap ∧ (∀ b ∈ fp, H' b = none) ∧ W i m σ' H' := fun {σ7 H7} I7 n7 => by
      obtain ⟨m', hm, w7⟩ := hN σ7 H7 n7
      refine ⟨m', hm, i + 1, σ7, H7, I7.unpinned, T.keep _ _ _ st5 fun b hb o e => (I7.pin (b, o) (List.mem_append_right _ (List.mem_append_right _ (mem_pinsAt hb e)))).1, fun b hb => ?_, w7⟩
      obtain ⟨o, e, d⟩ := T.obj _ _ st5 b hb
      exact (I7.pin (b, o) (List.mem_append_right _ (List.mem_append_right _ (mem_pinsAt hb e)))).2.1
    cases f with
    | next => obtain ⟨σ7, H7, I7, n7⟩ := q7; exact again I7 n7
    | cont => obtain ⟨σ7, H7, I7, n7⟩ := q7; exact again I7 n7
    | brk => obtain ⟨σ7, H7, I7, q7⟩ := q7; exact ⟨σ7, H7, I7.unpinned, q7⟩
    | ret v => obtain ⟨x7, σ7, H7, I7, r7, q7⟩ := q7; exact ⟨x7, σ7, H7, I7.unpinned, r7, q7⟩
end

/-! ### the forms one uses -/
/-- over a list that the body leaves as it is -/
theorem for_list {K : PySem.W.Frag} {a : Addr} {xs : List V} {g : TG} {tb : TS} {D : Ends} {σ : St} {H : Hp} (Pv : Nat → St → Hp → Prop) (h0 : Pv 0 σ H) (hl : ∀ i σ H, i ≤ xs.length → Pv i σ H → SqL K H a xs)
    (hs : ∀ i x σ H, xs[i]? = some x → Pv i σ H → g x σ H fun σ2 H2 => tb { D with nx := Pv (i + 1), ct := Pv (i + 1), bk := D.nx } σ2 H2) (hd : ∀ σ H, Pv xs.length σ H → D.nx σ H) :
    ∃ W : Nat → Nat → St → Hp → Prop, (∃ m, W 0 m σ H) ∧ ∀ i m σ H, W i m σ H →
      ((Itl K a).stop i H ∧ D.nx σ H) ∨ ((Itl K a).go i H ∧ ∃ N : St → Hp → Prop, (∀ σ' H', N σ' H' → ∃ m', m' < m ∧ W (i + 1) m' σ' H') ∧ ∀ x H', (Itl K a).yld i H x H' → g x σ H' fun σ2 H2 => tb { D with nx := N, ct := N, bk := D.nx } σ2 H2) := by
  refine ⟨fun i m σ H => m = xs.length - i ∧ i ≤ xs.length ∧ Pv i σ H, ⟨xs.length, by simp, Nat.zero_le _, h0⟩, ?_⟩
  rintro i m σ H ⟨rfl, hi, p⟩
  have q := hl i σ H hi p
  by_cases hlt : i < xs.length
  · refine .inr ⟨⟨xs, xs[i], q, by simp [hlt]⟩, Pv (i + 1), fun σ' H' p' => ⟨xs.length - (i + 1), by omega, rfl, hlt, p'⟩, fun x H' y => ?_⟩
    obtain ⟨e, y⟩ := y
    subst e
    exact hs i x σ _ (y xs q) p
  · have e : i = xs.length := by omega
    subst e
    exact .inl ⟨⟨xs, q, Nat.le_refl _⟩, hd σ H p⟩
theorem for_tup {K : PySem.W.Frag} {a : Addr} {xs : List V} {g : TG} {tb : TS} {D : Ends} {σ : St} {H : Hp} (Pv : Nat → St → Hp → Prop) (h0 : Pv 0 σ H) (hl : ∀ i σ H, i ≤ xs.length → Pv i σ H → SqT K H a xs)
    (hs : ∀ i x σ H, xs[i]? = some x → Pv i σ H → g x σ H fun σ2 H2 => tb { D with nx := Pv (i + 1), ct := Pv (i + 1), bk := D.nx } σ2 H2) (hd : ∀ σ H, Pv xs.length σ H → D.nx σ H) :
    ∃ W : Nat → Nat → St → Hp → Prop, (∃ m, W 0 m σ H) ∧ ∀ i m σ H, W i m σ H →
      ((Itt K a).stop i H ∧ D.nx σ H) ∨ ((Itt K a).go i H ∧ ∃ N : St → Hp → Prop, (∀ σ' H', N σ' H' → ∃ m', m' < m ∧ W (i + 1) m' σ' H') ∧ ∀ x H', (Itt K a).yld i H x H' → g x σ H' fun σ2 H2 => tb { D with nx := N, ct := N, bk := D.nx } σ2 H2) := by
  refine ⟨fun i m σ H => m = xs.length - i ∧ i ≤ xs.length ∧ Pv i σ H, ⟨xs.length, by simp, Nat.zero_le _, h0⟩, ?_⟩
  rintro i m σ H ⟨rfl, hi, p⟩
  have q := hl i σ H hi p
  by_cases hlt : i < xs.length
  · refine .inr ⟨⟨xs, xs[i], q, by simp [hlt]⟩, Pv (i + 1), fun σ' H' p' => ⟨xs.length - (i + 1), by omega, rfl, hlt, p'⟩, fun x H' y => ?_⟩
    obtain ⟨e, y⟩ := y
    subst e
    exact hs i x σ _ (y xs q) p
  · have e : i = xs.length := by omega
    subst e
    exact .inl ⟨⟨xs, q, Nat.le_refl _⟩, hd σ H p⟩
theorem for_range {lo : Int} {n : Nat} {g : TG} {tb : TS} {D : Ends} {σ : St} {H : Hp} (Pv : Nat → St → Hp → Prop) (h0 : Pv 0 σ H)
    (hs : ∀ i σ H, i < n → Pv i σ H → g (.int (lo + i)) σ H fun σ2 H2 => tb { D with nx := Pv (i + 1), ct := Pv (i + 1), bk := D.nx } σ2 H2) (hd : ∀ σ H, Pv n σ H → D.nx σ H) :
    ∃ W : Nat → Nat → St → Hp → Prop, (∃ m, W 0 m σ H) ∧ ∀ i m σ H, W i m σ H →
      ((Itr lo n).stop i H ∧ D.nx σ H) ∨ ((Itr lo n).go i H ∧ ∃ N : St → Hp → Prop, (∀ σ' H', N σ' H' → ∃ m', m' < m ∧ W (i + 1) m' σ' H') ∧ ∀ x H', (Itr lo n).yld i H x H' → g x σ H' fun σ2 H2 => tb { D with nx := N, ct := N, bk := D.nx } σ2 H2) := by
  refine ⟨fun i m σ H => m = n - i ∧ i ≤ n ∧ Pv i σ H, ⟨n, by simp, Nat.zero_le _, h0⟩, ?_⟩
  rintro i m σ H ⟨rfl, hi, p⟩
  by_cases hlt : i < n
  · refine .inr ⟨hlt, Pv (i + 1), fun σ' H' p' => ⟨n - (i + 1), by omega, rfl, hlt, p'⟩, fun x H' y => ?_⟩
    obtain ⟨e, y⟩ := y
    subst e y
    exact hs i σ _ hlt p
  · have e : i = n := by omega
    subst e
    exact .inl ⟨Nat.le_refl _, hd σ H p⟩
/-- while, by a word and a measure of the state -/
theorem while_by {c : TT} {tb : TS} {D : Ends} {σ : St} {H : Hp} (Pv : St → Hp → Prop) (μ : St → Hp → Nat) (h0 : Pv σ H)
    (hs : ∀ σ H, Pv σ H → c σ H fun b H1 => if b = true then tb { D with nx := fun σ' H' => Pv σ' H' ∧ μ σ' H' < μ σ H, ct := fun σ' H' => Pv σ' H' ∧ μ σ' H' < μ σ H, bk := D.nx } σ H1 else D.nx σ H1)
    (mono : ∀ σ H Q Q', (∀ b H1, Q b H1 → Q' b H1) → c σ H Q → c σ H Q') : tWhile c tb D σ H := by
  refine ⟨fun m σ H => m = μ σ H ∧ Pv σ H, ⟨_, rfl, h0⟩, ?_⟩
  rintro m σ H ⟨rfl, p⟩
  refine mono σ H _ _ (fun b H1 q => ?_) (hs σ H p)
  cases b with
  | true => exact ⟨_, fun σ' H' ⟨p', l⟩ => ⟨_, l, rfl, p'⟩, q⟩
  | false => exact q
end L2

namespace L2
open PySem PySem.Spec PyProof.Rows

abbrev R2 := V → V → Hp → VK → Prop
/-- a two-place operation on values: f is binaryOp op, inplaceOp op or compareOp op -/
def OpR (X : Cx) (f : Value → Value → Sem Value) (r : R2) : Prop :=
  ∀ (pins : List (Addr × Obj)) (s : Shared) (σ : St) (H : Hp) (x y : V) (v u : Value) (Q : VK), Inv X pins σ H s → RelV x v → RelV y u → r x y H Q →
    wpAny (model X.prog X.w) X.A (f v u) (EP X pins σ Q) X.xe s
/-- a one-place operation -/
def UnR (X : Cx) (f : Value → Sem Value) (r : V → Hp → VK → Prop) : Prop :=
  ∀ (pins : List (Addr × Obj)) (s : Shared) (σ : St) (H : Hp) (x : V) (v : Value) (Q : VK), Inv X pins σ H s → RelV x v → r x H Q →
    wpAny (model X.prog X.w) X.A (f v) (EP X pins σ Q) X.xe s
/-- a call of a value that is known (a builtin, a type) with values -/
def CallR (X : Cx) (f : Value) (r : List V → Hp → VK → Prop) : Prop :=
  ∀ (pins : List (Addr × Obj)) (s : Shared) (σ : St) (H : Hp) (xs : List V) (us : List Value) (Q : VK), Inv X pins σ H s → Vals xs us → r xs H Q →
    wpAny (model X.prog X.w) X.A (call f us) (EP X pins σ Q) X.xe s
/-- a value's truth -/
def TruR (X : Cx) (r : V → Hp → (Bool → Hp → Prop) → Prop) : Prop :=
  ∀ (pins : List (Addr × Obj)) (s : Shared) (σ : St) (H : Hp) (x : V) (v : Value) (Q : Bool → Hp → Prop), Inv X pins σ H s → RelV x v → r x H Q →
    wpAny (model X.prog X.w) X.A (truthy v) (TP X pins σ Q) X.xe s

def tOp (r : R2) (ta tb : TE) : TE := fun σ H Q => ta σ H fun x H1 => tb σ H1 fun y H2 => r x y H2 Q
def tUn (r : V → Hp → VK → Prop) (ta : TE) : TE := fun σ H Q => ta σ H fun x H1 => r x H1 Q
/-- ints in, under C, and a value out -/
def rI (C : Int → Int → Prop) (g : Int → Int → V) : R2 := fun x y H Q => ∃ i j, x = .int i ∧ y = .int j ∧ C i j ∧ Q (g i j) H
def rI0 (g : Int → Int → V) : R2 := fun x y H Q => ∃ i j, x = .int i ∧ y = .int j ∧ Q (g i j) H
def rU (g : Int → V) : V → Hp → VK → Prop := fun x H Q => ∃ i, x = .int i ∧ Q (g i) H

section
variable {X : Cx} {a b c : Expr} {ta tb tc : TE} {pos : Pos}

theorem binT (ha : PE X a ta) (hb : PE X b tb) {pins : List (Addr × Obj)} {s : Shared} {σ : St} {H : Hp} {R : V → V → Hp → Prop} (I : Inv X pins σ H s)
    (h : ta σ H fun x H1 => tb σ H1 fun y H2 => R x y H2) {Q : Value → Shared → Prop} {f : Value → Value → Sem Value}
    (hf : ∀ v u s2 x y H2, Inv X pins σ H2 s2 → RelV x v → RelV y u → R x y H2 → wpAny (model X.prog X.w) X.A (f v u) Q X.xe s2) :
    wpAny (model X.prog X.w) X.A (eval a X.env) (fun v s₁ => wpAny (model X.prog X.w) X.A (eval b X.env) (fun u s₂ => wpAny (model X.prog X.w) X.A (f v u) Q X.xe s₂) X.xe s₁) X.xe s := by
  refine thn (ha pins s σ H _ I h) fun v s1 ⟨x, H1, I1, r1, q1⟩ => ?_
  refine thn (hb pins s1 σ H1 _ I1 q1) fun u s2 ⟨y, H2, I2, r2, q2⟩ => ?_
  exact hf v u s2 x y H2 I2 r1 r2 q2

theorem pe_op {op : Operator} {r : R2} (ho : OpR X (binaryOp op) r) (ha : PE X a ta) (hb : PE X b tb) : PE X (.BinOp a op b pos) (tOp r ta tb) := by
  intro pins s σ H Q I h
  exact wpAny_BinOp (binT ha hb I h fun v u s2 x y H2 I2 rx ry q => ho pins s2 σ H2 x y v u Q I2 rx ry q)
theorem pe_un {op : UnaryOp} {r : V → Hp → VK → Prop} (ho : UnR X (unaryOp op) r) (ha : PE X a ta) : PE X (.UnaryOp op a pos) (tUn r ta) := by
  intro pins s σ H Q I h
  exact UnaryOp_ (thn (ha pins s σ H _ I h) fun v s1 ⟨x, H1, I1, r1, q1⟩ => ho pins s1 σ H1 x v Q I1 r1 q1)
/-- a op= e at a name: the name's slot i -/
theorem augR {op : Operator} {r : R2} (ho : OpR X (inplaceOp op) r) {pins : List (Addr × Obj)} {s : Shared} {σ : St} {H : Hp} {x y : V} {v u : Value} {Q : VK} (I : Inv X pins σ H s)
    (rx : RelV x v) (ry : RelV y u) (q : r x y H Q) : wpAny (model X.prog X.w) X.A (inplaceOp op v u) (EP X pins σ Q) X.xe s := ho pins s σ H x y v u Q I rx ry q

/-! ### ints -/
theorem opI {f : Value → Value → Sem Value} {C : Int → Int → Prop} {g : Int → Int → Int}
    (rule : ∀ (i j : Int) (t u : Tok) (s : Shared) (Q : Value → Shared → Prop) (E : Value → Shared → Prop), C i j → Q (.int (g i j) s.toks) { s with toks := s.toks + 1 } → wpAny (model X.prog X.w) X.A (f (.int i t) (.int j u)) Q E s) :
    OpR X f (rI C fun i j => .int (g i j)) := by
  intro pins s σ H x y v u Q I rx ry h
  obtain ⟨i, j, rfl, rfl, hc, q⟩ := h
  obtain ⟨t, rfl⟩ := rx
  obtain ⟨t', rfl⟩ := ry
  exact rule i j t t' s _ _ hc ⟨.int (g i j), H, I.tok _, ⟨_, rfl⟩, q⟩
theorem opI0 {f : Value → Value → Sem Value} {g : Int → Int → Int}
    (rule : ∀ (i j : Int) (t u : Tok) (s : Shared) (Q : Value → Shared → Prop) (E : Value → Shared → Prop), Q (.int (g i j) s.toks) { s with toks := s.toks + 1 } → wpAny (model X.prog X.w) X.A (f (.int i t) (.int j u)) Q E s) :
    OpR X f (rI0 fun i j => .int (g i j)) := by
  intro pins s σ H x y v u Q I rx ry h
  obtain ⟨i, j, rfl, rfl, q⟩ := h
  obtain ⟨t, rfl⟩ := rx
  obtain ⟨t', rfl⟩ := ry
  exact rule i j t t' s _ _ ⟨.int (g i j), H, I.tok _, ⟨_, rfl⟩, q⟩
theorem opB0 {f : Value → Value → Sem Value} {g : Int → Int → Bool}
    (rule : ∀ (i j : Int) (t u : Tok) (s : Shared) (Q : Value → Shared → Prop) (E : Value → Shared → Prop), Q (.bool (g i j)) s → wpAny (model X.prog X.w) X.A (f (.int i t) (.int j u)) Q E s) :
    OpR X f (rI0 fun i j => .bl (g i j)) := by
  intro pins s σ H x y v u Q I rx ry h
  obtain ⟨i, j, rfl, rfl, q⟩ := h
  obtain ⟨t, rfl⟩ := rx
  obtain ⟨t', rfl⟩ := ry
  exact rule i j t t' s _ _ ⟨.bl (g i j), H, I, rfl, q⟩

def CDiv (i j : Int) : Prop := 0 < j ∧ j < 1073741824
def CDivN (i j : Int) : Prop := j ≠ 0 ∧ j.natAbs < 1073741824
def CPow (i j : Int) : Prop := 0 ≤ j ∧ j ≤ 1000000 ∧ i.natAbs < 2 ^ 64
def CMul (i j : Int) : Prop := (-(2 ^ 64) < i ∧ i < 2 ^ 64) ∨ (-(2 ^ 64) < j ∧ j < 2 ^ 64)
theorem CMul.ok {i j : Int} (h : CMul i j) : IntMulOk i j := by
  rcases h with ⟨h1, h2⟩ | ⟨h1, h2⟩
  · exact .of_left (intBits_le_64 h1 h2)
  · exact .of_right (intBits_le_64 h1 h2)
theorem two_pow_nn (k : Nat) : (0 : Int) ≤ 2 ^ k := by
  rw [two_pow_cast]
  exact Int.natCast_nonneg _

theorem op_add : OpR X (binaryOp .Add) (rI0 fun i j => .int (i + j)) := opI0 fun _ _ _ _ _ _ _ q => add_int q
theorem op_sub : OpR X (binaryOp .Sub) (rI0 fun i j => .int (i - j)) := opI0 fun _ _ _ _ _ _ _ q => sub_int q
theorem op_mul : OpR X (binaryOp .Mult) (rI CMul fun i j => .int (i * j)) := opI fun _ _ _ _ _ _ _ hc q => mul_int q hc.ok
/-- // by a positive divisor -/
theorem op_fdiv : OpR X (binaryOp .FloorDiv) (rI CDiv fun i j => .int (i / j)) := opI fun i j _ _ _ _ _ hc q => by
  have h1 : (0 : Int) < j := hc.1
  have h2 : j < 1073741824 := hc.2
  exact floordiv_int (by omega) (by rw [Int.fdiv_eq_ediv_of_nonneg i (by omega)]; exact q) (.inl (PyProof.noPylong_small (by omega)))
theorem op_fdivN : OpR X (binaryOp .FloorDiv) (rI CDivN fun i j => .int (i.fdiv j)) := opI fun _ _ _ _ _ _ _ hc q => floordiv_int hc.1 q (.inl (PyProof.noPylong_small hc.2))
/-- % by a positive divisor of any size -/
theorem op_mod : OpR X (binaryOp .Mod) (rI (fun _ j => 0 < j) fun i j => .int (i % j)) := opI fun i j _ _ _ _ _ hc q => by
  have h1 : (0 : Int) < j := hc
  exact mod_int' (by omega) (by rw [Int.fmod_eq_emod_of_nonneg i (by omega)]; exact q)
theorem op_modN : OpR X (binaryOp .Mod) (rI (fun _ j => j ≠ 0) fun i j => .int (i.fmod j)) := opI fun _ _ _ _ _ _ _ hc q => mod_int' hc q
theorem op_pow : OpR X (binaryOp .Pow) (rI CPow fun i j => .int (i ^ j.toNat)) := opI fun _ _ _ _ _ _ _ hc q => pow_int_small hc.1 hc.2.1 hc.2.2 q
theorem op_shl : OpR X (binaryOp .LShift) (rI CPow fun i j => .int (i * 2 ^ j.toNat)) := opI fun _ _ _ _ _ _ _ hc q => lshift_int_small hc.1 hc.2.1 hc.2.2 q
theorem op_shr : OpR X (binaryOp .RShift) (rI (fun _ j => 0 ≤ j) fun i j => .int (i / 2 ^ j.toNat)) := opI fun i j _ _ _ _ _ hc q =>
  rshift_int hc (by rw [Int.fdiv_eq_ediv_of_nonneg i (two_pow_nn _)]; exact q)
theorem op_and : OpR X (binaryOp .BitAnd) (rI0 fun i j => .int (Builtin.bitAnd i j)) := opI0 fun _ _ _ _ _ _ _ q => and_int q
theorem op_or : OpR X (binaryOp .BitOr) (rI0 fun i j => .int (Builtin.bitOr i j)) := opI0 fun _ _ _ _ _ _ _ q => or_int q
theorem op_xor : OpR X (binaryOp .BitXor) (rI0 fun i j => .int (Builtin.bitXor i j)) := opI0 fun _ _ _ _ _ _ _ q => xor_int q

theorem iop_add : OpR X (inplaceOp .Add) (rI0 fun i j => .int (i + j)) := opI0 fun _ _ _ _ _ _ _ q => iadd_int q
theorem iop_sub : OpR X (inplaceOp .Sub) (rI0 fun i j => .int (i - j)) := opI0 fun _ _ _ _ _ _ _ q => isub_int q
theorem iop_mul : OpR X (inplaceOp .Mult) (rI CMul fun i j => .int (i * j)) := opI fun _ _ _ _ _ _ _ hc q => imul_int q hc.ok
theorem iop_fdiv : OpR X (inplaceOp .FloorDiv) (rI CDiv fun i j => .int (i / j)) := opI fun i j _ _ _ _ _ hc q => by
  have h1 : (0 : Int) < j := hc.1
  have h2 : j < 1073741824 := hc.2
  exact ifloordiv_int (by omega) (by rw [Int.fdiv_eq_ediv_of_nonneg i (by omega)]; exact q) (.inl (PyProof.noPylong_small (by omega)))
theorem iop_mod : OpR X (inplaceOp .Mod) (rI (fun _ j => 0 < j) fun i j => .int (i % j)) := opI fun i j _ _ _ _ _ hc q => by
  have h1 : (0 : Int) < j := hc
  exact imod_int (by omega) (by rw [Int.fmod_eq_emod_of_nonneg i (by omega)]; exact q)
theorem iop_shl : OpR X (inplaceOp .LShift) (rI CPow fun i j => .int (i * 2 ^ j.toNat)) := opI fun _ _ _ _ _ _ _ hc q => ilshift_int_small hc.1 hc.2.1 hc.2.2 q
theorem iop_shr : OpR X (inplaceOp .RShift) (rI (fun _ j => 0 ≤ j) fun i j => .int (i / 2 ^ j.toNat)) := opI fun i j _ _ _ _ _ hc q =>
  irshift_int hc (by rw [Int.fdiv_eq_ediv_of_nonneg i (two_pow_nn _)]; exact q)
theorem iop_and : OpR X (inplaceOp .BitAnd) (rI0 fun i j => .int (Builtin.bitAnd i j)) := opI0 fun _ _ _ _ _ _ _ q => iand_int q
theorem iop_or : OpR X (inplaceOp .BitOr) (rI0 fun i j => .int (Builtin.bitOr i j)) := opI0 fun _ _ _ _ _ _ _ q => ior_int q
theorem iop_xor : OpR X (inplaceOp .BitXor) (rI0 fun i j => .int (Builtin.bitXor i j)) := opI0 fun _ _ _ _ _ _ _ q => ixor_int q

theorem unI {f : Value → Sem Value} {g : Int → Int}
    (rule : ∀ (i : Int) (t : Tok) (s : Shared) (Q : Value → Shared → Prop) (E : Value → Shared → Prop), Q (.int (g i) s.toks) { s with toks := s.toks + 1 } → wpAny (model X.prog X.w) X.A (f (.int i t)) Q E s) :
    UnR X f (rU fun i => .int (g i)) := by
  intro pins s σ H x v Q I rx h
  obtain ⟨i, rfl, q⟩ := h
  obtain ⟨t, rfl⟩ := rx
  exact rule i t s _ _ ⟨.int (g i), H, I.tok _, ⟨_, rfl⟩, q⟩
theorem un_neg : UnR X (unaryOp .USub) (rU fun i => .int (-i)) := unI fun _ _ _ _ _ q => neg_int q
theorem un_inv : UnR X (unaryOp .Invert) (rU fun i => .int (Builtin.bitNot i)) := unI fun _ _ _ _ _ q => invert_int q

/-! ### bools among ints: n += (a < b) -/
theorem op_add_ib : OpR X (binaryOp .Add) (fun x y H Q => ∃ i k, x = .int i ∧ y = .bl k ∧ Q (.int (i + b2i k)) H) := by
  intro pins s σ H x y v u Q I rx ry h
  obtain ⟨i, k, rfl, rfl, q⟩ := h
  obtain ⟨t, rfl⟩ := rx
  cases ry
  exact add_int_bool ⟨.int (i + b2i k), H, I.tok _, ⟨_, rfl⟩, q⟩
end

/-! ### comparisons -/
/-- the scalars that == tells apart as data does -/
def scal : V → V → Bool
  | .non, .non => true | .non, .int _ => true | .int _, .non => true | .non, .bl _ => true | .bl _, .non => true | .non, .str _ => true | .str _, .non => true
  | .int _, .int _ => true | .bl _, .bl _ => true | .str _, .str _ => true | .byt _, .byt _ => true
  | .int _, .str _ => true | .str _, .int _ => true | .bl _, .str _ => true | .str _, .bl _ => true
  | _, _ => false
def rEq : R2 := fun x y H Q => scal x y = true ∧ Q (.bl (decide (x = y))) H
def rNe : R2 := fun x y H Q => scal x y = true ∧ Q (.bl (!decide (x = y))) H

theorem dec_int {i j : Int} : decide (V.int i = V.int j) = (i == j) := by
  rw [Bool.eq_iff_iff]
  simp
theorem dec_bl {i j : Bool} : decide (V.bl i = V.bl j) = (i == j) := by
  rw [Bool.eq_iff_iff]
  simp
theorem dec_str {i j : Str} : decide (V.str i = V.str j) = (i == j) := by
  rw [Bool.eq_iff_iff]
  simp
theorem dec_byt {i j : Array UInt8} : decide (V.byt i = V.byt j) = (i.toList == j.toList) := by
  rw [Bool.eq_iff_iff]
  cases i
  cases j
  simp

section
variable {X : Cx} {a b c : Expr} {ta tb tc : TE} {pos : Pos}
theorem fin_bl {pins : List (Addr × Obj)} {σ : St} {H : Hp} {s : Shared} {Q : VK} {k k' : Bool} (I : Inv X pins σ H s) (q : Q (.bl k) H) (e : k = k') : EP X pins σ Q (.bool k') s := by
  subst e
  exact ⟨.bl k, H, I, rfl, q⟩
theorem op_eq : OpR X (compareOp .Eq) rEq := by
  intro pins s σ H x y v u Q I rx ry h
  obtain ⟨hs, q⟩ := h
  cases x with
  | non =>
    cases rx
    cases y with
    | non => cases ry; exact PySem.EqNone.eq_none_none (fin_bl I q (by simp))
    | bl j => cases ry; exact PySem.EqNone.eq_none_bool (fin_bl I q (by simp))
    | int j => obtain ⟨t', rfl⟩ := ry; exact PySem.EqNone.eq_none_int (fin_bl I q (by simp))
    | str j => obtain ⟨t', rfl⟩ := ry; exact PySem.EqNone.eq_none_str (fin_bl I q (by simp))
    | _ => exact absurd (show false = true from hs) Bool.false_ne_true
  | bl i =>
    cases rx
    cases y with
    | non => cases ry; exact PySem.EqNone.eq_bool_none (fin_bl I q (by simp))
    | bl j => cases ry; exact eq_bool (fin_bl I q dec_bl)
    | str j => obtain ⟨t', rfl⟩ := ry; exact PySem.EqMixed.eq_bool_str (fin_bl I q (by simp))
    | _ => exact absurd (show false = true from hs) Bool.false_ne_true
  | int i =>
    obtain ⟨t, rfl⟩ := rx
    cases y with
    | non => cases ry; exact PySem.EqNone.eq_int_none (fin_bl I q (by simp))
    | int j => obtain ⟨t', rfl⟩ := ry; exact eq_int (fin_bl I q dec_int)
    | str j => obtain ⟨t', rfl⟩ := ry; exact PySem.EqMixed.eq_int_str (fin_bl I q (by simp))
    | _ => exact absurd (show false = true from hs) Bool.false_ne_true
  | str i =>
    obtain ⟨t, rfl⟩ := rx
    cases y with
    | non => cases ry; exact PySem.EqNone.eq_str_none (fin_bl I q (by simp))
    | bl j => cases ry; exact PySem.EqMixed.eq_str_bool (fin_bl I q (by simp))
    | int j => obtain ⟨t', rfl⟩ := ry; exact PySem.EqMixed.eq_str_int (fin_bl I q (by simp))
    | str j => obtain ⟨t', rfl⟩ := ry; exact eq_str (fin_bl I q dec_str)
    | _ => exact absurd (show false = true from hs) Bool.false_ne_true
  | byt i =>
    obtain ⟨t, rfl⟩ := rx
    cases y with
    | byt j => obtain ⟨t', rfl⟩ := ry; exact PySem.W.eq_bytes (fin_bl I q dec_byt)
    | _ => exact absurd (show false = true from hs) Bool.false_ne_true
  | _ => cases y <;> exact absurd (show false = true from hs) Bool.false_ne_true
theorem op_ne : OpR X (compareOp .NotEq) rNe := by
  intro pins s σ H x y v u Q I rx ry h
  obtain ⟨hs, q⟩ := h
  cases x with
  | non =>
    cases rx
    cases y with
    | non => cases ry; exact PySem.EqNone.ne_none_none (fin_bl I q (by simp))
    | bl j => cases ry; exact PySem.EqNone.ne_none_bool (fin_bl I q (by simp))
    | int j => obtain ⟨t', rfl⟩ := ry; exact PySem.EqNone.ne_none_int (fin_bl I q (by simp))
    | str j => obtain ⟨t', rfl⟩ := ry; exact PySem.EqNone.ne_none_str (fin_bl I q (by simp))
    | _ => exact absurd (show false = true from hs) Bool.false_ne_true
  | bl i =>
    cases rx
    cases y with
    | non => cases ry; exact PySem.EqNone.ne_bool_none (fin_bl I q (by simp))
    | bl j => cases ry; exact ne_bool (fin_bl I q (congrArg not dec_bl))
    | str j => obtain ⟨t', rfl⟩ := ry; exact PySem.EqMixed.ne_bool_str (fin_bl I q (by simp))
    | _ => exact absurd (show false = true from hs) Bool.false_ne_true
  | int i =>
    obtain ⟨t, rfl⟩ := rx
    cases y with
    | non => cases ry; exact PySem.EqNone.ne_int_none (fin_bl I q (by simp))
    | int j => obtain ⟨t', rfl⟩ := ry; exact ne_int (fin_bl I q (congrArg not dec_int))
    | str j => obtain ⟨t', rfl⟩ := ry; exact PySem.EqMixed.ne_int_str (fin_bl I q (by simp))
    | _ => exact absurd (show false = true from hs) Bool.false_ne_true
  | str i =>
    obtain ⟨t, rfl⟩ := rx
    cases y with
    | non => cases ry; exact PySem.EqNone.ne_str_none (fin_bl I q (by simp))
    | bl j => cases ry; exact PySem.EqMixed.ne_str_bool (fin_bl I q (by simp))
    | int j => obtain ⟨t', rfl⟩ := ry; exact PySem.EqMixed.ne_str_int (fin_bl I q (by simp))
    | str j => obtain ⟨t', rfl⟩ := ry; exact ne_str (fin_bl I q (congrArg not dec_str))
    | _ => exact absurd (show false = true from hs) Bool.false_ne_true
  | byt i =>
    obtain ⟨t, rfl⟩ := rx
    cases y with
    | byt j => obtain ⟨t', rfl⟩ := ry; exact PySem.W.ne_bytes (fin_bl I q (congrArg not dec_byt))
    | _ => exact absurd (show false = true from hs) Bool.false_ne_true
  | _ => cases y <;> exact absurd (show false = true from hs) Bool.false_ne_true

theorem op_lt : OpR X (compareOp .Lt) (rI0 fun i j => .bl (decide (i < j))) := opB0 fun _ _ _ _ _ _ _ q => lt_int q
theorem op_le : OpR X (compareOp .LtE) (rI0 fun i j => .bl (decide (i ≤ j))) := opB0 fun _ _ _ _ _ _ _ q => le_int q
theorem op_gt : OpR X (compareOp .Gt) (rI0 fun i j => .bl (decide (j < i))) := opB0 fun _ _ _ _ _ _ _ q => gt_int q
theorem op_ge : OpR X (compareOp .GtE) (rI0 fun i j => .bl (decide (j ≤ i))) := opB0 fun _ _ _ _ _ _ _ q => ge_int q
theorem op_lt_str : OpR X (compareOp .Lt) (fun x y H Q => ∃ i j, x = .str i ∧ y = .str j ∧ Q (.bl (decide (i.cps.toList < j.cps.toList))) H) := by
  intro pins s σ H x y v u Q I rx ry h
  obtain ⟨i, j, rfl, rfl, q⟩ := h
  obtain ⟨t, rfl⟩ := rx
  obtain ⟨t', rfl⟩ := ry
  exact lt_str (fin_bl I q rfl)
/-- the one string within the other -/
theorem op_in_str : OpR X (compareOp .In) (fun x y H Q => ∃ i j, x = .str i ∧ y = .str j ∧ Q (.bl (!(Builtin.Str.occurrences j i 0 j.length 1).isEmpty)) H) := by
  intro pins s σ H x y v u Q I rx ry h
  obtain ⟨i, j, rfl, rfl, q⟩ := h
  obtain ⟨t, rfl⟩ := rx
  obtain ⟨t', rfl⟩ := ry
  exact in_str (fin_bl I q rfl)

/-- is None, is not None: the right side a value none -/
theorem op_isN : OpR X (compareOp .Is) (fun x y H Q => y = .non ∧ Q (.bl (decide (x = .non))) H) := by
  intro pins s σ H x y v u Q I rx ry h
  obtain ⟨rfl, q⟩ := h
  cases ry
  refine is_none_gen (fin_bl I q ?_)
  cases x <;> first
    | (cases rx; rfl)
    | (obtain ⟨t, rfl⟩ := rx; rfl)
theorem op_notN : OpR X (compareOp .IsNot) (fun x y H Q => y = .non ∧ Q (.bl (!decide (x = .non))) H) := by
  intro pins s σ H x y v u Q I rx ry h
  obtain ⟨rfl, q⟩ := h
  cases ry
  refine isnot_none_gen (fin_bl I q ?_)
  cases x <;> first
    | (cases rx; rfl)
    | (obtain ⟨t, rfl⟩ := rx; rfl)

theorem op_notin_str : OpR X (compareOp .NotIn) (fun x y H Q => ∃ i j, x = .str i ∧ y = .str j ∧ Q (.bl (!(!(Builtin.Str.occurrences j i 0 j.length 1).isEmpty))) H) := by
  intro pins s σ H x y v u Q I rx ry h
  obtain ⟨i, j, rfl, rfl, q⟩ := h
  obtain ⟨t, rfl⟩ := rx
  obtain ⟨t', rfl⟩ := ry
  exact notIn_str (fin_bl I q rfl)
/-- is, is not of two objects that are tracked lists or instances -/
def isObj : HO → Bool
  | .lst _ => true
  | .ins _ _ _ => true
  | _ => false
theorem obj_there {pins : List (Addr × Obj)} {s : Shared} {σ : St} {H : Hp} {a : Addr} {o : HO} (I : Inv X pins σ H s) (h : H a = some o) (p : isObj o = true) : ∃ ob, s.heap.get? a = some ob ∧ ob.cls ≠ .type "tuple" := by
  cases o with
  | lst xs =>
    obtain ⟨_, its, n, _, e⟩ : xs.length ≤ sizeLine ∧ ∃ (its : List Value) (n : Nat), Vals xs its ∧ s.heap.get? a = some { cls := .type "list", data := .seq its.toArray n } := I.hok a _ h
    exact ⟨_, e, (by show Value.type "list" ≠ .type "tuple"; decide +kernel)⟩
  | ins C dx fs =>
    have x := I.hok a _ h
    obtain ⟨_, _, _, e, _⟩ := x
    exact ⟨_, e, (by show Value.ref C ≠ .type "tuple"; exact fun z => by cases z)⟩
  | _ => exact absurd (show false = true from p) Bool.false_ne_true
theorem op_is_ref : OpR X (compareOp .Is) (fun x y H Q => ∃ a b oa ob, x = .ref a ∧ y = .ref b ∧ H a = some oa ∧ isObj oa = true ∧ H b = some ob ∧ isObj ob = true ∧ Q (.bl (decide (a = b))) H) := by
  intro pins s σ H x y v u Q I rx ry h
  obtain ⟨a, b, oa, ob, rfl, rfl, ha, pa, hb, pb, q⟩ := h
  cases rx
  cases ry
  obtain ⟨o1, e1, n1⟩ := obj_there I ha pa
  obtain ⟨o2, e2, _⟩ := obj_there I hb pb
  by_cases z : a = b
  · subst z
    exact wpAny_is_ref_self (fin_bl I q (by simp))
  · exact wpAny_is_ref_other z e1 e2 n1 (fin_bl I q (by simp [z]))
theorem op_isnot_ref : OpR X (compareOp .IsNot) (fun x y H Q => ∃ a b oa ob, x = .ref a ∧ y = .ref b ∧ H a = some oa ∧ isObj oa = true ∧ H b = some ob ∧ isObj ob = true ∧ Q (.bl (!decide (a = b))) H) := by
  intro pins s σ H x y v u Q I rx ry h
  obtain ⟨a, b, oa, ob, rfl, rfl, ha, pa, hb, pb, q⟩ := h
  cases rx
  cases ry
  obtain ⟨o1, e1, n1⟩ := obj_there I ha pa
  obtain ⟨o2, e2, _⟩ := obj_there I hb pb
  by_cases z : a = b
  · subst z
    exact wpAny_isNot_ref_self (fin_bl I q (by simp))
  · exact wpAny_isNot_ref_other z e1 e2 n1 (fin_bl I q (by simp [z]))

/-- two rules for one operation: by cases -/
theorem OpR.or {f : Value → Value → Sem Value} {r r' : R2} (h : OpR X f r) (h' : OpR X f r') : OpR X f (fun x y H Q => r x y H Q ∨ r' x y H Q) := by
  intro pins s σ H x y v u Q I rx ry q
  rcases q with q | q
  · exact h pins s σ H x y v u Q I rx ry q
  · exact h' pins s σ H x y v u Q I rx ry q

theorem nomark (b : Expr) {op : CmpOp} (h : op ≠ .In := by decide) (h2 : op ≠ .NotIn := by decide) : behindInMarks op b = false := by
  have e1 : (op == CmpOp.In) = false := by cases op <;> first | rfl | exact absurd rfl h
  have e2 : (op == CmpOp.NotIn) = false := by cases op <;> first | rfl | exact absurd rfl h2
  cases b <;> simp [behindInMarks, e1, e2]
/-- a comparison as a value; hm: nomark b, or (for in, not in) by with_unfolding_all rfl -/
theorem pe_cmpR {op : CmpOp} {r : R2} (ho : OpR X (compareOp op) r) (ha : PE X a ta) (hb : PE X b tb) (hm : behindInMarks op b = false) : PE X (.Compare a [op] [b] pos) (tOp r ta tb) := by
  intro pins s σ H Q I h
  exact wpAny_Compare1 (binT ha hb I h fun v u s2 x y H2 I2 rx ry q => ho pins s2 σ H2 x y v u Q I2 rx ry q) hm
/-- a reading of a value as a test -/
def tTest (t : TE) : TT := fun σ H Q => t σ H fun x H' => ∃ k, x = .bl k ∧ Q k H'
theorem pt_cmpR {op : CmpOp} {r : R2} (ho : OpR X (compareOp op) r) (ha : PE X a ta) (hb : PE X b tb) (hm : behindInMarks op b = false) : PT X (.Compare a [op] [b] pos) (tTest (tOp r ta tb)) := by
  intro pins s σ H Q I h
  refine wpAny_isTrue_Compare1 (thn (ha pins s σ H _ I h) fun v s1 ⟨x, H1, I1, r1, q1⟩ => thn (hb pins s1 σ H1 _ I1 q1) fun u s2 ⟨y, H2, I2, r2, q2⟩ =>
    thn (ho pins s2 σ H2 x y v u _ I2 r1 r2 q2) fun c s3 ⟨z, H3, I3, r3, k, e, q3⟩ => ?_) hm
  subst e
  cases r3
  exact wpAny_truthy_bool ⟨H3, I3, q3⟩
/-- a op1 b op2 c -/
def tChain (r r' : R2) (ta tb tc : TE) : TE := fun σ H Q => ta σ H fun x H1 => tb σ H1 fun y H2 => r x y H2 fun z H3 => ∃ k, z = .bl k ∧
  (if k = true then tc σ H3 fun w' H4 => r' y w' H4 Q else Q (.bl false) H3)
theorem pe_chain {op op' : CmpOp} {r r' : R2} (ho : OpR X (compareOp op) r) (ho' : OpR X (compareOp op') r') (ha : PE X a ta) (hb : PE X b tb) (hc : PE X c tc)
    (hm : lastMarks [op, op'] [b, c] = false := by with_unfolding_all rfl) : PE X (.Compare a [op, op'] [b, c] pos) (tChain r r' ta tb tc) := by
  intro pins s σ H Q I h
  refine Compare_chain (thn (ha pins s σ H _ I h) fun v s1 ⟨x, H1, I1, r1, q1⟩ => chain_link (thn (hb pins s1 σ H1 _ I1 q1) fun u s2 ⟨y, H2, I2, r2, q2⟩ =>
    thn (ho pins s2 σ H2 x y v u _ I2 r1 r2 q2) fun d s3 ⟨z, H3, I3, r3, k, e, q3⟩ => ?_)) hm
  subst e
  cases r3
  refine wpAny_truthy_bool ?_
  cases k with
  | false => exact ite_ff ⟨.bl false, H3, I3, rfl, q3⟩
  | true => exact ite_tt (chain_last (thn (hc pins s3 σ H3 _ I3 q3) fun w' s4 ⟨z', H4, I4, r4, q4⟩ => ho' pins s4 σ H4 y z' u w' Q I4 r2 r4 q4))
theorem pt_chain {op op' : CmpOp} {r r' : R2} (ho : OpR X (compareOp op) r) (ho' : OpR X (compareOp op') r') (ha : PE X a ta) (hb : PE X b tb) (hc : PE X c tc)
    (hm : lastMarks [op, op'] [b, c] = false := by with_unfolding_all rfl) : PT X (.Compare a [op, op'] [b, c] pos) (tTest (tChain r r' ta tb tc)) := by
  intro pins s σ H Q I h
  refine isTrue_chain (thn (ha pins s σ H _ I h) fun v s1 ⟨x, H1, I1, r1, q1⟩ => test_link (thn (hb pins s1 σ H1 _ I1 q1) fun u s2 ⟨y, H2, I2, r2, q2⟩ =>
    thn (ho pins s2 σ H2 x y v u _ I2 r1 r2 q2) fun d s3 ⟨z, H3, I3, r3, k, e, q3⟩ => ?_)) hm
  subst e
  cases r3
  refine wpAny_truthy_bool ?_
  cases k with
  | false =>
    obtain ⟨k', e', q'⟩ := q3
    cases e'
    exact ite_ff ⟨H3, I3, q'⟩
  | true =>
    refine ite_tt (test_last (thn (hc pins s3 σ H3 _ I3 q3) fun w' s4 ⟨z', H4, I4, r4, q4⟩ => thn (ho' pins s4 σ H4 y z' u w' _ I4 r2 r4 q4) fun d' s5 ⟨z2, H5, I5, r5, k2, e2, q5⟩ => ?_))
    subst e2
    cases r5
    exact wpAny_truthy_bool ⟨H5, I5, q5⟩

/-! ### truth -/
/-- a value's truth by the abstract heap -/
def TruV (K : PySem.W.Frag) (x : V) (H : Hp) (k : Bool) : Prop :=
  match x with
  | .non => k = false
  | .bl b => k = b
  | .int i => k = (i != 0)
  | .str y => y.length ≤ sizeLine ∧ k = ((y.length : Int) != 0)
  | .byt y => y.size ≤ sizeLine ∧ k = ((y.size : Int) != 0)
  | .ref p => (∃ xs, SqL K H p xs ∧ k = !xs.isEmpty) ∨ (∃ xs, SqT K H p xs ∧ k = !xs.isEmpty) ∨ ∃ kvs, H p = some (.dK kvs) ∧ k = !kvs.isEmpty
  | _ => False
theorem isEmpty_kv {κ : Type} {kvs : List (κ × V)} {vs : List (κ × Value)} (r : KV kvs vs) : (!vs.isEmpty) = !kvs.isEmpty := by
  cases r <;> rfl
theorem isEmpty_of {xs : List V} {its : List Value} (r : Vals xs its) : (!its.toArray.isEmpty) = !xs.isEmpty := by
  cases r <;> simp
theorem line63 : (sizeLine : Nat) < 2 ^ 63 := by rw [sizeLine_eq]; decide
theorem tru_ok : TruR X (fun x H Q => ∃ k, TruV X.K x H k ∧ Q k H) := by
  intro pins s σ H x v Q I rx h
  obtain ⟨k, e, q⟩ := h
  have hl := line63
  have hs : sizeLine = 16777216 := sizeLine_eq
  cases x with
  | non =>
    cases rx
    have e' : k = false := e
    subst e'
    exact truthy_none ⟨H, I, q⟩
  | bl b =>
    cases rx
    have e' : k = b := e
    subst e'
    exact wpAny_truthy_bool ⟨H, I, q⟩
  | int i =>
    obtain ⟨t, rfl⟩ := rx
    have e' : k = (i != 0) := e
    subst e'
    exact PySem.P.truthy_int ⟨H, I, q⟩
  | str y =>
    obtain ⟨t, rfl⟩ := rx
    obtain ⟨hy, e'⟩ : y.length ≤ sizeLine ∧ k = ((y.length : Int) != 0) := e
    subst e'
    exact PySem.P.truthy_str (by omega) ⟨H, I.tok _, q⟩
  | byt y =>
    obtain ⟨t, rfl⟩ := rx
    obtain ⟨hy, e'⟩ : y.size ≤ sizeLine ∧ k = ((y.size : Int) != 0) := e
    subst e'
    exact PySem.W.truthy_bytes (by omega) ⟨H, I.tok _, q⟩
  | ref p =>
    cases rx
    have e' : (∃ xs, SqL X.K H p xs ∧ k = !xs.isEmpty) ∨ (∃ xs, SqT X.K H p xs ∧ k = !xs.isEmpty) ∨ ∃ kvs, H p = some (.dK kvs) ∧ k = !kvs.isEmpty := e
    rcases e' with ⟨xs, hx, e'⟩ | ⟨xs, hx, e'⟩ | ⟨kvs, hx, e'⟩
    · subst e'
      obtain ⟨its, r, pl, hz⟩ := I.list hx
      have hlen := r.length
      exact wpAny_truthy_list pl.isList (by simp only [List.size_toArray]; omega) ⟨H, I.tok _, by rw [isEmpty_of r]; exact q⟩
    · subst e'
      obtain ⟨its, r, pl, hz⟩ := I.tuple hx
      have hlen := r.length
      exact truthy_tuple pl (by simp only [List.size_toArray]; omega) ⟨H, I.tok _, by rw [isEmpty_of r]; exact q⟩
    · subst e'
      obtain ⟨hz, hS, vs, r, m⟩ : kvs.length ≤ sizeLine ∧ (p == sysModules) = false ∧ ∃ vs, KV kvs vs ∧ s.heap.DictOf (mixKind X.prog X.w) p vs := I.hok p _ hx
      have hlen : kvs.length = vs.length := Paired.length r
      exact wpAny_truthy_dict hS m (by omega) ⟨H, I.tok _, by rw [isEmpty_kv r]; exact q⟩
  | _ => exact (show False from e).elim
/-- any expression whose test is its value's truth (a name, a call, a subscript, a field ..: he by fun _ => rfl) -/
theorem pt_truth (ha : PE X a ta) (he : ∀ whole, isTrue a X.env whole = (do let v ← whole; standAt a.pos; holding [v] (truthy v))) :
    PT X a (fun σ H Q => ta σ H fun x H' => ∃ k, TruV X.K x H' k ∧ Q k H') := by
  intro pins s σ H Q I h
  exact isTrue_plain (thn (ha pins s σ H _ I h) fun v s1 ⟨x, H1, I1, r1, q1⟩ => tru_ok pins s1 σ H1 x v Q I1 r1 q1) (he _)

/-! ### strs and bytes -/
theorem pe_byt {x : List UInt8} {k : Nat} : PE X (.Constant (.bytes x) k pos) (fun _ H Q => Q (.byt x.toArray) H) := fun _ _ _ H _ I h => PySem.W.Constant_bytes ⟨.byt x.toArray, H, I.tok _, ⟨_, rfl⟩, h⟩
theorem op_add_str : OpR X (binaryOp .Add) (fun x y H Q => ∃ i j, x = .str i ∧ y = .str j ∧ i.length + j.length ≤ sizeLine ∧ Q (.str (i ++ j)) H) := by
  intro pins s σ H x y v u Q I rx ry h
  obtain ⟨i, j, rfl, rfl, hz, q⟩ := h
  obtain ⟨t, rfl⟩ := rx
  obtain ⟨t', rfl⟩ := ry
  exact add_str (fun t' tk => ⟨.str (i ++ j), H, I.tok _, ⟨_, rfl⟩, q⟩) hz
theorem iop_add_str : OpR X (inplaceOp .Add) (fun x y H Q => ∃ i j, x = .str i ∧ y = .str j ∧ i.length + j.length ≤ sizeLine ∧ Q (.str (i ++ j)) H) := by
  intro pins s σ H x y v u Q I rx ry h
  obtain ⟨i, j, rfl, rfl, hz, q⟩ := h
  obtain ⟨t, rfl⟩ := rx
  obtain ⟨t', rfl⟩ := ry
  exact iadd_str (fun t' tk => ⟨.str (i ++ j), H, I.tok _, ⟨_, rfl⟩, q⟩) hz
theorem op_add_byt : OpR X (binaryOp .Add) (fun x y H Q => ∃ i j, x = .byt i ∧ y = .byt j ∧ i.size + j.size ≤ 16777216 ∧ Q (.byt (i ++ j)) H) := by
  intro pins s σ H x y v u Q I rx ry h
  obtain ⟨i, j, rfl, rfl, hz, q⟩ := h
  obtain ⟨t, rfl⟩ := rx
  obtain ⟨t', rfl⟩ := ry
  exact PySem.W.KBy.add_bytes hz (fun t' tk => ⟨.byt (i ++ j), H, I.tok _, ⟨_, rfl⟩, q⟩)

def PlainIxT (b : Expr) : Prop := ∀ o i, subscripted b false o i = operate [o, i] (getItem o i)
/-- s[i], 0 ≤ i < len -/
theorem pe_item_str (ha : PE X a ta) (hb : PE X b tb) (hs : PlainIxT b) :
    PE X (.Subscript a b pos) (tOp (fun x y H Q => ∃ z i c, x = .str z ∧ y = .int i ∧ 0 ≤ i ∧ i < 2 ^ 63 ∧ i < z.length ∧ z.cps[i.toNat]? = some c ∧ Q (.str ⟨#[c]⟩) H) ta tb) := by
  intro pins s σ H Q I h
  refine Subscript_ (binT ha hb I h fun v u s2 x y H2 I2 rx ry q => ?_)
  obtain ⟨z, i, c, rfl, rfl, h0, h63, h1, hc, q⟩ := q
  obtain ⟨t, rfl⟩ := rx
  obtain ⟨t', rfl⟩ := ry
  have e : seqIndex? i z.length = some i.toNat := PySem.StrLaws.seqIndex_nonneg h0 h1
  exact tail_any (typeIs_str s2 z t) slot_str_getitem.lookup (getItem_str (c := c) (by
    have e1 : decide (i < -(2 ^ 63 : Int)) = false := decide_eq_false (by omega)
    have e2 : decide (i ≥ 2 ^ 63) = false := decide_eq_false (by omega)
    rw [e1, e2] <;> rfl) (by rw [e]; exact hc) ⟨.str ⟨#[c]⟩, H2, I2.tok _, ⟨_, rfl⟩, q⟩) (hs _ _)
/-- b[i], 0 ≤ i < len -/
theorem pe_item_byt (ha : PE X a ta) (hb : PE X b tb) (hs : PlainIxT b) :
    PE X (.Subscript a b pos) (tOp (fun x y H Q => ∃ (z : List UInt8) (i : Int), x = .byt z.toArray ∧ y = .int i ∧ z.length ≤ sizeLine ∧ 0 ≤ i ∧ i < z.length ∧ Q (.int ((z.getD i.toNat 0).toNat : Nat)) H) ta tb) := by
  intro pins s σ H Q I h
  refine Subscript_ (binT ha hb I h fun v u s2 x y H2 I2 rx ry q => ?_)
  obtain ⟨z, i, rfl, rfl, hz, h0, h1, q⟩ := q
  obtain ⟨t, rfl⟩ := rx
  obtain ⟨t', rfl⟩ := ry
  have hl : sizeLine = 16777216 := sizeLine_eq
  exact tail_any (PySem.W.typeIs_bytes s2 z.toArray t) PySem.W.FB.slot_bytes_getitem.lookup (PySem.W.getItem_bytes (by omega) h0 h1 ⟨.int ((z.getD i.toNat 0).toNat : Nat), H2, I2.tok _, ⟨_, rfl⟩, q⟩) (hs _ _)

/-! ### scalar builtins, by CallR -/
theorem vals1 {x : V} {us : List Value} (r : Vals [x] us) : ∃ u, us = [u] ∧ RelV x u := by
  cases r with
  | cons r1 r2 => cases r2; exact ⟨_, rfl, r1⟩
theorem vals2 {x y : V} {us : List Value} (r : Vals [x, y] us) : ∃ u w', us = [u, w'] ∧ RelV x u ∧ RelV y w' := by
  cases r with
  | cons r1 r2 =>
    cases r2 with
    | cons r3 r4 => cases r4; exact ⟨_, _, rfl, r1, r3⟩
theorem call_abs : CallR X (.builtin "abs") (fun xs H Q => ∃ i, xs = [.int i] ∧ Q (.int (if i < 0 then -i else i)) H) := by
  intro pins s σ H xs us Q I r h
  obtain ⟨i, rfl, q⟩ := h
  obtain ⟨u, rfl, t, rfl⟩ := vals1 r
  exact call_abs_int fun u tk => ⟨.int (if i < 0 then -i else i), H, I.tok _, ⟨_, rfl⟩, q⟩
theorem call_max2 (hc : X.calm = true) : CallR X (.builtin "max") (fun xs H Q => ∃ i j, xs = [.int i, .int j] ∧ Q (.int (if j > i then j else i)) H) := by
  intro pins s σ H xs us Q I r h
  obtain ⟨i, j, rfl, q⟩ := h
  obtain ⟨u, w', rfl, ⟨t, rfl⟩, ⟨t', rfl⟩⟩ := vals2 r
  refine max_two_ints (I.ok.hd hc) fun h' tk k => ⟨_, H, I.kept k, ?_, q⟩
  by_cases hj : j > i
  · rw [if_pos hj, if_pos hj]; exact ⟨_, rfl⟩
  · rw [if_neg hj, if_neg hj]; exact ⟨_, rfl⟩
theorem call_min2 (hc : X.calm = true) : CallR X (.builtin "min") (fun xs H Q => ∃ i j, xs = [.int i, .int j] ∧ Q (.int (if j < i then j else i)) H) := by
  intro pins s σ H xs us Q I r h
  obtain ⟨i, j, rfl, q⟩ := h
  obtain ⟨u, w', rfl, ⟨t, rfl⟩, ⟨t', rfl⟩⟩ := vals2 r
  refine min_two_ints (I.ok.hd hc) fun h' tk k => ⟨_, H, I.kept k, ?_, q⟩
  by_cases hj : j < i
  · rw [if_pos hj, if_pos hj]; exact ⟨_, rfl⟩
  · rw [if_neg hj, if_neg hj]; exact ⟨_, rfl⟩
theorem call_int1 : CallR X (.type "int") (fun xs H Q => (∃ i, xs = [.int i] ∧ Q (.int i) H) ∨ ∃ k, xs = [.bl k] ∧ Q (.int (if k then 1 else 0)) H) := by
  intro pins s σ H xs us Q I r h
  rcases h with ⟨i, rfl, q⟩ | ⟨k, rfl, q⟩
  · obtain ⟨u, rfl, t, rfl⟩ := vals1 r
    exact call_int_int ⟨.int i, H, I, ⟨_, rfl⟩, q⟩
  · obtain ⟨u, rfl, r1⟩ := vals1 r
    cases r1
    exact call_int_bool ⟨.int (if k then 1 else 0), H, I.tok _, ⟨_, rfl⟩, q⟩
theorem call_bool1 : CallR X (.type "bool") (fun xs H Q => (∃ i, xs = [.int i] ∧ Q (.bl (i != 0)) H) ∨ ∃ k, xs = [.bl k] ∧ Q (.bl k) H) := by
  intro pins s σ H xs us Q I r h
  rcases h with ⟨i, rfl, q⟩ | ⟨k, rfl, q⟩
  · obtain ⟨u, rfl, t, rfl⟩ := vals1 r
    exact call_bool_int ⟨.bl (i != 0), H, I, rfl, q⟩
  · obtain ⟨u, rfl, r1⟩ := vals1 r
    cases r1
    exact call_bool_bool ⟨.bl k, H, I, rfl, q⟩
theorem call_str_int : CallR X (.type "str") (fun xs H Q => ∃ i, xs = [.int i] ∧ i.natAbs.log2 < 1920 ∧ Q (.str (toString i)) H) := by
  intro pins s σ H xs us Q I r h
  obtain ⟨i, rfl, hz, q⟩ := h
  obtain ⟨u, rfl, t, rfl⟩ := vals1 r
  exact PySem.P.str_of_int hz ⟨.str _, H, I.tok _, ⟨_, rfl⟩, q⟩
theorem call_ord : CallR X (.builtin "ord") (fun xs H Q => ∃ x, xs = [.str x] ∧ x.length = 1 ∧ Q (.int (x.cps.getD 0 0 : Nat)) H) := by
  intro pins s σ H xs us Q I r h
  obtain ⟨x, rfl, hz, q⟩ := h
  obtain ⟨u, rfl, t, rfl⟩ := vals1 r
  exact ord_of_one hz ⟨.int _, H, I.tok _, ⟨_, rfl⟩, q⟩
theorem call_chr : CallR X (.builtin "chr") (fun xs H Q => ∃ i, xs = [.int i] ∧ 0 ≤ i ∧ i ≤ 1114111 ∧ Q (.str ⟨#[i.toNat]⟩) H) := by
  intro pins s σ H xs us Q I r h
  obtain ⟨i, rfl, h0, h1, q⟩ := h
  obtain ⟨u, rfl, t, rfl⟩ := vals1 r
  exact chr_of_range h0 h1 ⟨.str _, H, I.tok _, ⟨_, rfl⟩, q⟩
/-- len of a str, a bytes, a list, a tuple -/
def LenV (K : PySem.W.Frag) (x : V) (H : Hp) (n : Nat) : Prop :=
  match x with
  | .str y => y.length ≤ sizeLine ∧ n = y.length
  | .byt y => y.size ≤ sizeLine ∧ n = y.size
  | .ref p => (∃ xs, SqL K H p xs ∧ n = xs.length) ∨ ∃ xs, SqT K H p xs ∧ n = xs.length
  | _ => False
theorem call_len : CallR X (.builtin "len") (fun xs H Q => ∃ x n, xs = [x] ∧ LenV X.K x H n ∧ Q (.int n) H) := by
  intro pins s σ H xs us Q I r h
  obtain ⟨x, n, rfl, e, q⟩ := h
  obtain ⟨u, rfl, rx⟩ := vals1 r
  have hl := line63
  have hs : sizeLine = 16777216 := sizeLine_eq
  cases x with
  | str y =>
    obtain ⟨t, rfl⟩ := rx
    obtain ⟨hy, e'⟩ : y.length ≤ sizeLine ∧ n = y.length := e
    subst e'
    exact len_str (by omega) ⟨.int _, H, I.tok _, ⟨_, rfl⟩, q⟩
  | byt y =>
    obtain ⟨t, rfl⟩ := rx
    obtain ⟨hy, e'⟩ : y.size ≤ sizeLine ∧ n = y.size := e
    subst e'
    exact PySem.W.len_bytes (by omega) ⟨.int _, H, I.tok _, ⟨_, rfl⟩, q⟩
  | ref p =>
    cases rx
    have e' : (∃ xs, SqL X.K H p xs ∧ n = xs.length) ∨ ∃ xs, SqT X.K H p xs ∧ n = xs.length := e
    rcases e' with ⟨xs, hx, e'⟩ | ⟨xs, hx, e'⟩
    · subst e'
      obtain ⟨its, r', pl, hz⟩ := I.list hx
      have hlen := r'.length
      exact Calls.call_len_list pl.isList (by simp only [List.size_toArray]; omega) ⟨.int xs.length, H, I.tok _, ⟨_, by simp only [List.size_toArray]; rw [hlen]⟩, q⟩
    · subst e'
      obtain ⟨its, r', pl, hz⟩ := I.tuple hx
      have hlen := r'.length
      exact len_tuple pl (by simp only [List.size_toArray]; omega) ⟨.int xs.length, H, I.tok _, ⟨_, by simp only [List.size_toArray]; rw [hlen]⟩, q⟩
  | _ => exact (show False from e).elim
/-- divmod: a new tuple -/
theorem call_divmod : CallR X (.builtin "divmod") (fun xs H Q => ∃ i j, xs = [.int i, .int j] ∧ CDiv i j ∧ ∀ p, H p = none → Q (.ref p) (upd H p (.tup [.int (i / j), .int (i % j)]))) := by
  intro pins s σ H xs us Q I r h
  obtain ⟨i, j, rfl, ⟨h1, h2⟩, q⟩ := h
  obtain ⟨u, w', rfl, ⟨t, rfl⟩, ⟨t', rfl⟩⟩ := vals2 r
  refine divmod_int (by omega) ?_ (.inl (PyProof.noPylong_small (by omega)))
  rw [Int.fdiv_eq_ediv_of_nonneg i (by omega), Int.fmod_eq_emod_of_nonneg i (by omega)]
  have hn : H s.heap.objs.size = none := I.hok.fresh (Nat.le_refl _)
  refine ⟨.ref s.heap.objs.size, _, ?_, rfl, q _ hn⟩
  refine I.laid (fun b o e => Heap.get?_push_of_some _ e) (Nat.le_refl _) ⟨by simp only [List.length_cons, List.length_nil]; rw [sizeLine_eq]; decide, [.int (i / j) s.toks, .int (i % j) (s.toks + 1)], .cons ⟨_, rfl⟩ (.cons ⟨_, rfl⟩ .nil), ?_⟩
  exact ⟨_, Heap.get?_push_size s.heap rfl, rfl, 0, rfl⟩
end
end L2

namespace L2
open PySem PySem.Spec PyProof.Rows

/-! ### an instance, its attributes a map -/
structure ObjM (h : Heap) (x dx C : Addr) (mA : Str → Option Value) : Prop where
  obj : h.get? x = some (PySem.W.instObj C dx)
  ns : h.Ns1 dx mA
  ne : dx ≠ x

theorem lookIn_ns {h : Heap} {dx : Addr} {mA : Str → Option Value} (n : h.Ns1 dx mA) : ∃ od, h.get? dx = some od ∧ ∀ name, PySem.W.lookIn name od = some (mA name) := by
  obtain ⟨o, es, ep, ho, hd, hk, _, hm⟩ := n
  refine ⟨o, ho, fun name => ?_⟩
  have e := hm name
  unfold nsFind findBy at e
  rw [← Array.find?_toList] at e
  unfold PySem.W.lookIn
  rw [hd]
  dsimp only
  split
  · rename_i y q
    rw [q] at e
    exact congrArg some e
  · rename_i q
    rw [q] at e
    have a : es.toList.any (·.refKey) = false := by
      rw [List.any_eq_false]
      intro y hy
      obtain ⟨z, t, hkey⟩ := hk y (Array.mem_toList_iff.mp hy)
      simp [DictEntry.refKey, hkey]
    have a' : ¬ es.toList.any (·.refKey) = true := by rw [a]; exact Bool.false_ne_true
    rw [if_neg a']
    exact congrArg some e

theorem ObjM.look {h : Heap} {x dx C : Addr} {mA : Str → Option Value} (I : ObjM h x dx C mA) : ∃ od, PySem.W.InstAt h x (PySem.W.instObj C dx) C (some od) ∧ ∀ name, PySem.W.lookIn name od = some (mA name) :=
  let ⟨od, ho, hl⟩ := lookIn_ns I.ns
  ⟨od, ⟨I.obj, rfl, rfl, ho⟩, hl⟩

section
variable {prog : Program} {w : World} {A : Around} {E : Value → Shared → Prop} {s : Shared} {K : PySem.W.Frag} {x dx C f : Addr} {mA : Str → Option Value} {name : Str} {v : Value}

theorem get_map {expr : Bool} {Q : Value → Shared → Prop} (X : K.In s.heap) (I : ObjM s.heap x dx C mA) (hg : PySem.W.plainGet K C name = true) (hh : PySem.W.hasDictIn K C = true)
    (ha : PySem.W.findIn K (.ref C) name = some none) (hv : mA name = some v) (hv' : PySem.W.handedIn v = true) (h : Q v { s with toks := s.toks + 1 }) :
    wpAny (model prog w) A (getAttr (.ref x) name expr) Q E s := by
  obtain ⟨od, J, hl⟩ := I.look
  exact PySem.W.get_value X J (PySem.W.plainGet_of hg).1 (PySem.W.findObj_own hh ha rfl (by rw [hl, hv])) hv' h

theorem get_const {expr : Bool} {a : Value} {Q : Value → Shared → Prop} (X : K.In s.heap) (I : ObjM s.heap x dx C mA) (hg : PySem.W.plainGet K C name = true) (hh : PySem.W.hasDictIn K C = true)
    (ha : PySem.W.findIn K (.ref C) name = some (some a)) (hn : PySem.W.specialIn K a "__get__" = some none) (hc : PySem.W.copiedNames.contains name = false) (hv : mA name = none) (hv' : PySem.W.handedIn a = true)
    (h : Q a { s with toks := s.toks + 1 }) : wpAny (model prog w) A (getAttr (.ref x) name expr) Q E s := by
  obtain ⟨od, J, hl⟩ := I.look
  exact PySem.W.get_value X J (PySem.W.plainGet_of hg).1 (PySem.W.findObj_cls hh ha hn hv' hc (by rw [hl, hv])) hv' h

theorem get_meth {pl : Sem Bool} {Q : Value × List Value → Shared → Prop} (X : K.In s.heap) (I : ObjM s.heap x dx C mA) (hg : PySem.W.plainGet K C name = true)
    (hf : PySem.W.findIn K (.ref C) name = some (some (.ref f))) (ht : PySem.W.isFn K (.ref f) = true) (hv : mA name = none) (h : Q (.ref f, [.ref x]) s) :
    wpAny (model prog w) A (getMethod (.ref x) name pl) Q E s := by
  obtain ⟨od, J, hl⟩ := I.look
  exact PySem.W.method_fn X J (PySem.W.plainGet_of hg).1 (PySem.W.plainGet_of hg).2 hf (beq_iff_eq.mp ht) (by show (PySem.W.lookIn name od).map (·.isSome) = some false; rw [hl, hv]; rfl) h

theorem set_map {ns : List Str} {Q : Unit → Shared → Prop} (X : K.In s.heap) (I : ObjM s.heap x dx C mA)
    (hs : PySem.W.findIn K (.ref C) "__setattr__" = some (some (.builtin "object.__setattr__"))) (hp : PySem.W.plainOver K C = true) (ht : PySem.W.takerIn K C name = some none) (hh : PySem.W.hasDictIn K C = true)
    (hw : PySem.Within mA ns) (hsz : ns.length ≤ sizeLine)
    (h : ∀ h', ObjM h' x dx C (fun y => if y = name then some v else mA y) → Heap.SameBut dx s.heap h' → Q () { s with heap := h', toks := s.toks + 2 }) :
    wpAny (model prog w) A (setAttr (.ref x) name v) Q E s := by
  obtain ⟨od, J, hl⟩ := I.look
  refine PySem.W.set_plain X J hs (PySem.W.osa_open (s := { s with toks := s.toks + 1 }) (r := none) X J hp ht fun b => ?_)
  obtain ⟨cd, hc, hd'⟩ := PySem.W.any_some hh
  have hx : s.heap.get? x = some ⟨.ref C, some dx, .plain, #[]⟩ := I.obj
  refine wpAny_bind (wpAny_pure (wpAny_bind (wpAny_bind (wpAny_loadPart hx (wpAny_bind (PySem.W.Looks.here (s := { s with toks := s.toks + 1 }) (PySem.W.looks_clsIn X hc) ?_))))))
  rw [hd']
  refine wpAny_pure (a := some dx) (wpAny_bind (wpAny_pure (wpAny_bind ?_)))
  refine wpAny_nsSet1 (s := { s with toks := s.toks + 1 }) I.ns fun h' hn2 hs2 => ?_
  obtain ⟨oD, esD, epD, hoD, hdD, hcD⟩ := hn2.count (PySem.Within.cons name v hw)
  refine wpAny_bind (wpAny_lookBehind hoD (by rw [hdD]; exact pastItsLine_dict (Nat.le_trans hcD (by rw [List.length_cons]; omega))) ?_)
  exact wpAny_pure (h _ ⟨(hs2.2 _ (Ne.symm I.ne)).trans I.obj, hn2, I.ne⟩ hs2)

/-- C(..): the dict at the heap's end, the instance behind it; then its __init__ -/
theorem make_map {R : Result → Shared → Prop} {vs : List Value} {kw : List (Str × Value)} (X : K.In s.heap) (hm : PySem.W.makesIn K C = true)
    (hi : PySem.W.findIn K (.ref C) "__init__" = some (some (.ref f))) (hf : PySem.W.typeIn K (.ref f) = some (.type "function"))
    (h : codeAny (model prog w) (A.under (.builtin "type.__call__" ⟨.ref C :: vs, kw⟩)) (.call (.ref f) ⟨.ref (s.heap.objs.size + 1) :: vs, kw⟩) (PySem.W.InitBack (s.heap.objs.size + 1) R)
      { s with heap := (s.heap.push PySem.W.emptyDict).push (PySem.W.instObj C s.heap.objs.size) }) :
    codeAny (model prog w) A (.call (.ref C) ⟨vs, kw⟩) R s := by
  obtain ⟨hh, g, d, t, os⟩ := s
  exact PySem.W.make_core (PySem.W.makes_of X hm) (PySem.W.looks_findIn X hi) (fun self => PySem.W.bind_fn X self hf) (.inl rfl) h
/-- C() where there is no __init__ but object's -/
theorem make_map0 {R : Result → Shared → Prop} (X : K.In s.heap) (hm : PySem.W.makesIn K C = true)
    (hi : PySem.W.findIn K (.ref C) "__init__" = some (some (.builtin "object.__init__")))
    (hb : ∀ self, PySem.W.Looks (model prog w) s.heap (bindSpecial (.builtin "object.__init__") self) (.builtin "object.__init__", [self]))
    (h : codeAny (model prog w) (A.under (.builtin "type.__call__" ⟨[.ref C], []⟩)) (.call (.builtin "object.__init__") ⟨[.ref (s.heap.objs.size + 1)], []⟩) (PySem.W.InitBack (s.heap.objs.size + 1) R)
      { s with heap := (s.heap.push PySem.W.emptyDict).push (PySem.W.instObj C s.heap.objs.size) }) :
    codeAny (model prog w) A (.call (.ref C) ⟨[], []⟩) R s := by
  obtain ⟨hh, g, d, t, os⟩ := s
  exact PySem.W.make_core (PySem.W.makes_of X hm) (PySem.W.looks_findIn X hi) hb (.inr ⟨rfl, rfl⟩) h
end

/-! ### the attributes as a list of pairs -/
def putF (f : Str) (v : V) : List (Str × V) → List (Str × V)
  | [] => [(f, v)]
  | (g, x) :: r => if g = f then (g, v) :: r else (g, x) :: putF f v r
theorem lookup_putF (f g : Str) (v : V) : ∀ fs : List (Str × V), (putF f v fs).lookup g = if g = f then some v else fs.lookup g
  | [] => by
    show List.lookup g [(f, v)] = _
    by_cases h : g = f
    · have hb : (g == f) = true := beq_iff_eq.mpr h
      simp only [List.lookup, hb, if_pos h]
    · have hb : (g == f) = false := beq_eq_false_iff_ne.mpr h
      simp only [List.lookup, hb, if_neg h]
  | (k, x) :: r => by
    have ih := lookup_putF f g v r
    rw [show putF f v ((k, x) :: r) = (if k = f then (k, v) :: r else (k, x) :: putF f v r) from rfl]
    by_cases hk : k = f
    · rw [if_pos hk]
      by_cases h : g = k
      · have hb : (g == k) = true := beq_iff_eq.mpr h
        simp only [List.lookup, hb, if_pos (h.trans hk)]
      · have hb : (g == k) = false := beq_eq_false_iff_ne.mpr h
        simp only [List.lookup, hb, if_neg (fun e : g = f => h (e.trans hk.symm))]
    · rw [if_neg hk]
      by_cases h : g = k
      · have hb : (g == k) = true := beq_iff_eq.mpr h
        simp only [List.lookup, hb, if_neg (fun e : g = f => hk (h.symm.trans e))]
      · have hb : (g == k) = false := beq_eq_false_iff_ne.mpr h
        simp only [List.lookup, hb]
        exact ih
theorem keys_putF (f : Str) (v : V) : ∀ fs : List (Str × V), f ∈ (putF f v fs).map (·.1) ∧ ∀ g, g ∈ fs.map (·.1) → g ∈ (putF f v fs).map (·.1)
  | [] => ⟨by simp [putF], fun g h => by simp at h⟩
  | (k, x) :: r => by
    obtain ⟨i1, i2⟩ := keys_putF f v r
    rw [show putF f v ((k, x) :: r) = (if k = f then (k, v) :: r else (k, x) :: putF f v r) from rfl]
    by_cases hk : k = f
    · rw [if_pos hk]
      subst hk
      exact ⟨by simp, fun g h => by simpa using h⟩
    · rw [if_neg hk]
      refine ⟨?_, fun g h => ?_⟩
      · rw [List.map_cons]
        exact List.mem_cons_of_mem _ i1
      · rw [List.map_cons] at h ⊢
        rcases List.mem_cons.mp h with e | e
        · exact List.mem_cons.mpr (.inl e)
        · exact List.mem_cons_of_mem _ (i2 g e)
theorem length_putF (f : Str) (v : V) : ∀ fs : List (Str × V), (putF f v fs).length ≤ fs.length + 1
  | [] => by simp [putF]
  | (k, x) :: r => by
    have ih := length_putF f v r
    rw [show putF f v ((k, x) :: r) = (if k = f then (k, v) :: r else (k, x) :: putF f v r) from rfl]
    by_cases hk : k = f
    · rw [if_pos hk, List.length_cons, List.length_cons]; omega
    · rw [if_neg hk, List.length_cons, List.length_cons]; omega

theorem RelO.some_of {v : V} {o : Option Value} (r : RelO (some v) o) : ∃ u, o = some u ∧ RelV v u := by
  cases o with
  | none => exact (show False from r).elim
  | some u => exact ⟨u, rfl, r⟩
theorem RelO.none_of {o : Option Value} (r : RelO none o) : o = none := by
  cases o with
  | none => rfl
  | some u => exact (show False from r).elim
theorem handed_of {v : V} {u : Value} (r : RelV v u) : PySem.W.handedIn u = true := by
  cases v with
  | non => cases (show u = Value.none from r); rfl
  | bl b => cases (show u = Value.bool b from r); rfl
  | int i => obtain ⟨t, e⟩ := (show ∃ t, u = Value.int i t from r); cases e; rfl
  | str x => obtain ⟨t, e⟩ := (show ∃ t, u = Value.str x t from r); cases e; rfl
  | byt b => obtain ⟨t, e⟩ := (show ∃ t, u = Value.bytes b t from r); cases e; rfl
  | flt b => obtain ⟨t, e⟩ := (show ∃ t, u = Value.float b t from r); cases e; rfl
  | ref a => cases (show u = Value.ref a from r); rfl
  | ty n => cases (show u = Value.type n from r); rfl

section
variable {P : Program} {w : World} {H H' : Hp} {h h' : Heap} {a C dx : Addr} {fs fs' : List (Str × V)}
theorem ins_get (hok : HOk P w H h) (e : H a = some (.ins C dx fs)) : ∃ mA, ObjM h a dx C mA ∧ (∀ f, RelO (fs.lookup f) (mA f)) ∧ PySem.Within mA (fs.map (·.1)) ∧ fs.length ≤ 1000 ∧ H dx = some (.own a) := by
  obtain ⟨d, z, ne, ob, mA, n, r, q⟩ := (show ObjOk P w H h a (.ins C dx fs) from hok a _ e)
  exact ⟨mA, ⟨ob, n, ne⟩, r, q, z, d⟩
end

/-! ### what of the text a class must have -/
structure Cls (K : PySem.W.Frag) (C : Addr) : Prop where
  pg : PySem.W.plainGet K C Str.empty = true
  hd : PySem.W.hasDictIn K C = true
  po : PySem.W.plainOver K C = true
  sa : PySem.W.findIn K (.ref C) "__setattr__" = some (some (.builtin "object.__setattr__"))
theorem Cls.get {K : PySem.W.Frag} {C : Addr} (c : Cls K C) (f : Str) : PySem.W.plainGet K C f = true := c.pg
/-- no class of it has the name -/
def NoAttr (K : PySem.W.Frag) (C : Addr) (f : Str) : Prop := PySem.W.findIn K (.ref C) f = some none
theorem NoAttr.taker {K : PySem.W.Frag} {C : Addr} {f : Str} (n : NoAttr K C f) : PySem.W.takerIn K C f = some none := by
  unfold PySem.W.takerIn
  rw [show PySem.W.findIn K (.ref C) f = some none from n]
  rfl
/-- a constant of the class -/
structure Con (K : PySem.W.Frag) (C : Addr) (f : Str) (v : V) (u : Value) : Prop where
  at_ : PySem.W.findIn K (.ref C) f = some (some u)
  rel : RelV v u
  get : PySem.W.specialIn K u "__get__" = some none
  cp : PySem.W.copiedNames.contains f = false
/-- a method: a plain def of the class or of one above it -/
structure Meth (K : PySem.W.Frag) (C : Addr) (m : Str) (f : Addr) : Prop where
  at_ : PySem.W.findIn K (.ref C) m = some (some (.ref f))
  fn : PySem.W.isFn K (.ref f) = true
  kp : PySem.W.keepIn K (.ref f) = true

section
variable {X : Cx} {pins : List (Addr × Obj)} {σ : St} {H : Hp} {s : Shared} {a C dx : Addr} {fs : List (Str × V)} {f : Str} {v : V} {A : Around} {E : Value → Shared → Prop}

theorem getattr_ok {b : Bool} {Q : Value → Shared → Prop} (I : Inv X pins σ H s) (e : H a = some (.ins C dx fs)) (c : Cls X.K C) (n : NoAttr X.K C f) (l : fs.lookup f = some v)
    (h : ∀ u s', Inv X pins σ H s' → RelV v u → Q u s') : wpAny (model X.prog X.w) A (getAttr (.ref a) f b) Q E s := by
  obtain ⟨mA, O, r, _, _, _⟩ := ins_get I.hok e
  obtain ⟨u, hu, ru⟩ := RelO.some_of (v := v) (o := mA f) (by rw [← l]; exact r f)
  exact get_map I.kIn O (c.get f) c.hd n hu (handed_of ru) (h u _ (I.tok _) ru)

theorem getcon_ok {b : Bool} {u : Value} {Q : Value → Shared → Prop} (I : Inv X pins σ H s) (e : H a = some (.ins C dx fs)) (c : Cls X.K C) (k : Con X.K C f v u) (l : fs.lookup f = none)
    (h : ∀ s', Inv X pins σ H s' → Q u s') : wpAny (model X.prog X.w) A (getAttr (.ref a) f b) Q E s := by
  obtain ⟨mA, O, r, _, _, _⟩ := ins_get I.hok e
  have hn : mA f = none := RelO.none_of (by rw [← l]; exact r f)
  exact get_const I.kIn O (c.get f) c.hd k.at_ k.get k.cp hn (handed_of k.rel) (h _ (I.tok _))

theorem getmeth_ok {m : Str} {g : Addr} {pl : Sem Bool} {Q : Value × List Value → Shared → Prop} (I : Inv X pins σ H s) (e : H a = some (.ins C dx fs)) (c : Cls X.K C) (k : Meth X.K C m g) (l : fs.lookup m = none)
    (h : Q (.ref g, [.ref a]) s) : wpAny (model X.prog X.w) A (getMethod (.ref a) m pl) Q E s := by
  obtain ⟨mA, O, r, _, _, _⟩ := ins_get I.hok e
  have hn : mA m = none := RelO.none_of (by rw [← l]; exact r m)
  exact get_meth I.kIn O (c.get m) k.at_ k.fn hn h

theorem setattr_ok {y : V} {u : Value} {Q : Unit → Shared → Prop} (I : Inv X pins σ H s) (e : H a = some (.ins C dx fs)) (c : Cls X.K C) (n : NoAttr X.K C f) (hl : fs.length < 1000) (ry : RelV y u)
    (h : ∀ s', Inv X pins σ (upd H a (.ins C dx (putF f y fs))) s' → Q () s') : wpAny (model X.prog X.w) A (setAttr (.ref a) f u) Q E s := by
  obtain ⟨mA, O, r, wi, _, ho⟩ := ins_get I.hok e
  have hz : (fs.map (·.1)).length ≤ sizeLine := by rw [List.length_map, sizeLine_eq]; omega
  refine set_map I.kIn O c.sa c.po n.taker c.hd wi hz fun h' O' sb => h _ ?_
  have hd : ∃ o, h'.get? dx = some o := let ⟨o, _, _, e', _⟩ := O'.ns; ⟨o, e'⟩
  refine I.write (x := a) (e := dx) (by rw [e]; exact True.intro) (.inr ho) (fun b q hb z => (sb.2 b hb).trans z) hd ?_
  refine ⟨by rw [upd_ne O.ne]; exact ho, ?_, O.ne, O'.obj, _, O'.ns, fun g => ?_, fun g hg => ?_⟩
  · have := length_putF f y fs; omega
  · show RelO ((putF f y fs).lookup g) (if g = f then some u else mA g)
    rw [lookup_putF]
    by_cases q : g = f
    · rw [if_pos q, if_pos q]; exact ry
    · rw [if_neg q, if_neg q]; exact r g
  · by_cases q : g = f
    · rw [q]; exact (keys_putF f y fs).1
    · refine (keys_putF f y fs).2 g (wi g fun z => hg ?_)
      show (if g = f then some u else mA g) = none
      rw [if_neg q]; exact z

/-- a new instance, tracked, without attributes -/
theorem Inv.made (I : Inv X pins σ H s) : Inv X pins σ (upd (upd H s.heap.objs.size (.own (s.heap.objs.size + 1))) (s.heap.objs.size + 1) (.ins C s.heap.objs.size []))
    { s with heap := (s.heap.push PySem.W.emptyDict).push (PySem.W.instObj C s.heap.objs.size) } := by
  have e1 : (s.heap.push PySem.W.emptyDict).get? s.heap.objs.size = some PySem.W.emptyDict := Heap.get?_push_size s.heap rfl
  have e2 : ((s.heap.push PySem.W.emptyDict).push (PySem.W.instObj C s.heap.objs.size)).get? (s.heap.objs.size + 1) = some (PySem.W.instObj C s.heap.objs.size) := by
    have := Heap.get?_push_size (s.heap.push PySem.W.emptyDict) (o := PySem.W.instObj C s.heap.objs.size) rfl
    rwa [Heap.size_push] at this
  have e3 : (s.heap.push PySem.W.emptyDict).Ns s.heap.objs.size (fun _ => none) := ⟨PySem.W.emptyDict, #[], _, e1, rfl, (fun e he => absurd he (by simp)), fun _ => rfl⟩
  have I1 := I.laid (a := s.heap.objs.size) (o := .own (s.heap.objs.size + 1)) (h' := s.heap.push PySem.W.emptyDict) (t' := s.toks) (fun b u q => Heap.get?_push_of_some _ q) (Nat.le_refl _) ⟨_, e1⟩
  refine I1.laid (a := s.heap.objs.size + 1) (o := .ins C s.heap.objs.size []) (t' := s.toks) (fun b u q => Heap.get?_push_of_some _ q) (Nat.le_of_eq (Heap.size_push _ _)) ?_
  have ne : s.heap.objs.size ≠ s.heap.objs.size + 1 := Nat.ne_of_lt (Nat.lt_succ_self _)
  refine ⟨by rw [upd_ne ne, upd_same], Nat.zero_le _, ne, e2, fun _ => none, (Heap.Ns1.of_empty e3).at fun o q => Heap.get?_push_of_some _ q, fun _ => True.intro, fun y hy => absurd rfl hy⟩

/-- e.f where nothing but the object is asked: through attributeBase (super) and the last hold -/
theorem attr_of {prog : Program} {w : World} {env : Env} {e : Expr} {f : Str} {pos : Pos} {s : Shared} {Q : Value → Shared → Prop} (hb : attributeBase e f env (eval e env) = eval e env)
    (h : wpAny (model prog w) A (eval e env) (fun o s₁ => wpAny (model prog w) A (getAttr o f true) Q E s₁) E s) : wpAny (model prog w) A (eval (.Attribute e f pos) env) Q E s :=
  Attribute_any_ h (by rw [arm_eval_Attribute, hb])
end

/-! ### readings and rules -/
/-- e.f, an attribute of the instance -/
def tFld (K : PySem.W.Frag) (ta : TE) (f : Str) : TE := fun σ H Q => ta σ H fun x H1 => ∃ a C dx fs v, x = .ref a ∧ H1 a = some (.ins C dx fs) ∧ Cls K C ∧ NoAttr K C f ∧ fs.lookup f = some v ∧ Q v H1
/-- e.f, a constant of the class -/
def tCon (K : PySem.W.Frag) (ta : TE) (f : Str) : TE := fun σ H Q => ta σ H fun x H1 => ∃ a C dx fs v u, x = .ref a ∧ H1 a = some (.ins C dx fs) ∧ Cls K C ∧ Con K C f v u ∧ fs.lookup f = none ∧ Q v H1
/-- e.f = value -/
def sFld (K : PySem.W.Frag) (ta tv : TE) (f : Str) : TS := fun D σ H => tv σ H fun y H1 => ta σ H1 fun x H2 => ∃ a C dx fs, x = .ref a ∧ H2 a = some (.ins C dx fs) ∧ Cls K C ∧ NoAttr K C f ∧ fs.length < 1000 ∧
  D.nx σ (upd H2 a (.ins C dx (putF f y fs)))
/-- an augmented operator on two values -/
def InOp (X : Cx) (op : Operator) (rd : V → V → Hp → VK → Prop) : Prop :=
  ∀ (pins : List (Addr × Obj)) (s : Shared) (σ : St) (H : Hp) (x y : V) (u v : Value) (Q : VK), Inv X pins σ H s → RelV x u → RelV y v → rd x y H Q → wpAny (model X.prog X.w) X.A (inplaceOp op u v) (EP X pins σ Q) X.xe s
/-- e.f op= value -/
def sFldAug (K : PySem.W.Frag) (ta tv : TE) (rd : V → V → Hp → VK → Prop) (f : Str) : TS := fun D σ H => ta σ H fun x H1 => ∃ a C dx fs v, x = .ref a ∧ H1 a = some (.ins C dx fs) ∧ Cls K C ∧ NoAttr K C f ∧ fs.lookup f = some v ∧
  tv σ H1 fun y H2 => rd v y H2 fun z H3 => ∃ dx' fs', H3 a = some (.ins C dx' fs') ∧ fs'.length < 1000 ∧ D.nx σ (upd H3 a (.ins C dx' (putF f z fs')))

section
variable {X : Cx} {o e value : Expr} {f : Str} {pos pos' tpos : Pos} {ta tv : TE}
theorem pe_fld (he : PE X e ta) (hb : attributeBase e f X.env (eval e X.env) = eval e X.env) : PE X (.Attribute e f pos) (tFld X.K ta f) := by
  intro pins s σ H Q I h
  refine attr_of hb (thn (he pins s σ H _ I h) fun u s1 ⟨x, H1, I1, rx, a, C, dx, fs, v, ex, ea, c, n, l, q⟩ => ?_)
  subst ex
  obtain rfl : u = Value.ref a := rx
  exact getattr_ok I1 ea c n l fun u' s2 I2 ru => ⟨v, H1, I2, ru, q⟩
theorem pe_con (he : PE X e ta) (hb : attributeBase e f X.env (eval e X.env) = eval e X.env) : PE X (.Attribute e f pos) (tCon X.K ta f) := by
  intro pins s σ H Q I h
  refine attr_of hb (thn (he pins s σ H _ I h) fun u s1 ⟨x, H1, I1, rx, a, C, dx, fs, v, u0, ex, ea, c, k, l, q⟩ => ?_)
  subst ex
  obtain rfl : u = Value.ref a := rx
  exact getcon_ok I1 ea c k l fun s2 I2 => ⟨v, H1, I2, k.rel, q⟩
theorem ps_fld (ha : PE X o ta) (hv : PE X value tv) (hs : swapsWith value (some (.Attribute o f pos')) pos.line X.env = pure false) : PS X (.Assign [.Attribute o f pos'] value pos) (sFld X.K ta tv f) := by
  intro pins s σ H D I h
  refine plainObj_wpAny_Assign_Attribute (thn (hv pins s σ H _ I h) fun u s1 ⟨y, H1, I1, ry, q⟩ => thn (ha pins s1 σ H1 _ I1 q) fun ov s2 ⟨x, H2, I2, rx, a, C, dx, fs, ex, ea, c, n, l, q2⟩ => ?_) hs
  subst ex
  obtain rfl : ov = Value.ref a := rx
  exact setattr_ok I2 ea c n l ry fun s3 I3 => ⟨σ, _, I3, q2⟩
theorem ps_fldaug {op : Operator} {rd : V → V → Hp → VK → Prop} (ha : PE X o ta) (hv : PE X value tv) (hop : InOp X op rd) : PS X (.AugAssign (.Attribute o f tpos) op value pos) (sFldAug X.K ta tv rd f) := by
  intro pins s σ H D I h
  refine wpAny_AugAssign_AttributeAny (thn (ha pins s σ H _ I h) fun ov s1 ⟨x, H1, I1, rx, a, C, dx, fs, v, ex, ea, c, n, l, q⟩ => ?_)
  subst ex
  obtain rfl : ov = Value.ref a := rx
  refine getattr_ok I1 ea c n l fun u s2 I2 ru => thn (hv pins s2 σ H1 _ I2 q) fun w3 s3 ⟨y, H2, I3, ry, q3⟩ => thn (hop pins s3 σ H2 v y u w3 _ I3 ru ry q3) fun w4 s4 ⟨z, H3, I4, rz, dx', fs', ea', l', q4⟩ => ?_
  exact setattr_ok I4 ea' c n l' rz fun s5 I5 => ⟨σ, _, I5, q4⟩
def rAdd : V → V → Hp → VK → Prop := fun x y H Q => ∃ i j, x = .int i ∧ y = .int j ∧ Q (.int (i + j)) H
def rSub : V → V → Hp → VK → Prop := fun x y H Q => ∃ i j, x = .int i ∧ y = .int j ∧ Q (.int (i - j)) H
theorem in_add : InOp X .Add rAdd := by
  rintro pins s σ H x y u v Q I rx ry ⟨i, j, rfl, rfl, q⟩
  obtain ⟨t, rfl⟩ := (show ∃ t, u = Value.int i t from rx)
  obtain ⟨t', rfl⟩ := (show ∃ t', v = Value.int j t' from ry)
  exact PyProof.Rows.iadd_int ⟨.int (i + j), H, I.tok _, ⟨_, rfl⟩, q⟩
theorem in_sub : InOp X .Sub rSub := by
  rintro pins s σ H x y u v Q I rx ry ⟨i, j, rfl, rfl, q⟩
  obtain ⟨t, rfl⟩ := (show ∃ t, u = Value.int i t from rx)
  obtain ⟨t', rfl⟩ := (show ∃ t', v = Value.int j t' from ry)
  exact PyProof.Rows.isub_int ⟨.int (i - j), H, I.tok _, ⟨_, rfl⟩, q⟩

/-- what is between an instance and its method: the tree of a method call -/
theorem methcall_of {pl : Sem Bool} {m : Str} {apos : Pos} {args : List Expr} {pins : List (Addr × Obj)} {s : Shared} {σ : St} {H : Hp} {Q : Value → Shared → Prop} {te : TE} (he : PE X e te) (I : Inv X pins σ H s)
    (h : te σ H fun x H1 => ∃ a C dx fs g, x = .ref a ∧ H1 a = some (.ins C dx fs) ∧ Cls X.K C ∧ Meth X.K C m g ∧ fs.lookup m = none ∧
      ∀ s1, Inv X pins σ H1 s1 → wpAny (model X.prog X.w) X.A (callWith pos (.ref g) [.ref a] (backTo pos (starEach args X.env)) (backToKw pos (keywordEach [] X.env))) Q X.xe s1)
    (ht : eval (.Call (.Attribute e m apos) args [] pos) X.env = (do
      let ov ← eval e X.env
      standAt apos.atName
      let (f, first) ← holding [ov] (getMethod ov m pl)
      callWith pos f first (backTo pos (starEach args X.env)) (backToKw pos (keywordEach [] X.env)))) :
    wpAny (model X.prog X.w) X.A (eval (.Call (.Attribute e m apos) args [] pos) X.env) Q X.xe s := by
  refine PySem.W.methodCall_KW (pl := pl) (thn (he pins s σ H _ I h) fun u s1 ⟨x, H1, I1, rx, a, C, dx, fs, g, ex, ea, c, k, l, q⟩ => ?_) ht
  subst ex
  obtain rfl : u = Value.ref a := rx
  exact getmeth_ok I1 ea c k l (q s1 I1)
end

/-! ### isinstance -/
section
variable {X : Cx} {pins : List (Addr × Obj)} {σ : St} {H : Hp} {s : Shared} {A : Around} {E : Value → Shared → Prop} {Q : Value → Shared → Prop} {c : Value} {b : Bool}
/-- the type of a value, as the fragment's deciders take it; for an instance its class -/
inductive TyOf (K : PySem.W.Frag) (H : Hp) : V → Value → Prop where
  | non : TyOf K H .non (.type "NoneType")
  | bl (x : Bool) : TyOf K H (.bl x) (.type "bool")
  | int (i : Int) : TyOf K H (.int i) (.type "int")
  | str (x : Str) : TyOf K H (.str x) (.type "str")
  | flt (x : UInt64) : TyOf K H (.flt x) (.type "float")
  | lst {a : Addr} {xs : List V} (e : H a = some (.lst xs)) : TyOf K H (.ref a) (.type "list")
  | frz {a : Addr} {o : Obj} {xs : List V} (e : H a = some (.frz o (.lst xs))) : TyOf K H (.ref a) (.type "list")
  | tup {a : Addr} {xs : List V} (e : H a = some (.tup xs)) : TyOf K H (.ref a) (.type "tuple")
  | dK {a : Addr} {kvs : List (Key × V)} (e : H a = some (.dK kvs)) : TyOf K H (.ref a) (.type "dict")
  | dT {a : Addr} {kvs : List (List Key × V)} (e : H a = some (.dT kvs)) : TyOf K H (.ref a) (.type "dict")
  | ins {a C dx : Addr} {fs : List (Str × V)} (e : H a = some (.ins C dx fs)) (cl : Cls K C) (ha : PySem.W.findIn K (.ref C) "__class__" = some (some (.builtin "object.__class__")))
      (hn : PySem.W.specialIn K (.builtin "object.__class__") "__get__" = some (some (.builtin "getset_descriptor.__get__"))) (htk : PySem.W.takesIn K (.builtin "object.__class__") = some true)
      (hm : PySem.W.mroIn K C (.type "object") = some true) : TyOf K H (.ref a) (.ref C)
/-- isinstance(x, c) for one class c, a built-in or an own one: kitOne's answer -/
theorem isinst_ok {x : V} {u t : Value} (I : Inv X pins σ H s) (rx : RelV x u) (ty : TyOf X.K H x t) (e : PySem.W.kitOne X.K t c = some b) (h : ∀ tk, Q (.bool b) { s with toks := tk }) :
    wpAny (model X.prog X.w) A (call (.builtin "isinstance") [u, c]) Q E s := by
  cases ty with
  | non => cases (show u = Value.none from rx); exact PySem.W.kia_one PySem.W.kitx_none I.kIn True.intro e (fun z => nomatch z) h
  | bl y => cases (show u = Value.bool y from rx); exact PySem.W.kia_one PySem.W.kitx_bool I.kIn True.intro e (fun z => nomatch z) h
  | int i => obtain ⟨t, q⟩ := (show ∃ t, u = Value.int i t from rx); cases q; exact PySem.W.kia_one PySem.W.kitx_int I.kIn True.intro e (fun z => nomatch z) h
  | str y => obtain ⟨t, q⟩ := (show ∃ t, u = Value.str y t from rx); cases q; exact PySem.W.kia_one PySem.W.kitx_str I.kIn True.intro e (fun z => nomatch z) h
  | flt y => obtain ⟨t, q⟩ := (show ∃ t, u = Value.float y t from rx); cases q; exact PySem.W.kia_one PySem.W.kitx_float I.kIn True.intro e (fun z => nomatch z) h
  | @lst a xs ea =>
    cases (show u = Value.ref a from rx)
    obtain ⟨_, _, n, _, h1⟩ := (show ObjOk X.prog X.w H s.heap a (.lst xs) from I.hok a _ ea)
    exact PySem.W.kia_one PySem.W.kitx_list I.kIn ⟨_, h1, rfl⟩ e (fun z => nomatch z) h
  | @frz a ob xs ea =>
    cases (show u = Value.ref a from rx)
    obtain ⟨_, _, _, n, _, h1⟩ := (show ObjOk X.prog X.w H s.heap a (.frz ob (.lst xs)) from I.hok a _ ea)
    exact PySem.W.kia_one PySem.W.kitx_list I.kIn ⟨_, h1, rfl⟩ e (fun z => nomatch z) h
  | @tup a xs ea =>
    cases (show u = Value.ref a from rx)
    obtain ⟨_, _, _, p⟩ := (show ObjOk X.prog X.w H s.heap a (.tup xs) from I.hok a _ ea)
    obtain ⟨o, h1, h2, _⟩ := p
    exact PySem.W.kia_one PySem.W.kitx_tuple I.kIn ⟨o, h1, h2⟩ e (fun z => nomatch z) h
  | @dK a kvs ea =>
    cases (show u = Value.ref a from rx)
    obtain ⟨_, _, vs, _, p⟩ := (show ObjOk X.prog X.w H s.heap a (.dK kvs) from I.hok a _ ea)
    obtain ⟨o, es, ep, h1, h2, _⟩ := p
    exact PySem.W.kia_one PySem.W.kitx_dict I.kIn ⟨o, h1, h2.1⟩ e (fun z => nomatch z) h
  | @dT a kvs ea =>
    cases (show u = Value.ref a from rx)
    obtain ⟨_, _, xs, _, o, es, ep, h1, h2, _⟩ := (show ObjOk X.prog X.w H s.heap a (.dT kvs) from I.hok a _ ea)
    exact PySem.W.kia_one PySem.W.kitx_dict I.kIn ⟨o, h1, h2.1⟩ e (fun z => nomatch z) h
  | @ins a C dx fs ea cl ha hn htk hm =>
    cases (show u = Value.ref a from rx)
    obtain ⟨mA, O, _⟩ := ins_get I.hok ea
    obtain ⟨od, J, _⟩ := O.look
    exact PySem.W.kia_one (PySem.W.kitx_own (cl.get _) cl.hd ha hn htk hm) I.kIn J e (fun z => nomatch z) h
end
end L2

namespace L2
open PySem PySem.Spec PyProof.Rows

/-! ### room -/
structure Room (k : Nat) (A : Around) : Prop where
  hd : A.handled = none
  dp : A.depth + 3 * k + 5 < recursionLimit
  un : A.units + 16 * k + 200 < cLine
theorem Room.mono {j k : Nat} {A : Around} (r : Room k A) (h : j ≤ k) : Room j A := ⟨r.hd, by have := r.dp; omega, by have := r.un; omega⟩
theorem Room.deeper {k : Nat} {A : Around} (r : Room (k + 1) A) (env : Env) : Room k (A.deeper env) :=
  ⟨r.hd, by have := r.dp; show A.depth + 1 + 3 * k + 5 < _; omega, by have := r.un; show A.units + 3 + 16 * k + 200 < _; omega⟩
theorem Room.in1 {k : Nat} {A : Around} (r : Room (k + 1) A) : Room k A.in1 :=
  ⟨r.hd, by have := r.dp; show A.depth + 3 * k + 5 < _; omega, by have := r.un; show A.units + 1 + 16 * k + 200 < _; omega⟩
theorem make_depth {A : Around} {C : Addr} {us : List Value} {kw : List (Str × Value)} : (A.under (.builtin "type.__call__" ⟨.ref C :: us, kw⟩)).depth = A.depth + 1 := by
  first | rfl | simp [Around.under, Code.weight, Code.isCreation, Code.isGuard, Code.isCaller, Code.frames, Code.isFrame, guardIds]
theorem make_units {A : Around} {C : Addr} {us : List Value} {kw : List (Str × Value)} : (A.under (.builtin "type.__call__" ⟨.ref C :: us, kw⟩)).units = A.units + 1 := by
  first | rfl | simp [Around.under, Code.cUnits, Code.frames, Code.isFrame]
theorem Room.make {k : Nat} {A : Around} (r : Room (k + 1) A) (C : Addr) (us : List Value) (kw : List (Str × Value)) : Room k (A.under (.builtin "type.__call__" ⟨.ref C :: us, kw⟩)) :=
  ⟨r.hd, by have := r.dp; rw [make_depth]; omega, by have := r.un; rw [make_units]; omega⟩
theorem Room.depth {k : Nat} {A : Around} (r : Room k A) : A.depth < recursionLimit := by have := r.dp; omega
theorem Room.units {k : Nat} {A : Around} (r : Room k A) : A.units + 64 < cLine := by have := r.un; omega
theorem Room.units0 {k : Nat} {A : Around} (r : Room k A) : A.units < cLine := by have := r.un; omega

/-! ### argument lists and displays -/
def tNil : TA := fun _ H Q => Q [] H
def tCons (ta : TE) (tr : TA) : TA := fun σ H Q => ta σ H fun x H1 => tr σ H1 fun xs H2 => Q (x :: xs) H2
section
variable {X : Cx} {e : Expr} {es : List Expr} {te : TE} {t : TA} {pos : Pos}
theorem pa_nil : PA X [] tNil := fun _ _ _ _ H Q I h => Calls.spliced_nil ⟨[], H, I, .nil, h⟩
theorem pa_cons (ha : PE X e te) (hr : PA X es t) (hs : starEach (e :: es) X.env = (false, eval e X.env) :: starEach es X.env := by rfl) : PA X (e :: es) (tCons te t) := by
  intro pos pins s σ H Q I h
  rw [hs]
  show wpAny _ _ (spliced ((false, eval e X.env) :: backTo pos (starEach es X.env))) _ _ s
  refine Calls.spliced_cons (thn (ha pins s σ H _ I h) fun u s1 ⟨x, H1, I1, r1, q1⟩ => ?_)
  exact thn (hr pos pins s1 σ H1 _ I1 q1) fun us s2 ⟨xs, H2, I2, r2, q2⟩ => ⟨x :: xs, H2, I2, .cons r1 r2, q2⟩

/-- a tuple, a list of written items -/
def tTup (t : TA) : TE := fun σ H Q => t σ H fun xs H1 => xs.length ≤ sizeLine ∧ ∀ p, H1 p = none → Q (.ref p) (upd H1 p (.tup xs))
def tLst (t : TA) : TE := fun σ H Q => t σ H fun xs H1 => xs.length ≤ sizeLine ∧ ∀ p, H1 p = none → Q (.ref p) (upd H1 p (.lst xs))
theorem pe_tup {x1} (h : PA X es t) : PE X (.Tuple es x1 pos) (tTup t) := by
  intro pins s σ H Q I hq
  refine wpAny_Tuple_spliced (thn (h pos pins s σ H _ I hq) fun us s1 ⟨xs, H1, I1, r, z, q⟩ => ⟨by rw [← r.length]; exact z, ?_⟩)
  have hf : H1 s1.heap.objs.size = none := I1.hok.fresh (Nat.le_refl _)
  refine ⟨.ref s1.heap.objs.size, upd H1 s1.heap.objs.size (.tup xs), I1.laid (t' := s1.toks) (fun b u e => Heap.get?_push_of_some _ e) (Nat.le_refl _) ?_, rfl, q _ hf⟩
  exact ⟨z, us, r, ⟨_, Heap.get?_push_size _ rfl, rfl, _, rfl⟩⟩
theorem pe_lst (h : PA X es t) : PE X (.List es pos) (tLst t) := by
  intro pins s σ H Q I hq
  refine wpAny_List_spliced (thn (h pos pins s σ H _ I hq) fun us s1 ⟨xs, H1, I1, r, z, q⟩ => ⟨by rw [← r.length]; exact z, ?_⟩)
  have hf : H1 s1.heap.objs.size = none := I1.hok.fresh (Nat.le_refl _)
  refine ⟨.ref s1.heap.objs.size, upd H1 s1.heap.objs.size (.lst xs), I1.laid (t' := s1.toks) (fun b u e => Heap.get?_push_of_some _ e) (Nat.le_refl _) ?_, rfl, q _ hf⟩
  exact ⟨z, us, 0, r, Heap.get?_push_size _ rfl⟩
end

/-! ### what a def promises -/
/-- a def's promise: the bound arguments in the parameters' order, the heap, the wanted end, the wanted exception -/
abbrev Sp := List V → Hp → VK → XK → Prop
/-- how an exception lies behind a call (file 08 gives it): the callers' frames, abstract heap and state ahead of the call, the wish, the exception, the state -/
abbrev CXT := List Env → Hp → Shared → XK → Value → Shared → Prop

/-- the state at a call -/
structure Env0 (P : Program) (w : World) (K : PySem.W.Frag) (mg : Str → Option Value) (base : Heap) (A : Around) (outer : List Env) (s : Shared) (H : Hp) : Prop where
  frames : A.frames = some outer
  mod : Mod K mg base
  bs : ∀ b o, base.get? b = some o → s.heap.get? b = some o ∧ H b = none
  bsz : base.objs.size ≤ s.heap.objs.size
  funs : s.heap.FunFrames base outer
  frf : ∀ b ∈ frs outer, H b = none
  hok : HOk P w H s.heap
  bare : AllBare s.gens
/-- a call's end -/
def CE (outer : List Env) (P : Program) (w : World) (H : Hp) (s : Shared) (Q : VK) (u : Value) (s' : Shared) : Prop :=
  ∃ v H', s'.os = s.os ∧ AllBare s'.gens ∧ Un (frs outer) [] H H' s.heap s'.heap ∧ HOk P w H' s'.heap ∧ RelV v u ∧ Q v H'
def CR (CX : CXT) (outer : List Env) (P : Program) (w : World) (H : Hp) (s : Shared) (Q : VK) (E : XK) (r : Result) (s' : Shared) : Prop :=
  match r with
  | .ok (.ret u) => CE outer P w H s Q u s'
  | .ok _ => False
  | .error e => CX outer H s E e s'
structure FnOk (P : Program) (w : World) (K : PySem.W.Frag) (mg : Str → Option Value) (base : Heap) (CX : CXT) (k : Nat) (f : Addr) (fd : FuncData) (ps : List Str) (sp : Sp) : Prop where
  len : ∀ vs H Q E, sp vs H Q E → vs.length = ps.length
  run : ∀ (A : Around) (outer : List Env) (s : Shared) (H : Hp) (args : Args) (us : List Value) (vs : List V) (Q : VK) (E : XK), Room k A → Env0 P w K mg base A outer s H → BindsTo s fd args (ps.zip us) → Vals vs us → sp vs H Q E →
    codeAny (model P w) A (.call (.ref f) args) (CR CX outer P w H s Q E) s
theorem FnOk.mono {P : Program} {w : World} {K : PySem.W.Frag} {mg : Str → Option Value} {base : Heap} {CX : CXT} {j k : Nat} {f : Addr} {fd : FuncData} {ps : List Str} {sp : Sp} (F : FnOk P w K mg base CX j f fd ps sp) (h : j ≤ k) :
    FnOk P w K mg base CX k f fd ps sp := ⟨F.len, fun A outer s H args us vs Q E hr => F.run A outer s H args us vs Q E (hr.mono h)⟩
/-- a weaker promise -/
theorem FnOk.imp {P : Program} {w : World} {K : PySem.W.Frag} {mg : Str → Option Value} {base : Heap} {CX : CXT} {k : Nat} {f : Addr} {fd : FuncData} {ps : List Str} {sp sp' : Sp} (F : FnOk P w K mg base CX k f fd ps sp)
    (h : ∀ vs H Q E, sp' vs H Q E → sp vs H Q E) : FnOk P w K mg base CX k f fd ps sp' :=
  ⟨fun vs H Q E q => F.len vs H Q E (h _ _ _ _ q), fun A outer s H args us vs Q E hr he hb hv hs => F.run A outer s H args us vs Q E hr he hb hv (h _ _ _ _ hs)⟩

theorem Env0.make {P : Program} {w : World} {K : PySem.W.Frag} {mg : Str → Option Value} {base : Heap} {A : Around} {outer : List Env} {s : Shared} {H : Hp} (e : Env0 P w K mg base A outer s H) (C : Addr) (us : List Value) (kw : List (Str × Value)) :
    Env0 P w K mg base (A.under (.builtin "type.__call__" ⟨.ref C :: us, kw⟩)) outer s H := ⟨by first | exact e.frames | (simpa [Around.under, Code.envs, Code.isFrame, pushEnvs] using e.frames), e.mod, e.bs, e.bsz, e.funs, e.frf, e.hok, e.bare⟩
theorem Env0.in1 {P : Program} {w : World} {K : PySem.W.Frag} {mg : Str → Option Value} {base : Heap} {A : Around} {outer : List Env} {s : Shared} {H : Hp} (e : Env0 P w K mg base A outer s H) :
    Env0 P w K mg base A.in1 outer s H := ⟨e.frames, e.mod, e.bs, e.bsz, e.funs, e.frf, e.hok, e.bare⟩

section
variable {X : Cx} {pins : List (Addr × Obj)} {σ : St} {H : Hp} {s s' : Shared}
/-- from a body: what a callee wants -/
theorem Inv.env0 (I : Inv X pins σ H s) : Env0 X.prog X.w X.K X.mg X.base X.A X.stack s H :=
  ⟨I.ok.frames, I.ok.mod, I.bs, Nat.le_trans I.ok.bsz I.sz, I.stack, I.stkFree, I.hok, I.bare⟩
/-- behind a call -/
theorem Inv.after {Q : VK} {u : Value} (I : Inv X pins σ H s) (h : CE X.stack X.prog X.w H s Q u s') : EP X pins σ Q u s' := by
  obtain ⟨v, H', os, bare, un, hok, r, q⟩ := h
  obtain ⟨hh, g, d, t, os'⟩ := s'
  obtain rfl : os' = s.os := os
  exact ⟨v, H', I.call (h' := hh) (g' := g) (d' := d) (t' := t) (ch := []) un hok bare (fun b z => absurd z (by simp)), r, q⟩
end

/-! ### calls -/
/-- f(..): the written arguments, then the defaults dvs; E: what is wanted of an exception -/
def tCall (sp : Sp) (dvs : List V) (E : XK) (t : TA) : TE := fun σ H Q => t σ H fun vs H1 => sp (vs ++ dvs) H1 Q E
/-- o.m(..) of an instance of the class at C -/
def tMeth (C : Addr) (m : Str) (sp : Sp) (dvs : List V) (E : XK) (ta : TE) (t : TA) : TE := fun σ H Q => ta σ H fun x H1 => ∃ a dx fs, x = .ref a ∧ H1 a = some (.ins C dx fs) ∧ fs.lookup m = none ∧
  t σ H1 fun vs H2 => sp (x :: (vs ++ dvs)) H2 Q E
/-- C(..): a new instance and its dict, then __init__ -/
def tMake (C : Addr) (sp : Sp) (dvs : List V) (E : XK) (t : TA) : TE := fun σ H Q => t σ H fun vs H1 => ∀ x dx, H1 x = none → H1 dx = none → dx ≠ x →
  sp (.ref x :: (vs ++ dvs)) (upd (upd H1 dx (.own x)) x (.ins C dx [])) (fun v H2 => v = .non ∧ Q (.ref x) H2) E

/-- how the parameters are bound: us the positional arguments, kw the keywords' values by name, ds the defaults that fill up -/
def Binds (K : PySem.W.Frag) (fd : FuncData) (ps : List Str) (ds : List Value) : Prop :=
  ∀ (s : Shared) (us : List Value), K.In s.heap → (us ++ ds).length = ps.length → BindsTo s fd ⟨us, []⟩ (ps.zip (us ++ ds))
/-- every parameter is given -/
theorem Binds.all {K : PySem.W.Frag} {fd : FuncData} {ps : List Str} (h : ∀ us : List Value, us.length = ps.length → bindArgs fd ⟨us, []⟩ = pure (ps.zip us)) : Binds K fd ps [] := fun s us _ hl => by
  rw [List.append_nil] at hl ⊢
  exact .of_eq (h us hl)

/-- an exception of a callee reaches what this body wants of exceptions -/
def Passes (CX : CXT) (X : Cx) (E : XK) : Prop := ∀ (pins : List (Addr × Obj)) (σ : St) (H : Hp) (s : Shared) (e : Value) (s' : Shared), Inv X pins σ H s → CX X.stack H s E e s' → X.xe e s'

section
variable {X : Cx} {CX : CXT} {k : Nat} {f C : Addr} {fd : FuncData} {ps : List Str} {sp : Sp} {dvs : List V} {ds : List Value} {E : XK} {x m : Str} {p pos apos : Pos} {e o : Expr} {es : List Expr} {ta : TE} {t : TA}

/-- the callee runs -/
theorem run_fn {pins : List (Addr × Obj)} {σ : St} {H : Hp} {s : Shared} {Q : VK} {us : List Value} {vs : List V} (F : FnOk X.prog X.w X.K X.mg X.base CX k f fd ps sp) (hr : Room k X.A) (hb : Binds X.K fd ps ds) (hd : Vals dvs ds) (hx : Passes CX X E)
    (I : Inv X pins σ H s) (r : Vals vs us) (h : sp (vs ++ dvs) H Q E) : wpAny (model X.prog X.w) X.A (call (.ref f) us) (EP X pins σ Q) X.xe s := by
  have r2 : Vals (vs ++ dvs) (us ++ ds) := r.append hd
  have hl : (us ++ ds).length = ps.length := by rw [← r2.length]; exact F.len _ _ _ _ h
  refine wpAny_call (codeAny_mono (F.run X.A X.stack s H ⟨us, []⟩ (us ++ ds) (vs ++ dvs) Q E hr I.env0 (hb s us I.kIn hl) r2 h) fun r s' hq => ?_)
  cases r with
  | error e => exact hx pins σ H s e s' I hq
  | ok fl =>
    cases fl with
    | ret u => exact I.after hq
    | next => exact False.elim hq
    | brk => exact False.elim hq
    | cont => exact False.elim hq

theorem pe_call (F : FnOk X.prog X.w X.K X.mg X.base CX k f fd ps sp) (hr : Room k X.A) (hg : Gl X x) (hm : X.mg x = some (.ref f)) (hk : PySem.W.keepIn X.K (.ref f) = true) (hb : Binds X.K fd ps ds) (hd : Vals dvs ds) (hx : Passes CX X E)
    (ha : PA X (e :: es) t) (hdb : (x == ("__debug__" : Str)) = false := by decide) (he : starEach (e :: es) X.env = (false, eval e X.env) :: starEach es X.env := by rfl) (hpl : (backTo pos (starEach es X.env)).any (·.1) = false := by rfl) :
    PE X (.Call (.Name x p) (e :: es) [] pos) (tCall sp dvs E t) := by
  intro pins s σ H Q I h
  refine wpAny_Call_Name_kw (ld_glob I hg hm ?_ hdb)
  refine PySem.W.callWith_K (h₀ := X.base) I.ok.mod.kin hk (thn (ha pos pins s σ H _ I h) fun us s1 ⟨vs, H1, I1, r, q⟩ => ⟨I1.kIn, ?_⟩) he hpl
  exact run_fn F hr hb hd hx I1 r q
theorem pe_call0 (F : FnOk X.prog X.w X.K X.mg X.base CX k f fd ps sp) (hr : Room k X.A) (hg : Gl X x) (hm : X.mg x = some (.ref f)) (hk : PySem.W.keepIn X.K (.ref f) = true) (hb : Binds X.K fd ps ds) (hd : Vals dvs ds) (hx : Passes CX X E)
    (hdb : (x == ("__debug__" : Str)) = false := by decide) : PE X (.Call (.Name x p) [] [] pos) (tCall sp dvs E tNil) := by
  intro pins s σ H Q I h
  refine wpAny_Call_Name_kw (ld_glob I hg hm ?_ hdb)
  exact PySem.W.callWith_K0 I.kIn hk (run_fn (us := []) F hr hb hd hx I .nil h)

/-- o.m(e, ..) -/
theorem pe_meth {pl : Sem Bool} (he : PE X o ta) (c : Cls X.K C) (hm : Meth X.K C m f) (F : FnOk X.prog X.w X.K X.mg X.base CX k f fd ps sp) (hr : Room k X.A) (hb : Binds X.K fd ps ds) (hd : Vals dvs ds) (hx : Passes CX X E) (ha : PA X (e :: es) t)
    (hst : starEach (e :: es) X.env = (false, eval e X.env) :: starEach es X.env := by rfl) (hpl : (backTo pos (starEach es X.env)).any (·.1) = false := by rfl)
    (ht : eval (.Call (.Attribute o m apos) (e :: es) [] pos) X.env = (do
      let ov ← eval o X.env
      standAt apos.atName
      let (f, first) ← holding [ov] (getMethod ov m pl)
      callWith pos f first (backTo pos (starEach (e :: es) X.env)) (backToKw pos (keywordEach [] X.env))) := by rfl) :
    PE X (.Call (.Attribute o m apos) (e :: es) [] pos) (tMeth C m sp dvs E ta t) := by
  intro pins s σ H Q I h
  refine PySem.W.methodCall_KW (pl := pl) (thn (he pins s σ H _ I h) fun u s1 ⟨x, H1, I1, rx, a, dx, fs, ex, ea, l, q⟩ => ?_) ht
  subst ex
  obtain rfl : u = Value.ref a := rx
  refine getmeth_ok I1 ea c hm l ?_
  refine PySem.W.callWith_K (first := [.ref a]) (h₀ := X.base) I.ok.mod.kin hm.kp (thn (ha pos pins s1 σ H1 _ I1 q) fun us s2 ⟨vs, H2, I2, r, q2⟩ => ⟨I2.kIn, ?_⟩) hst hpl
  exact run_fn (us := .ref a :: us) (vs := .ref a :: vs) F hr hb hd hx I2 (.cons rfl r) q2
/-- o.m() -/
theorem pe_meth0 {pl : Sem Bool} (he : PE X o ta) (c : Cls X.K C) (hm : Meth X.K C m f) (F : FnOk X.prog X.w X.K X.mg X.base CX k f fd ps sp) (hr : Room k X.A) (hb : Binds X.K fd ps ds) (hd : Vals dvs ds) (hx : Passes CX X E)
    (ht : eval (.Call (.Attribute o m apos) [] [] pos) X.env = (do
      let ov ← eval o X.env
      standAt apos.atName
      let (f, first) ← holding [ov] (getMethod ov m pl)
      callWith pos f first (backTo pos (starEach [] X.env)) (backToKw pos (keywordEach [] X.env))) := by rfl) :
    PE X (.Call (.Attribute o m apos) [] [] pos) (tMeth C m sp dvs E ta tNil) := by
  intro pins s σ H Q I h
  refine PySem.W.methodCall_KW (pl := pl) (thn (he pins s σ H _ I h) fun u s1 ⟨x, H1, I1, rx, a, dx, fs, ex, ea, l, q⟩ => ?_) ht
  subst ex
  obtain rfl : u = Value.ref a := rx
  refine getmeth_ok I1 ea c hm l ?_
  exact PySem.W.callWith_K0 (first := [.ref a]) I1.kIn hm.kp (run_fn (us := [.ref a]) (vs := [.ref a]) F hr hb hd hx I1 (.cons rfl .nil) q)

/-- what a class must have to be made -/
structure Mk (K : PySem.W.Frag) (C f : Addr) : Prop where
  makes : PySem.W.makesIn K C = true
  init : PySem.W.findIn K (.ref C) "__init__" = some (some (.ref f))
  fn : PySem.W.isFn K (.ref f) = true
  kp : PySem.W.keepIn K (.ref C) = true

theorem run_make {pins : List (Addr × Obj)} {σ : St} {H : Hp} {s : Shared} {Q : VK} {us : List Value} {vs : List V} (M : Mk X.K C f) (F : FnOk X.prog X.w X.K X.mg X.base CX k f fd ps sp) (hr : Room (k + 1) X.A) (hb : Binds X.K fd ps ds) (hd : Vals dvs ds)
    (hx : Passes CX X E) (I : Inv X pins σ H s) (r : Vals vs us)
    (h : ∀ x dx, H x = none → H dx = none → dx ≠ x → sp (.ref x :: (vs ++ dvs)) (upd (upd H dx (.own x)) x (.ins C dx [])) (fun v H2 => v = .non ∧ Q (.ref x) H2) E) :
    wpAny (model X.prog X.w) X.A (call (.ref C) us) (EP X pins σ Q) X.xe s := by
  have hq := h (s.heap.objs.size + 1) s.heap.objs.size (I.hok.fresh (Nat.le_succ _)) (I.hok.fresh (Nat.le_refl _)) (Nat.ne_of_lt (Nat.lt_succ_self _))
  have I2 := Inv.made (C := C) I
  have r2 : Vals (V.ref (s.heap.objs.size + 1) :: (vs ++ dvs)) (Value.ref (s.heap.objs.size + 1) :: (us ++ ds)) := .cons rfl (r.append hd)
  have hl : (Value.ref (s.heap.objs.size + 1) :: us ++ ds).length = ps.length := by
    have e := r2.length
    rw [F.len _ _ _ _ hq] at e
    exact e.symm
  refine wpAny_call (make_map (f := f) I.kIn M.makes M.init (beq_iff_eq.mp M.fn) (codeAny_mono (F.run _ X.stack _ _ ⟨Value.ref (s.heap.objs.size + 1) :: us, []⟩ (Value.ref (s.heap.objs.size + 1) :: (us ++ ds)) _ _ E (hr.make C us [])
    (I2.env0.make C us []) (hb _ (Value.ref (s.heap.objs.size + 1) :: us) I2.kIn hl) r2 hq) fun r s' hq' => ?_))
  cases r with
  | error e => exact hx pins σ _ _ e s' I2 hq'
  | ok fl =>
    cases fl with
    | ret u =>
      obtain ⟨v, H', I3, rv, ev, q3⟩ := I2.after hq'
      subst ev
      exact ⟨rv, ⟨V.ref (s.heap.objs.size + 1), H', I3, rfl, q3⟩⟩
    | next => exact False.elim hq'
    | brk => exact False.elim hq'
    | cont => exact False.elim hq'
theorem pe_make (M : Mk X.K C f) (F : FnOk X.prog X.w X.K X.mg X.base CX k f fd ps sp) (hr : Room (k + 1) X.A) (hg : Gl X x) (hm : X.mg x = some (.ref C)) (hb : Binds X.K fd ps ds) (hd : Vals dvs ds) (hx : Passes CX X E)
    (ha : PA X (e :: es) t) (hdb : (x == ("__debug__" : Str)) = false := by decide) (he : starEach (e :: es) X.env = (false, eval e X.env) :: starEach es X.env := by rfl) (hpl : (backTo pos (starEach es X.env)).any (·.1) = false := by rfl) :
    PE X (.Call (.Name x p) (e :: es) [] pos) (tMake C sp dvs E t) := by
  intro pins s σ H Q I h
  refine wpAny_Call_Name_kw (ld_glob I hg hm ?_ hdb)
  refine PySem.W.callWith_K (h₀ := X.base) I.ok.mod.kin M.kp (thn (ha pos pins s σ H _ I h) fun us s1 ⟨vs, H1, I1, r, q⟩ => ⟨I1.kIn, ?_⟩) he hpl
  exact run_make M F hr hb hd hx I1 r q
theorem pe_make0 (M : Mk X.K C f) (F : FnOk X.prog X.w X.K X.mg X.base CX k f fd ps sp) (hr : Room (k + 1) X.A) (hg : Gl X x) (hm : X.mg x = some (.ref C)) (hb : Binds X.K fd ps ds) (hd : Vals dvs ds) (hx : Passes CX X E)
    (hdb : (x == ("__debug__" : Str)) = false := by decide) : PE X (.Call (.Name x p) [] [] pos) (tMake C sp dvs E tNil) := by
  intro pins s σ H Q I h
  refine wpAny_Call_Name_kw (ld_glob I hg hm ?_ hdb)
  exact PySem.W.callWith_K0 I.kIn M.kp (run_make (us := []) M F hr hb hd hx I .nil h)
end

/-! ### keywords -/
/-- the values of the keywords, from the left -/
def PK (X : Cx) (kws : List Keyword) (t : TA) : Prop :=
  ∀ (pos : Pos) (pins : List (Addr × Obj)) (s : Shared) (σ : St) (H : Hp) (Q : List V → Hp → Prop), Inv X pins σ H s → t σ H Q → wpAny (model X.prog X.w) X.A (evalAll ((backToKw pos (keywordEach kws X.env)).map (·.2))) (AP X pins σ Q) X.xe s
section
variable {X : Cx} {CX : CXT} {k : Nat} {f C : Addr} {fd : FuncData} {ps ks : List Str} {sp : Sp} {E : XK} {x m : Str} {p pos apos kpos : Pos} {e o : Expr} {es : List Expr} {kws : List Keyword} {te ta : TE} {t tk : TA} {nm : Option Str}
theorem pk_nil : PK X [] tNil := fun _ _ _ _ H Q I h => wpAny_evalAll_nil ⟨[], H, I, .nil, h⟩
theorem pk_cons (ha : PE X e te) (hr : PK X kws t) : PK X (⟨nm, e, kpos⟩ :: kws) (tCons te t) := by
  intro pos pins s σ H Q I h
  show wpAny _ _ (evalAll ((do let v ← eval e X.env; standAt pos; pure v) :: (backToKw pos (keywordEach kws X.env)).map (·.2))) _ _ s
  refine wpAny_evalAll_cons (wpAny_bind (thn (ha pins s σ H _ I h) fun u s1 ⟨x, H1, I1, r1, q1⟩ => wpAny_bind (wpAny_standAt (wpAny_pure ?_))))
  exact thn (hr pos pins s1 σ H1 _ I1 q1) fun us s2 ⟨xs, H2, I2, r2, q2⟩ => ⟨x :: xs, H2, I2, .cons r1 r2, q2⟩

/-- how a call with keywords binds: g puts the positional values us and the keywords' values ws (names ks) in the parameters' order, defaults among them -/
structure KBinds (K : PySem.W.Frag) (fd : FuncData) (ps ks : List Str) (g : List Value → List Value → List Value) (gV : List V → List V → List V) : Prop where
  to : ∀ (s : Shared) (us ws : List Value), K.In s.heap → (g us ws).length = ps.length → BindsTo s fd ⟨us, ks.zip ws⟩ (ps.zip (g us ws))
  rel : ∀ {vs : List V} {us : List Value} {zs : List V} {ws : List Value}, Vals vs us → Vals zs ws → Vals (gV vs zs) (g us ws)
def tCallK (sp : Sp) (gV : List V → List V → List V) (E : XK) (t tk : TA) : TE := fun σ H Q => t σ H fun vs H1 => tk σ H1 fun zs H2 => sp (gV vs zs) H2 Q E
variable {g : List Value → List Value → List Value} {gV : List V → List V → List V}
theorem run_fnk {pins : List (Addr × Obj)} {σ : St} {H : Hp} {s : Shared} {Q : VK} {us ws : List Value} {vs zs : List V} (F : FnOk X.prog X.w X.K X.mg X.base CX k f fd ps sp) (hr : Room k X.A) (hb : KBinds X.K fd ps ks g gV) (hx : Passes CX X E)
    (I : Inv X pins σ H s) (r : Vals vs us) (rz : Vals zs ws) (h : sp (gV vs zs) H Q E) : wpAny (model X.prog X.w) X.A (call (.ref f) us (ks.zip ws)) (EP X pins σ Q) X.xe s := by
  have r2 := hb.rel r rz
  have hl : (g us ws).length = ps.length := by rw [← r2.length]; exact F.len _ _ _ _ h
  refine wpAny_call (codeAny_mono (F.run X.A X.stack s H ⟨us, ks.zip ws⟩ (g us ws) (gV vs zs) Q E hr I.env0 (hb.to s us ws I.kIn hl) r2 h) fun r s' hq => ?_)
  cases r with
  | error e => exact hx pins σ H s e s' I hq
  | ok fl =>
    cases fl with
    | ret u => exact I.after hq
    | next => exact False.elim hq
    | brk => exact False.elim hq
    | cont => exact False.elim hq
/-- f(e, .., k = v, ..) -/
theorem pe_callK (F : FnOk X.prog X.w X.K X.mg X.base CX k f fd ps sp) (hr : Room k X.A) (hg : Gl X x) (hm : X.mg x = some (.ref f)) (hk : PySem.W.keepIn X.K (.ref f) = true) (hb : KBinds X.K fd ps ks g gV) (hx : Passes CX X E)
    (ha : PA X (e :: es) t) (hkw : PK X kws tk) (hall : (backToKw pos (keywordEach kws X.env)).all (·.1.isSome) = true := by rfl) (hks : (backToKw pos (keywordEach kws X.env)).filterMap (·.1) = ks := by rfl)
    (hdb : (x == ("__debug__" : Str)) = false := by decide) (he : starEach (e :: es) X.env = (false, eval e X.env) :: starEach es X.env := by rfl)
    (hpl : ((backTo pos (starEach (e :: es) X.env)).any (·.1) || (backToKw pos (keywordEach kws X.env)).any (·.1.isNone)) = false := by rfl) :
    PE X (.Call (.Name x p) (e :: es) kws pos) (tCallK sp gV E t tk) := by
  intro pins s σ H Q I h
  refine wpAny_Call_Name_kw (ld_glob I hg hm ?_ hdb)
  refine PySem.W.callWith_KW (h₀ := X.base) I.ok.mod.kin hk hall (thn (ha pos pins s σ H _ I h) fun us s1 ⟨vs, H1, I1, r, q⟩ => ?_) hpl he
  refine thn (hkw pos pins s1 σ H1 _ I1 q) fun ws s2 ⟨zs, H2, I2, rz, q2⟩ => ⟨I2.kIn, ?_⟩
  rw [hks]
  exact run_fnk F hr hb hx I2 r rz q2
end

/-! ### a def's body keeps its promise -/
/-- names: the parameters first -/
structure FnScope (N P : List Str) (sc : Scope) : Prop where
  kind : sc.kind = .function
  co : sc.isCoroutine = false
  gen : sc.isGenerator = false
  nd : N.Nodup
  pre : N.take P.length = P
  par : ∀ x ∈ P, sc.names.lookup x = some .local ∨ sc.names.lookup x = some .cell
  nofree : ∀ y ∈ sc.names, y.2 ≠ .free

theorem bindL_out {kindOf : Str → Option NameKind} {x : Str} : ∀ {binds : List (Str × Value)} {m : Str → Option Value}, (∀ v, (x, v) ∉ binds) → bindL kindOf binds m x = m x
  | [], _, _ => rfl
  | (n, v) :: r, m, h => by
    unfold bindL
    rw [bindL_out fun w hw => h w (List.mem_cons_of_mem _ hw)]
    split
    · have : x ≠ n := by rintro rfl; exact h v List.mem_cons_self
      simp [this]
    · rfl
theorem bindC_out {kindOf : Str → Option NameKind} {x : Str} : ∀ {binds : List (Str × Value)} {m : Str → Option Value}, (∀ v, (x, v) ∉ binds) → bindC kindOf binds m x = m x
  | [], _, _ => rfl
  | (n, v) :: r, m, h => by
    unfold bindC
    rw [bindC_out fun w hw => h w (List.mem_cons_of_mem _ hw)]
    split
    · rfl
    · have : x ≠ n := by rintro rfl; exact h v List.mem_cons_self
      simp [this]
theorem bindL_get {kindOf : Str → Option NameKind} {x : Str} {v : Value} : ∀ {P : List Str} {vs : List Value} {i : Nat} {m : Str → Option Value}, P.Nodup → P[i]? = some x → vs[i]? = some v → kindOf x = some .local →
    bindL kindOf (P.zip vs) m x = some v
  | [], _, _, _, _, h, _, _ => by simp at h
  | _ :: _, [], _, _, _, _, h, _ => by simp at h
  | p :: P, w :: vs, 0, m, nd, h1, h2, hk => by
    simp at h1 h2; subst h1; subst h2
    show bindL kindOf ((p, w) :: P.zip vs) m p = _
    unfold bindL
    rw [bindL_out fun v hv => (List.nodup_cons.mp nd).1 (List.of_mem_zip hv).1, if_pos hk]
    simp
  | p :: P, w :: vs, i + 1, m, nd, h1, h2, hk => by
    show bindL kindOf ((p, w) :: P.zip vs) m x = _
    unfold bindL
    exact bindL_get (i := i) (List.nodup_cons.mp nd).2 (by simpa using h1) (by simpa using h2) hk
theorem bindC_get {kindOf : Str → Option NameKind} {x : Str} {v : Value} : ∀ {P : List Str} {vs : List Value} {i : Nat} {m : Str → Option Value}, P.Nodup → P[i]? = some x → vs[i]? = some v → kindOf x ≠ some .local →
    bindC kindOf (P.zip vs) m x = some v
  | [], _, _, _, _, h, _, _ => by simp at h
  | _ :: _, [], _, _, _, _, h, _ => by simp at h
  | p :: P, w :: vs, 0, m, nd, h1, h2, hk => by
    simp at h1 h2; subst h1; subst h2
    show bindC kindOf ((p, w) :: P.zip vs) m p = _
    unfold bindC
    rw [bindC_out fun v hv => (List.nodup_cons.mp nd).1 (List.of_mem_zip hv).1, if_neg hk]
    simp
  | p :: P, w :: vs, i + 1, m, nd, h1, h2, hk => by
    show bindC kindOf ((p, w) :: P.zip vs) m x = _
    unfold bindC
    exact bindC_get (i := i) (List.nodup_cons.mp nd).2 (by simpa using h1) (by simpa using h2) hk

/-- the names' values at the entry -/
def start (N : List Str) (vs : List V) : St := vs.map some ++ List.replicate (N.length - vs.length) none

/-- the context of a def's body, at its entry; an exception leaves the frame, then lies as CX says -/
def cxOf (CX : CXT) (P : Program) (w : World) (K : PySem.W.Frag) (mg : Str → Option Value) (base : Heap) (N : List Str) (qual : Str) (scope : Scope) (f : Addr) (cd : Value) (A : Around) (outer : List Env) (s : Shared) (H : Hp) (E : XK) : Cx where
  prog := P
  w := w
  K := K
  mg := mg
  base := base
  A := A.deeper (envOfC qual scope s.heap.objs.size f cd)
  N := N
  s₀ := s
  H₀ := H
  env := envOfC qual scope s.heap.objs.size f cd
  outer := outer
  stack := envOfC qual scope s.heap.objs.size f cd :: outer
  ex := []
  calm := true
  fn := fun _ => true
  pn := []
  xe := fun e s' => wpAny (model P w) (A.deeper (envOfC qual scope s.heap.objs.size f cd)) (leaving (envOfC qual scope s.heap.objs.size f cd) e) (fun _ s'' => CX outer H s E e s'') (fun e' s'' => CX outer H s E e' s'') s'

theorem cell_has {sc : Scope} {n : Nat} {x : Str} (h : sc.names.lookup x = some .cell) : ∃ c, (cellsFrom n sc.names []).lookup x = some c := by
  have q := PySem.W.cellsFrom_some sc.names n [] (.inl h)
  exact Option.isSome_iff_exists.mp q

theorem inv_start {CX : CXT} {P : Program} {w : World} {K : PySem.W.Frag} {mg : Str → Option Value} {base : Heap} {N ps : List Str} {qual : Str} {scope : Scope} {f : Addr} {cd : Value} {A : Around} {outer : List Env} {s s1 : Shared} {H : Hp} {E : XK} {us : List Value} {vs : List V}
    (S : FnScope N ps scope) (hd : A.handled = none) (e0 : Env0 P w K mg base A outer s H) (hl : vs.length = ps.length) (r : Vals vs us)
    (x : InCallC s s.heap.objs.size (bindL (envOfC qual scope s.heap.objs.size f cd).kindOf (ps.zip us) fun _ => none) (cellsFrom (s.heap.objs.size + 1) scope.names []) (bindC (envOfC qual scope s.heap.objs.size f cd).kindOf (ps.zip us) fun _ => none) s1) :
    Inv (cxOf CX P w K mg base N qual scope f cd A outer s H E) [] (start N vs) H s1 := by
  have hpl : ps.length ≤ N.length := by have := congrArg List.length S.pre; rw [List.length_take] at this; omega
  obtain ⟨h1, tk, rfl, hk⟩ := x.done
  have noA : ∀ b : Addr, b ∉ (cxOf CX P w K mg base N qual scope f cd A outer s H E).ex := fun b z => absurd (show b ∈ ([] : List Addr) from z) (by simp)
  refine ⟨⟨e0.mod, S.kind, rfl, rfl, Nat.le_refl _, fun y z c h1 h2 => ?_, fun y hy => ?_, fun y c _ h => ?_, fun _ => hd, Around.frames_deeper e0.frames, .inr ⟨rfl, rfl⟩, fun b z => absurd z (noA b), e0.bs, e0.bsz, fun b _ _ => noA b, fun b z => absurd z (noA b), e0.funs, e0.frf⟩,
    rfl, e0.bare, Un.kept hk, ⟨_, x.toInCall.ns, fun i y v h1 h2 h3 => ?_⟩, fun y c h => ⟨_, x.cell y c h⟩, e0.hok.fresh (Nat.le_refl _), fun y c h => ?_, fun p hp => absurd (show p ∈ ([] : List (Addr × Obj)) from hp) (by simp), e0.hok.kept hk, ?_⟩
  · exact name_of_addr x.apart (PySem.mem_of_lookup h1) (PySem.mem_of_lookup h2)
  · have hy : scope.names.lookup y = some .cell ∨ scope.names.lookup y = some .free := hy
    rcases hy with hy | hy
    · exact cell_has hy
    · exact absurd rfl (S.nofree _ (PySem.mem_of_lookup hy))
  · exact Nat.le_of_lt (x.above y c (PySem.mem_of_lookup h))
  · have hi : i < vs.length := by
      unfold start at h2
      by_cases hi : i < vs.length
      · exact hi
      · rw [List.getElem?_append_right (by simpa using hi)] at h2
        rw [List.getElem?_replicate] at h2
        split at h2 <;> cases h2
    have ha : vs[i]? = some v := by
      unfold start at h2
      rw [List.getElem?_append_left (by simpa using hi), List.getElem?_map] at h2
      cases e : vs[i]? with
      | none => rw [e] at h2; cases h2
      | some a => rw [e] at h2; cases h2; rfl
    obtain ⟨u, hu, rv⟩ := r.get ha
    have hp : ps[i]? = some y := by
      rw [← S.pre, List.getElem?_take_of_lt (by omega)]; exact h1
    have ndP : ps.Nodup := by rw [← S.pre]; exact S.nd.sublist (List.take_sublist _ _)
    refine ⟨u, rv, ?_⟩
    rcases S.par y (List.mem_of_getElem? hp) with k | k
    · exact .inl ⟨k, bindL_get ndP hp hu k⟩
    · obtain ⟨c, e⟩ := cell_has (n := s.heap.objs.size + 1) k
      refine .inr ⟨.inl k, c, e, ?_⟩
      have q := x.cell y c e
      rw [bindC_get ndP hp hu (by show scope.names.lookup y ≠ _; rw [k]; decide)] at q
      exact q
  · exact e0.hok.fresh (Nat.le_of_lt (x.above y c (PySem.mem_of_lookup h)))
  · unfold start
    show _ = N.length
    rw [List.length_append, List.length_map, List.length_replicate]
    omega

/-- THE RULE: a def (or a method) of the text, by its body. The body's reading t is chosen for each entry; it is run at the parameters' values -/
theorem fn_of {CX : CXT} {P : Program} {w : World} {K : PySem.W.Frag} {mg : Str → Option Value} {base : Heap} {k : Nat} {f : Addr} {name qual : Str} {params : Arguments} {body : List Stmt} {scope : Scope} {dV kV doc pm cdv ct oc : Value} {an od : Option Addr}
    {osl : Array (Option Value)} {N ps : List Str} {sp : Sp} (lk : K.lookup f = some ⟨oc, od, .func (PySem.W.fnOf name qual params body scope dV kV doc pm an cdv ct), osl⟩) (hcd : PySem.W.codeIn K cdv qual = true) (S : FnScope N ps scope)
    (len : ∀ vs H Q E, sp vs H Q E → vs.length = ps.length)
    (hbody : ∀ (A : Around) (outer : List Env) (s : Shared) (H : Hp) (vs : List V) (Q : VK) (E : XK), Room k (A.deeper (envOfC qual scope s.heap.objs.size f cdv)) → sp vs H Q E →
      ∃ t, PSs (cxOf CX P w K mg base N qual scope f cdv A outer s H E) body t ∧ t { nx := fun _ H' => Q .non H', rt := Q } (start N vs) H) :
    FnOk P w K mg base CX (k + 1) f (PySem.W.fnOf name qual params body scope dV kV doc pm an cdv ct) ps sp := by
  refine ⟨len, fun A outer s H args us vs Q E hr e0 hb r hsp => ?_⟩
  have hl := len _ _ _ _ hsp
  have KX : K.In s.heap := e0.mod.kin.keeps fun b o e => (e0.bs b o e).1
  have lim : s.heap.NoLimit := e0.mod.nolimit.keeps fun b o e => (e0.bs b o e).1
  have hkind : ∀ y ∈ ps.zip us, scope.names.lookup y.1 = some .local ∨ (scope.names.lookup y.1 = some .cell ∧ ((cellsFrom (s.heap.objs.size + 1) scope.names []).lookup y.1).isSome = true) := fun ⟨n, v⟩ hy => by
    rcases S.par n (List.of_mem_zip hy).1 with q | q
    · exact .inl q
    · exact .inr ⟨q, PySem.W.cellsFrom_some _ _ _ (.inl q)⟩
  refine codeAny_call_function hr.depth (KX _ _ lk) rfl S.co S.gen rfl (PySem.W.codeRec_of KX hcd) (hb _ _ _ _ ?_)
  refine wpAny_newFunctionEnv_cells S.kind hkind fun env he s1 x => ?_
  subst he
  refine ⟨lim.keeps x.toInCall.keep, codeAny_func ?_⟩
  obtain ⟨t, ht, hq⟩ := hbody A outer s H vs Q E (hr.deeper _) hsp
  have I : Inv (cxOf CX P w K mg base N qual scope f cdv A outer s H E) [] (start N vs) H s1 := inv_start S hr.hd e0 hl r x
  refine wpAny_mono (ht [] s1 (start N vs) H _ I hq) (fun fl s' hs => ?_) fun e s' hs => hs
  have fin : ∀ {σ' : St} {H' : Hp} {v : V} {u : Value}, Inv (cxOf CX P w K mg base N qual scope f cdv A outer s H E) [] σ' H' s' → RelV v u → Q v H' → CE outer P w H s Q u s' :=
    fun {σ' H' v u} J rv q => ⟨v, H', J.os, J.bare, J.base, J.hok, rv, q⟩
  cases fl with
  | ret u =>
    obtain ⟨v, σ', H', J, rv, q⟩ := hs
    exact fin J rv q
  | next =>
    obtain ⟨σ', H', J, q⟩ := hs
    exact fin (v := V.non) (u := Value.none) J rfl q
  | brk =>
    obtain ⟨_, _, _, q⟩ := hs
    exact False.elim q
  | cont =>
    obtain ⟨_, _, _, q⟩ := hs
    exact False.elim q
end L2

namespace L2
open PySem PySem.Spec PyProof.Rows
section
variable {X : Cx} {x : Str} {p pos : Pos} {e : Expr} {es : List Expr} {t : TA} {id T : String} {r : List V → Hp → VK → Prop}

def tCB (r : List V → Hp → VK → Prop) (t : TA) : TE := fun σ H Q => t σ H fun vs H1 => r vs H1 Q
/-- f(e, ..), f a built-in function -/
theorem pe_callB (hc : CallR X (.builtin id) r) (hg : Gl X x) (hm : X.mg x = none) (hv : bootBuiltins x = some (.builtin id)) (ha : PA X (e :: es) t) (hn : x ≠ "__name__" := by decide) (hdb : (x == ("__debug__" : Str)) = false := by decide)
    (he : starEach (e :: es) X.env = (false, eval e X.env) :: starEach es X.env := by rfl) (hpl : (backTo pos (starEach es X.env)).any (·.1) = false := by rfl) : PE X (.Call (.Name x p) (e :: es) [] pos) (tCB r t) := by
  intro pins s σ H Q I h
  refine wpAny_Call_Name_kw (ld_blt I hg hm hv ?_ hn hdb)
  exact PyProof.Rows.callWith_builtin1 (thn (ha pos pins s σ H _ I h) fun us s1 ⟨vs, H1, I1, r1, q1⟩ => hc pins s1 σ H1 vs us Q I1 r1 q1) he hpl
/-- T(e, ..), T a built-in type -/
theorem pe_callTy (hc : CallR X (.type T) r) (hg : Gl X x) (hm : X.mg x = none) (hv : bootBuiltins x = some (.type T)) (ha : PA X (e :: es) t) (hn : x ≠ "__name__" := by decide) (hdb : (x == ("__debug__" : Str)) = false := by decide)
    (he : starEach (e :: es) X.env = (false, eval e X.env) :: starEach es X.env := by rfl) (hpl : (backTo pos (starEach es X.env)).any (·.1) = false := by rfl) : PE X (.Call (.Name x p) (e :: es) [] pos) (tCB r t) := by
  intro pins s σ H Q I h
  refine wpAny_Call_Name_kw (ld_blt I hg hm hv ?_ hn hdb)
  exact PyProof.Rows.callWith_type1 (thn (ha pos pins s σ H _ I h) fun us s1 ⟨vs, H1, I1, r1, q1⟩ => hc pins s1 σ H1 vs us Q I1 r1 q1) he hpl
/-- T() -/
theorem pe_callTy0 (hc : CallR X (.type T) r) (hg : Gl X x) (hm : X.mg x = none) (hv : bootBuiltins x = some (.type T)) (hn : x ≠ "__name__" := by decide) (hdb : (x == ("__debug__" : Str)) = false := by decide) :
    PE X (.Call (.Name x p) [] [] pos) (tCB r tNil) := by
  intro pins s σ H Q I h
  refine wpAny_Call_Name_kw (ld_blt I hg hm hv ?_ hn hdb)
  exact PyProof.Rows.callWith_type0 (hc pins s σ H [] [] Q I .nil h)
end
end L2

namespace HT
open PySem PyProof.Rows

/-- t < u of tuples of ints -/
def lexLt : List Int → List Int → Bool
  | [], [] => false
  | [], _ :: _ => true
  | _ :: _, [] => false
  | x :: xs, y :: ys => if x = y then lexLt xs ys else decide (x < y)
theorem lexLt_cons (x y : Int) (xs ys : List Int) : lexLt (x :: xs) (y :: ys) = if x = y then lexLt xs ys else decide (x < y) := rfl
theorem lexLt_nil_nil : lexLt [] [] = false := rfl
theorem lexLt_nil_cons (y : Int) (ys : List Int) : lexLt [] (y :: ys) = true := rfl
theorem lexLt_cons_nil (x : Int) (xs : List Int) : lexLt (x :: xs) [] = false := rfl

theorem eqAt_int (A : Around) (s : Shared) (a : Int) (t : Tok) (c : Int) (u : Tok) : ∃ e, SeqAt.EqAt A s (.int a t) (.int c u) e ∧ (e = true ↔ a = c) :=
  ⟨(a == c), SeqAt.EqAt.int_int a t c u, by simp⟩
theorem rcLt_int (A : Around) (s : Shared) (a : Int) (t : Tok) (c : Int) (u : Tok) (prog : Program) (w : World) (E : Value → Shared → Prop) (Q : Value → Shared → Prop) (h : Q (.bool (decide (a < c))) s) :
    wpAny (model prog w) A (richCompare .Lt (.int a t) (.int c u)) Q E s :=
  (PyProof.Rows.lt_int h : wpAny (model prog w) A (compareOp .Lt (.int a t) (.int c u)) Q E s)

section
open PySem.SeqAt
open PySem.AutoSeq1 (wpAny_loadPart')
open PySem.MeetsSeq PySem.MeetsSeq2 PySem.MeetsSeq3

theorem tuple_lt_ints (l b : Addr) (items items2 : Array Value) (n n2 : Nat) (dd dd2 : Option Addr) (sl sl2 : Array (Option Value)) (ns ms : List Int) (hi : IntsAre items.toList ns) (hj : IntsAre items2.toList ms) :
    Meets (Builtin.«tuple.__lt__» ⟨[.ref l, .ref b], []⟩)
      (fun _ R s => s.heap.get? l = some { cls := .type "tuple", dict := dd, data := .seq items n, slots := sl } ∧ s.heap.get? b = some { cls := .type "tuple", dict := dd2, data := .seq items2 n2, slots := sl2 } ∧
        R (.ok (.ret (.bool (lexLt ns ms)))) s) :=
  .of_wp fun prog w A R s h => by
    obtain ⟨hp, g, d, tk, os⟩ := s; obtain ⟨hl, hb, h⟩ := h
    have f2 := AutoSeq1.sub_tuple_tuple
    have z1 : items.size = ns.length := by rw [← hi.length]; simp
    have z2 : items2.size = ms.length := by rw [← hj.length]; simp
    wp_walk using wpAny_loadPart' hl, wpAny_loadPart' hb, wpAny_forIn_list _ (fun rest b s' => b.1 = none ∧ s' = ⟨hp, g, d, tk, os⟩ ∧ ∃ (vs ws : List Value) (ns' ms' : List Int), rest = vs.zip ws ∧
      IntsAre vs ns' ∧ IntsAre ws ms' ∧ ns'.length + items2.size = ms'.length + items.size ∧ R (.ok (.ret (.bool (lexLt ns' ms')))) ⟨hp, g, d, tk, os⟩) _
    case turn =>
      rintro ⟨y, x⟩ rest b s' ⟨hb', rfl, vs, ws, ns', ms', hz, hvi, hwi, hlen, hR⟩
      cases hvi with
      | nil => rw [List.zip_nil_left] at hz; cases hz
      | cons a t hvi' =>
        cases hwi with
        | nil => rw [List.zip_nil_right] at hz; cases hz
        | cons c u hwi' =>
          rw [List.zip_cons_cons] at hz
          injection hz with hyx hrest
          injection hyx with hy hx
          subst hy hx
          rw [lexLt_cons] at hR
          simp only [List.length_cons] at hlen
          obtain ⟨e, he, hiff⟩ := eqAt_int A.in1 ⟨hp, g, d, tk, os⟩ a t c u
          refine wpAny_bind (he prog w _ _ ?_)
          cases e with
          | true =>
            rw [if_pos (hiff.mp rfl)] at hR
            wp_walk
            exact ⟨rfl, rfl, _, _, _, _, hrest, hvi', hwi', by omega, hR⟩
          | false =>
            rw [if_neg (fun q => absurd (hiff.mpr q) Bool.false_ne_true)] at hR
            have hri := rcLt_int A.in1 ⟨hp, g, d, tk, os⟩ a t c u prog w
            wp_walk using hri
            exact ⟨_, rfl, by simpa using hR⟩
    case fin =>
      rintro ⟨b1, b2⟩ s' ⟨hb', rfl, vs, ws, ns', ms', hz, hvi, hwi, hlen, hR⟩
      simp only at hb'
      subst hb'
      have hv : lexLt ns' ms' = decide (items.size < items2.size) := by
        cases hvi with
        | nil =>
          cases hwi with
          | nil =>
            simp only [List.length_nil] at hlen
            rw [lexLt_nil_nil]
            exact (decide_eq_false (by omega)).symm
          | cons c u hw =>
            simp only [List.length_nil, List.length_cons] at hlen
            rw [lexLt_nil_cons]
            exact (decide_eq_true (by omega)).symm
        | cons a t hv =>
          cases hwi with
          | nil =>
            simp only [List.length_nil, List.length_cons] at hlen
            rw [lexLt_cons_nil]
            exact (decide_eq_false (by omega)).symm
          | cons c u hw =>
            rw [List.zip_cons_cons] at hz
            cases hz
      rw [hv] at hR
      wp_walk
      exact ⟨_, rfl, by simpa [Builtin.Tuple.tupleCompareSizes] using hR⟩
    case h =>
      exact ⟨rfl, rfl, items.toList, items2.toList, ns, ms, rfl, hi, hj, by omega, h⟩
end

section
variable {prog : Program} {w : World} {A : Around} {E : Value → Shared → Prop} {s : Shared}

theorem lt_tupInts {l b : Addr} {items items2 : Array Value} {ns ms : List Int} {Q : Value → Shared → Prop} (hl : IsTup s.heap l items) (hb : IsTup s.heap b items2) (hi : IntsAre items.toList ns) (hj : IntsAre items2.toList ms)
    (hu : A.units < cLine) (h : Q (.bool (lexLt ns ms)) s) : wpAny (model prog w) A (compareOp .Lt (.ref l) (.ref b)) Q E s := by
  obtain ⟨⟨cls, dd, data, sl⟩, ho, hc, n, hd⟩ := id hl
  obtain ⟨⟨cls2, dd2, data2, sl2⟩, ho2, hc2, n2, hd2⟩ := id hb
  simp only at hc hd hc2 hd2
  subst hc hd hc2 hd2
  exact richCompare_meets_room (op := .Lt) ⟨_, ho, rfl⟩ ⟨_, ho2, rfl⟩ PySem.F.slot_tuple_lt PySem.F.entry_tuple_lt (PySem.F.args_tuple_lt_2 _ _) (tuple_lt_ints l b items items2 n n2 dd dd2 sl sl2 ns ms hi hj)
    ⟨ho, ho2, show Value.bool (lexLt ns ms) ≠ Value.notImplemented ∧ Q (.bool (lexLt ns ms)) s from ⟨(fun x => nomatch x), h⟩⟩ hu

/-- t + u, t not empty -/
theorem cat_tup {t b : Addr} {vs ws : List Value} {Q : Value → Shared → Prop} (ht : IsTup s.heap t vs.toArray) (hb : IsTup s.heap b ws.toArray) (hv : vs ≠ [])
    (h1 : ws = [] → Q (.ref t) s) (h2 : ws ≠ [] → Q (.ref s.heap.objs.size) { s with heap := s.heap.push { cls := .type "tuple", data := .seq (vs ++ ws).toArray } })
    (hsz : vs.length + ws.length ≤ sizeLine) : wpAny (model prog w) A (binaryOp .Add (.ref t) (.ref b)) Q E s := by
  obtain ⟨⟨cls, dd, data, sl⟩, ho, hc, n, hd⟩ := id ht
  obtain ⟨⟨cls2, dd2, data2, sl2⟩, ho2, hc2, n2, hd2⟩ := id hb
  simp only at hc hd hc2 hd2
  subst hc hd hc2 hd2
  have e : vs.toArray ++ ws.toArray = (vs ++ ws).toArray := by simp
  by_cases hw : ws = []
  · exact concat_meets ⟨_, ho, rfl⟩ ⟨_, ho2, rfl⟩ noFill_tuple_add seq_tuple_add PySem.F.slot_tuple_add PySem.F.entry_tuple_add (PySem.F.args_tuple_add_2 _ _)
      (tuple_addW1 t b vs.toArray ws.toArray n n2 dd dd2 sl sl2 (by simpa using hv) (by simp [hw])) ⟨ho, ho2, h1 hw⟩
  · refine concat_meets ⟨_, ho, rfl⟩ ⟨_, ho2, rfl⟩ noFill_tuple_add seq_tuple_add PySem.F.slot_tuple_add PySem.F.entry_tuple_add (PySem.F.args_tuple_add_2 _ _)
      (tuple_addW2 t b vs.toArray ws.toArray n n2 dd dd2 sl sl2 (by simpa using hv) (by simpa using hw) (by rw [List.size_toArray, List.size_toArray]; exact hsz)) ⟨ho, ho2, ?_⟩
    rw [e]
    exact h2 hw

/-! ### t[a:b], not the whole -/
/-- a slice's bound as a place among n (d where it is left out) -/
def sIx (n d : Nat) : Option Int → Nat
  | none => d
  | some v => if v < 0 then (v + (n : Int)).toNat else min v.toNat n
theorem sIx_none (n d : Nat) : sIx n d none = d := rfl
theorem sIx_nat (n d k : Nat) : sIx n d (some (k : Int)) = min k n := by
  show (if (k : Int) < 0 then ((k : Int) + (n : Int)).toNat else min (k : Int).toNat n) = min k n
  rw [if_neg (by omega), Int.toNat_natCast]
theorem sIx_le (n d : Nat) (hd : d ≤ n) (o : Option Int) : sIx n d o ≤ n := by
  cases o with
  | none => exact hd
  | some v =>
    show (if v < 0 then (v + (n : Int)).toNat else min v.toNat n) ≤ n
    by_cases hv : v < 0
    · rw [if_pos hv]; omega
    · rw [if_neg hv]; exact Nat.min_le_right _ _
theorem clip_eq (v : Int) (n d : Nat) : (if v < 0 then max (v + (n : Int)) 0 else min v (n : Int)) = ((sIx n d (some v) : Nat) : Int) := by
  show (if v < 0 then max (v + (n : Int)) 0 else min v (n : Int)) = (((if v < 0 then (v + (n : Int)).toNat else min v.toNat n) : Nat) : Int)
  by_cases hv : v < 0
  · simp only [if_pos hv]; omega
  · simp only [if_neg hv]; omega
theorem adjust_gen (lo hi : Option Int) (n : Nat) : Builtin.Slice.sliceAdjust lo hi 1 (n : Int) = (((sIx n 0 lo : Nat) : Int), ((sIx n n hi : Nat) : Int)) := by
  have h1 : ¬ ((1 : Int) < 0) := by omega
  unfold Builtin.Slice.sliceAdjust
  simp only [h1, if_false]
  refine Prod.ext ?_ ?_
  · cases lo with
    | none => rfl
    | some v => exact clip_eq v n 0
  · cases hi with
    | none => rfl
    | some v => exact clip_eq v n n
theorem places_gen (i j : Nat) : Builtin.Slice.slicePlaces (i : Int) (j : Int) 1 = j - i := by
  unfold Builtin.Slice.slicePlaces
  have h1 : (1 : Int) > 0 := by omega
  simp only [h1, if_true, Int.ediv_one]
  split <;> omega
theorem slicePart_ {v : Value} {o : Option Int} {Q : Option Int → Shared → Prop} (p : IsPart v o) (h : Q o s) : wpAny (model prog w) A (Builtin.Slice.slicePartIndex v) Q E s := by
  cases p with
  | none => exact slicePart_none h
  | int i t => exact slicePart_int h
theorem sliceApplied_gen {sl : Addr} {vl vu : Value} {lo hi : Option Int} {n : Nat} {Q : Int × Int × Nat → Shared → Prop} (hs : s.heap.IsSliceOf sl vl vu .none) (pl : IsPart vl lo) (pu : IsPart vu hi)
    (h : Q (((sIx n 0 lo : Nat) : Int), 1, sIx n n hi - sIx n 0 lo) s) : wpAny (model prog w) A (Builtin.Slice.sliceApplied (.ref sl) (pure (n : Int))) Q E s := by
  obtain ⟨os, hos, hcs, hds⟩ := id hs
  unfold Builtin.Slice.sliceApplied Builtin.Slice.sliceFields
  refine wpAny_bind (wpAny_bind (wpAny_field hos hds (x := vl) rfl (wpAny_bind (wpAny_field hos hds (x := vu) rfl (wpAny_bind (wpAny_field hos hds (x := .none) rfl (wpAny_pure ?_)))))))
  refine wpAny_bind (slicePart_none ?_)
  show wpAny _ _ (if ((1 : Int) == 0) = true then _ else _) _ _ s
  rw [if_neg (by decide)]
  refine wpAny_bind (slicePart_ pl (wpAny_bind (slicePart_ pu (wpAny_bind (wpAny_pure ?_)))))
  show wpAny _ _ (match Builtin.Slice.sliceAdjust lo hi 1 (n : Int) with | (lo, hi) => pure (lo, (1 : Int), Builtin.Slice.slicePlaces lo hi 1)) _ _ s
  rw [adjust_gen lo hi n]
  show wpAny _ _ (pure (((sIx n 0 lo : Nat) : Int), (1 : Int), Builtin.Slice.slicePlaces ((sIx n 0 lo : Nat) : Int) ((sIx n n hi : Nat) : Int) 1)) _ _ s
  rw [places_gen]
  exact wpAny_pure h
theorem pick_gen (xs : Array Value) (i k : Nat) : ((List.range k).filterMap fun (m : Nat) => xs[((i : Int) + (m : Int) * 1).toNat]?).toArray = ((xs.toList.drop i).take k).toArray := by
  have e : (fun (m : Nat) => xs[((i : Int) + (m : Int) * 1).toNat]?) = fun m => xs[i + m]? := by
    funext m
    have : ((i : Int) + (m : Int) * 1).toNat = i + m := by omega
    rw [this]
  rw [e]
  have := pick_run xs i k
  rw [List.filterMap_map] at this
  have e2 : ((fun x => xs[x]?) ∘ fun x => i + x) = fun m => xs[i + m]? := rfl
  rw [e2] at this
  rw [this]

theorem getItem_tuple_cut {t sl : Addr} {items : Array Value} {vl vu : Value} {lo hi : Option Int} {Q : Value → Shared → Prop} (ht : IsTup s.heap t items) (hs : s.heap.IsSliceOf sl vl vu .none) (pl : IsPart vl lo) (pu : IsPart vu hi)
    (hw : ¬ (sIx items.size 0 lo = 0 ∧ sIx items.size items.size hi = items.size))
    (h : Q (.ref s.heap.objs.size) { s with heap := s.heap.push { cls := .type "tuple", data := .seq ((items.toList.drop (sIx items.size 0 lo)).take (sIx items.size items.size hi - sIx items.size 0 lo)).toArray } })
    (hsz : items.size ≤ sizeLine) : wpAny (model prog w) A (getItem (.ref t) (.ref sl)) Q E s := by
  have htake : sizeOk (.seq ((items.toList.drop (sIx items.size 0 lo)).take (sIx items.size items.size hi - sIx items.size 0 lo)).toArray) := by
    show ((items.toList.drop (sIx items.size 0 lo)).take (sIx items.size items.size hi - sIx items.size 0 lo)).toArray.size ≤ sizeLine
    rw [List.size_toArray, List.length_take, List.length_drop, Array.length_toList]
    omega
  have hj : sIx items.size items.size hi ≤ items.size := sIx_le _ _ (Nat.le_refl _) hi
  obtain ⟨os, hos, hcs, hds⟩ := id hs
  have hTs : s.TypeIs (.ref sl) "slice" := ⟨os, hos, hcs⟩
  unfold getItem
  try with_reducible refine wpAny_holding ?_
  first | refine wpAny_bind (wpAny_pure ?_) | skip
  refine wpAny_bind (wpAny_sequenceKey ht.typeIs (by decide) ?_)
  refine wpAny_bind (wpAny_callSpecial?_slot (name := Str.ofString "__getitem__") ht.typeIs PyProof.Rows.slot_tuple_getitem
    (wpAny_call_entry PyProof.Rows.slot_tuple_getitem ht.typeIs entry_tuple_getitem ?_ (args_tuple_getitem _ _)))
  show wpAny _ _ (Builtin.Tuple.tupleItemsOf (.ref t) >>= _) _ _ s
  refine wpAny_bind (tupleItemsOf_ ht ?_)
  refine wpAny_bind (wpAny_typeOf hTs ?_)
  rw [if_pos (by decide)]
  refine wpAny_bind (sliceApplied_gen hs pl pu ?_)
  have hno : ¬ ((((sIx items.size 0 lo : Nat) : Int) == 0 && (1 : Int) == 1 && (sIx items.size items.size hi - sIx items.size 0 lo) == items.size) = true) := by
    intro q
    rw [Bool.and_eq_true, Bool.and_eq_true] at q
    have q1 : ((sIx items.size 0 lo : Nat) : Int) = 0 := eq_of_beq q.1.1
    have q2 : sIx items.size items.size hi - sIx items.size 0 lo = items.size := eq_of_beq q.2
    exact hw ⟨by omega, by omega⟩
  show wpAny _ _ (if (((sIx items.size 0 lo : Nat) : Int) == 0 && (1 : Int) == 1 && (sIx items.size items.size hi - sIx items.size 0 lo) == items.size) = true then _ else _) _ _ s
  rw [if_neg hno, pick_gen]
  first
    | exact wpAny_bind (m := Builtin.Tuple.tupleExact _) (wpAny_newObj_type (wpAny_pure ⟨_, rfl, wpAny_pure h⟩) htake)
    | exact wpAny_bind (m := Builtin.Tuple.tupleExact _) (wpAny_newObj_type (wpAny_bind (wpAny_pure (wpAny_pure ⟨_, rfl, wpAny_pure h⟩))) htake)
    | exact wpAny_bind (wpAny_bind (m := Builtin.Tuple.tupleExact _) (wpAny_newObj_type (wpAny_pure (wpAny_pure ⟨_, rfl, wpAny_pure h⟩)) htake))
    | exact wpAny_bind (wpAny_bind (m := Builtin.Tuple.tupleExact _) (wpAny_newObj_type (wpAny_pure ⟨_, rfl, wpAny_pure h⟩) htake))
end
end HT

namespace L2
open PySem PySem.Spec PyProof.Rows

/-! ### the parts of a slice -/
abbrev TO := St → Hp → (Option Int → Hp → Prop) → Prop
/-- a slice's part (left out, or an int) -/
def PO (X : Cx) (e : Option Expr) (t : TO) : Prop :=
  ∀ (pins : List (Addr × Obj)) (s : Shared) (σ : St) (H : Hp) (Q : Option Int → Hp → Prop), Inv X pins σ H s → t σ H Q →
    wpAny (model X.prog X.w) X.A (evalPart e X.env) (fun u s' => ∃ o H', Inv X pins σ H' s' ∧ IsPart u o ∧ Q o H') X.xe s
def tNoPart : TO := fun _ H Q => Q none H
def tPart (t : TE) : TO := fun σ H Q => t σ H fun x H1 => ∃ i, x = .int i ∧ Q (some i) H1

theorem intsAre_of {ns : List Int} : ∀ {us : List Value}, Vals (ns.map V.int) us → IntsAre us ns := by
  induction ns with
  | nil => intro us r; rw [List.map_nil] at r; cases r; exact .nil
  | cons n ns ih =>
    intro us r
    rw [List.map_cons] at r
    cases r with
    | cons r1 r2 =>
      obtain ⟨t, e⟩ := r1
      subst e
      exact .cons n t (ih r2)

section
variable {X : Cx} {e : Expr} {te : TE} {lo hi : Option Expr} {tl th : TO} {pos p2 : Pos}

theorem po_none : PO X none tNoPart := by
  intro pins s σ H Q I h
  rw [evalPart_none]
  exact wpAny_pure ⟨none, H, I, .none, h⟩
theorem po_some (h : PE X e te) : PO X (some e) (tPart te) := by
  intro pins s σ H Q I hw
  rw [evalPart_some]
  refine thn (h pins s σ H _ I hw) fun u s1 ⟨x, H1, I1, r1, q1⟩ => ?_
  obtain ⟨i, rfl, q⟩ := q1
  obtain ⟨t, rfl⟩ := r1
  exact ⟨some i, H1, I1, .int i t, q⟩

/-- what a slice of a value is, by values: the slice object stands at sl -/
def SlR (X : Cx) (r : V → Option Int → Option Int → Hp → VK → Prop) : Prop :=
  ∀ (pins : List (Addr × Obj)) (s : Shared) (σ : St) (H : Hp) (x : V) (v vl vu : Value) (lo hi : Option Int) (sl : Addr) (Q : VK), Inv X pins σ H s → RelV x v → s.heap.IsSliceOf sl vl vu .none → IsPart vl lo → IsPart vu hi → r x lo hi H Q →
    ∃ T id, typeLookup (.type T) "__getitem__" = pure (some (.builtin id)) ∧ s.TypeIs v T ∧ wpAny (model X.prog X.w) X.A (getItem v (.ref sl)) (EP X pins σ Q) X.xe s
theorem SlR.or {r r' : V → Option Int → Option Int → Hp → VK → Prop} (h : SlR X r) (h' : SlR X r') : SlR X (fun x lo hi H Q => r x lo hi H Q ∨ r' x lo hi H Q) := by
  intro pins s σ H x v vl vu lo hi sl Q I rx hs pl pu q
  rcases q with q | q
  · exact h pins s σ H x v vl vu lo hi sl Q I rx hs pl pu q
  · exact h' pins s σ H x v vl vu lo hi sl Q I rx hs pl pu q
def tSl (r : V → Option Int → Option Int → Hp → VK → Prop) (te : TE) (tl th : TO) : TE := fun σ H Q => te σ H fun x H1 => tl σ H1 fun l H2 => th σ H2 fun u H3 => r x l u H3 Q
/-- a[lo:hi], any a -/
theorem pe_slice {r : V → Option Int → Option Int → Hp → VK → Prop} (hr : SlR X r) (he : PE X e te) (hl : PO X lo tl) (hu : PO X hi th) : PE X (.Subscript e (.Slice lo hi none p2) pos) (tSl r te tl th) := by
  intro pins s σ H Q I h
  refine Subscript_ (thn (he pins s σ H _ I h) fun v s1 ⟨x, H1, I1, r1, q1⟩ => ?_)
  refine wpAny_Slice (thn (hl pins s1 σ H1 _ I1 q1) fun vl s2 ⟨l, H2, I2, pl, q2⟩ => thn (hu pins s2 σ H2 _ I2 q2) fun vu s3 ⟨u, H3, I3, pu, q3⟩ => ?_)
  rw [evalPart_none]
  refine wpAny_pure ?_
  have I4 : Inv X pins σ H3 { s3 with heap := s3.heap.push { cls := .type "slice", data := .fields #[vl, vu, .none] } } := I3.kept (t' := s3.toks) fun b ob q => Heap.get?_push_of_some _ q
  obtain ⟨T, id, hT, ht, hg⟩ := hr pins { s3 with heap := s3.heap.push { cls := .type "slice", data := .fields #[vl, vu, .none] } } σ H3 x v vl vu l u s3.heap.objs.size Q I4 r1 (Heap.IsSliceOf.new ..) pl pu q3
  show wpAny (model X.prog X.w) X.A (subscriptTail e (.Slice lo hi none p2) v (.ref s3.heap.objs.size)) (EP X pins σ Q) X.xe { s3 with heap := s3.heap.push { cls := .type "slice", data := .fields #[vl, vu, .none] } }
  exact tail_any (ops := [.ref s3.heap.objs.size, v]) ht hT hg (by with_unfolding_all rfl)

/-- the items of xs[lo:hi] -/
def cutV (xs : List V) (lo hi : Option Int) : List V := (xs.drop (HT.sIx xs.length 0 lo)).take (HT.sIx xs.length xs.length hi - HT.sIx xs.length 0 lo)
theorem cutV_length (xs : List V) (lo hi : Option Int) : (cutV xs lo hi).length ≤ xs.length := by
  unfold cutV
  rw [List.length_take, List.length_drop]
  omega
/-- t[lo:hi], not the whole of it (the whole would be t itself) -/
def rSlT (K : PySem.W.Frag) : V → Option Int → Option Int → Hp → VK → Prop := fun x lo hi H Q => ∃ a xs, x = .ref a ∧ SqT K H a xs ∧
  ¬ (HT.sIx xs.length 0 lo = 0 ∧ HT.sIx xs.length xs.length hi = xs.length) ∧ ∀ p, H p = none → Q (.ref p) (upd H p (.tup (cutV xs lo hi)))
theorem sl_tup : SlR X (rSlT X.K) := by
  intro pins s σ H x v vl vu lo hi sl Q I rx hs pl pu h
  obtain ⟨a, xs, rfl, hx, hw, q⟩ := h
  cases rx
  obtain ⟨its, r, ht, hz⟩ := I.tuple hx
  have hlen : its.toArray.size = xs.length := by rw [List.size_toArray]; exact r.length.symm
  refine ⟨"tuple", _, PyProof.Rows.slot_tuple_getitem.lookup, ht.typeIs, ?_⟩
  refine HT.getItem_tuple_cut ht hs pl pu (by rw [hlen]; exact hw) ?_ (by rw [hlen]; exact hz)
  rw [hlen]
  refine ⟨.ref s.heap.objs.size, _, I.laid (t' := s.toks) (o := .tup (cutV xs lo hi)) (fun b ob q => Heap.get?_push_of_some _ q) (Nat.le_refl _) ?_, rfl, q _ (I.hok.fresh (Nat.le_refl _))⟩
  exact ⟨Nat.le_trans (cutV_length xs lo hi) hz, _, (r.drop (HT.sIx xs.length 0 lo)).take (HT.sIx xs.length xs.length hi - HT.sIx xs.length 0 lo), IsTup.new _ _⟩

/-! ### t < u, t + u -/
def rLtT (K : PySem.W.Frag) : R2 := fun x y H Q => ∃ a b ns ms, x = .ref a ∧ y = .ref b ∧ SqT K H a (ns.map V.int) ∧ SqT K H b (ms.map V.int) ∧ Q (.bl (HT.lexLt ns ms)) H
theorem op_ltT (hu : X.A.units < cLine) : OpR X (compareOp .Lt) (rLtT X.K) := by
  intro pins s σ H x y v u Q I rx ry h
  obtain ⟨a, b, ns, ms, rfl, rfl, ha, hb, q⟩ := h
  cases rx
  cases ry
  obtain ⟨its, r1, p1, _⟩ := I.tuple ha
  obtain ⟨its2, r2, p2, _⟩ := I.tuple hb
  have i1 : IntsAre its.toArray.toList ns := intsAre_of r1
  have i2 : IntsAre its2.toArray.toList ms := intsAre_of r2
  exact HT.lt_tupInts p1 p2 i1 i2 hu ⟨.bl (HT.lexLt ns ms), H, I, rfl, q⟩
/-- t + u, t not empty: u empty gives t itself -/
def rCatT (K : PySem.W.Frag) : R2 := fun x y H Q => ∃ a b xs ys, x = .ref a ∧ y = .ref b ∧ SqT K H a xs ∧ SqT K H b ys ∧ xs ≠ [] ∧ xs.length + ys.length ≤ sizeLine ∧
  (ys = [] → Q (.ref a) H) ∧ (ys ≠ [] → ∀ p, H p = none → Q (.ref p) (upd H p (.tup (xs ++ ys))))
theorem Vals.nil_iff {xs : List V} {us : List Value} (r : Vals xs us) : us = [] ↔ xs = [] := by
  cases r with
  | nil => simp
  | cons _ _ => simp
theorem op_catT : OpR X (binaryOp .Add) (rCatT X.K) := by
  intro pins s σ H x y v u Q I rx ry h
  obtain ⟨a, b, xs, ys, rfl, rfl, ha, hb, hx, hz, q1, q2⟩ := h
  cases rx
  cases ry
  obtain ⟨its, r1, p1, _⟩ := I.tuple ha
  obtain ⟨its2, r2, p2, _⟩ := I.tuple hb
  refine HT.cat_tup p1 p2 (fun z => hx (r1.nil_iff.mp z)) (fun z => ⟨.ref a, H, I, rfl, q1 (r2.nil_iff.mp z)⟩) (fun z => ?_) (by rw [← r1.length, ← r2.length]; exact hz)
  refine ⟨.ref s.heap.objs.size, _, I.laid (t' := s.toks) (o := .tup (xs ++ ys)) (fun b ob q => Heap.get?_push_of_some _ q) (Nat.le_refl _) ?_, rfl, q2 (fun w => z (r2.nil_iff.mpr w)) _ (I.hok.fresh (Nat.le_refl _))⟩
  exact ⟨by rw [List.length_append]; exact hz, _, r1.append r2, IsTup.new _ _⟩
/-- tuple(t) -/
theorem call_tupleT : CallR X (.type "tuple") (fun xs H Q => ∃ a ys, xs = [.ref a] ∧ SqT X.K H a ys ∧ Q (.ref a) H) := by
  intro pins s σ H xs us Q I r h
  obtain ⟨a, ys, rfl, ha, q⟩ := h
  obtain ⟨u, rfl, ru⟩ := vals1 r
  cases ru
  obtain ⟨its, _, p1, _⟩ := I.tuple ha
  exact call_tuple_same (items := its.toArray) p1 ⟨.ref a, H, I, rfl, q⟩
end
end L2

namespace L2
open PySem PySem.Spec PyProof.Rows

/-! ### places -/
/-- the place that an index of any sign means -/
def ixN (n : Nat) (i : Int) : Option Nat := if 0 ≤ i then (if i < n then some i.toNat else none) else if -(n : Int) ≤ i then some (i + n).toNat else none
def atI {α : Type} (xs : List α) (i : Int) : Option α := (ixN xs.length i).bind fun j => xs[j]?
theorem ixN_seq {n : Nat} {i : Int} {j : Nat} (h : ixN n i = some j) : seqIndex? i n = some j ∧ j < n ∧ -(n : Int) ≤ i ∧ i < n := by
  unfold ixN at h
  by_cases h0 : 0 ≤ i
  · rw [if_pos h0] at h
    by_cases h1 : i < n
    · rw [if_pos h1] at h
      have e : i.toNat = j := Option.some.inj h
      exact ⟨by rw [seqIndex_of h0 h1, e], by omega, by omega, h1⟩
    · rw [if_neg h1] at h; cases h
  · rw [if_neg h0] at h
    by_cases h1 : -(n : Int) ≤ i
    · rw [if_pos h1] at h
      have e : (i + n).toNat = j := Option.some.inj h
      exact ⟨by rw [seqIndex_neg (by omega) h1, e], by omega, h1, by omega⟩
    · rw [if_neg h1] at h; cases h
theorem atI_get {α : Type} {xs : List α} {i : Int} {v : α} (h : atI xs i = some v) : ∃ j, seqIndex? i xs.length = some j ∧ xs[j]? = some v ∧ j < xs.length ∧ -(xs.length : Int) ≤ i ∧ i < xs.length := by
  unfold atI at h
  cases e : ixN xs.length i with
  | none => rw [e] at h; cases h
  | some j =>
    rw [e] at h
    obtain ⟨h1, h2, h3, h4⟩ := ixN_seq e
    exact ⟨j, h1, h, h2, h3, h4⟩
theorem atI_nat {α : Type} {xs : List α} {j : Nat} {v : α} (h : xs[j]? = some v) : atI xs (j : Int) = some v := by
  have hj : j < xs.length := (List.getElem?_eq_some_iff.mp h).1
  have e : ixN xs.length (j : Int) = some j := by
    unfold ixN
    rw [if_pos (by omega), if_pos (by omega)]; simp
  unfold atI; rw [e]; exact h
theorem atI_last {α : Type} (xs : List α) (v : α) : atI (xs ++ [v]) (-1) = some v := by
  have hl : (xs ++ [v]).length = xs.length + 1 := by simp
  have e : ixN (xs ++ [v]).length (-1) = some xs.length := by
    unfold ixN
    rw [hl, if_neg (by decide), if_pos (by omega)]
    congr 1
    omega
  unfold atI
  rw [e]
  show (xs ++ [v])[xs.length]? = some v
  simp

/-! ### what may be subscripted -/
/-- what stands as an index of a plain subscript -/
def PlainIx (b : Expr) : Prop := ∀ o i, subscripted b false o i = operate [o, i] (getItem o i)
/-- a subscript by values -/
def IxR (X : Cx) (r : R2) : Prop :=
  ∀ (value slice : Expr) (pins : List (Addr × Obj)) (s : Shared) (σ : St) (H : Hp) (x y : V) (v u : Value) (Q : VK), Inv X pins σ H s → RelV x v → RelV y u → r x y H Q →
    subscripted slice false v u = operate [v, u] (getItem v u) → wpAny (model X.prog X.w) X.A (subscriptTail value slice v u) (EP X pins σ Q) X.xe s
/-- a call of a builtin's method by values: the receiver, the arguments -/
def MtR (X : Cx) (id : String) (r : V → List V → Hp → VK → Prop) : Prop :=
  ∀ (pins : List (Addr × Obj)) (s : Shared) (σ : St) (H : Hp) (x : V) (xs : List V) (v : Value) (us : List Value) (Q : VK), Inv X pins σ H s → RelV x v → Vals xs us → r x xs H Q →
    wpAny (model X.prog X.w) X.A (call (.builtin id) (v :: us)) (EP X pins σ Q) X.xe s
section
variable {X : Cx} {a b : Expr} {ta tb : TE} {pos : Pos}
theorem IxR.or {r r' : R2} (h : IxR X r) (h' : IxR X r') : IxR X (fun x y H Q => r x y H Q ∨ r' x y H Q) := by
  intro value slice pins s σ H x y v u Q I rx ry q hs
  rcases q with q | q
  · exact h value slice pins s σ H x y v u Q I rx ry q hs
  · exact h' value slice pins s σ H x y v u Q I rx ry q hs
theorem MtR.or {id : String} {r r' : V → List V → Hp → VK → Prop} (h : MtR X id r) (h' : MtR X id r') : MtR X id (fun x xs H Q => r x xs H Q ∨ r' x xs H Q) := by
  intro pins s σ H x xs v us Q I rx rs q
  rcases q with q | q
  · exact h pins s σ H x xs v us Q I rx rs q
  · exact h' pins s σ H x xs v us Q I rx rs q
/-- a[b] -/
theorem pe_ix {r : R2} (hr : IxR X r) (ha : PE X a ta) (hb : PE X b tb) (hs : PlainIx b) : PE X (.Subscript a b pos) (tOp r ta tb) := by
  intro pins s σ H Q I h
  exact Subscript_ (binT ha hb I h fun v u s2 x y H2 I2 rx ry q => hr a b pins s2 σ H2 x y v u Q I2 rx ry q (hs _ _))

def rIxL (K : PySem.W.Frag) : R2 := fun x y H Q => ∃ p xs i v, x = .ref p ∧ y = .int i ∧ SqL K H p xs ∧ atI xs i = some v ∧ Q v H
def rIxT (K : PySem.W.Frag) : R2 := fun x y H Q => ∃ p xs i v, x = .ref p ∧ y = .int i ∧ SqT K H p xs ∧ atI xs i = some v ∧ Q v H
def rIxS : R2 := fun x y H Q => ∃ z i c, x = .str z ∧ y = .int i ∧ z.length ≤ sizeLine ∧ atI z.cps.toList i = some c ∧ Q (.str ⟨#[c]⟩) H
theorem ix_list : IxR X (rIxL X.K) := by
  intro value slice pins s σ H x y v u Q I rx ry h hs
  obtain ⟨p, xs, i, z, rfl, rfl, hq, he, q⟩ := h
  cases rx
  obtain ⟨t, rfl⟩ := ry
  obtain ⟨its, r, pl, hz⟩ := I.list hq
  obtain ⟨j, h1, h2, h3, h4, h5⟩ := atI_get he
  obtain ⟨w, ew, rw'⟩ := r.get h2
  have hl := r.length
  have hn := line63
  have fin : EP X pins σ Q w s := ⟨z, H, I, rw', q⟩
  by_cases h0 : 0 ≤ i
  · have hj : i.toNat = j := by
      rw [seqIndex_of h0 h5] at h1
      exact Option.some.inj h1
    exact item_listR pl.isList h0 (by omega) (by rw [hj]; simpa using ew) fin hs
  · have hj : (i + (its.toArray.size : Int)).toNat = j := by
      rw [seqIndex_neg (by omega) h4] at h1
      rw [List.size_toArray, ← hl]
      exact Option.some.inj h1
    exact subscriptTail_builtinR (x := w) pl.isList.typeIs slot_list_getitem.lookup
      (wpAny_getItem_list_neg (Q := fun r s' => r = w ∧ EP X pins σ Q r s') pl.isList (by omega) (by rw [List.size_toArray] <;> omega) (by omega) (by rw [hj]; simpa using ew) ⟨rfl, fin⟩) hs
theorem ix_tup : IxR X (rIxT X.K) := by
  intro value slice pins s σ H x y v u Q I rx ry h hs
  obtain ⟨p, xs, i, z, rfl, rfl, hq, he, q⟩ := h
  cases rx
  obtain ⟨t, rfl⟩ := ry
  obtain ⟨its, r, pl, hz⟩ := I.tuple hq
  obtain ⟨j, h1, h2, h3, h4, h5⟩ := atI_get he
  obtain ⟨w, ew, rw'⟩ := r.get h2
  have hl := r.length
  have hn := line63
  have fin : EP X pins σ Q w s := ⟨z, H, I, rw', q⟩
  exact subscriptTail_builtinR (x := w) pl.typeIs slot_tuple_getitem.lookup
    (getItem_tuple (j := j) (Q := fun r s' => r = w ∧ EP X pins σ Q r s') pl (by omega) (by omega) (by rw [List.size_toArray, ← hl]; exact h1) (by simpa using ew) ⟨rfl, fin⟩) hs
theorem ix_str : IxR X rIxS := by
  intro value slice pins s σ H x y v u Q I rx ry h hs
  obtain ⟨z, i, c, rfl, rfl, hz, he, q⟩ := h
  obtain ⟨t, rfl⟩ := rx
  obtain ⟨t', rfl⟩ := ry
  obtain ⟨j, h1, h2, h3, h4, h5⟩ := atI_get he
  have hl : z.cps.toList.length = z.length := by simp [Str.length]
  rw [hl] at h1 h4 h5
  have hn := line63
  exact tail_any (typeIs_str s z t) slot_str_getitem.lookup (getItem_str (c := c) (by
    have e1 : decide (i < -(2 ^ 63 : Int)) = false := decide_eq_false (by omega)
    have e2 : decide (i ≥ 2 ^ 63) = false := decide_eq_false (by omega)
    rw [e1, e2, Bool.or_false]) (by rw [h1]; simpa using h2) ⟨.str ⟨#[c]⟩, H, I.tok _, ⟨_, rfl⟩, q⟩) hs
/-- list, tuple or str -/
def rIx (K : PySem.W.Frag) : R2 := fun x y H Q => rIxL K x y H Q ∨ rIxT K x y H Q ∨ rIxS x y H Q
theorem ix_seq : IxR X (rIx X.K) := ix_list.or (ix_tup.or ix_str)

/-! ### xs[i] = v, any sign -/
/-- the list's object behind a store -/
theorem mapSeq_set (its : List Value) (n j : Nat) (u : Value) : Obj.mapSeq (·.setIfInBounds j u) { cls := .type "list", data := .seq its.toArray n } = { cls := .type "list", data := .seq (its.set j u).toArray n } := by
  simp [Obj.mapSeq]
theorem Inv.lst {pins : List (Addr × Obj)} {σ : St} {H : Hp} {s : Shared} {p : Addr} {xs : List V} (I : Inv X pins σ H s) (h : H p = some (.lst xs)) :
    ∃ (its : List Value) (n : Nat), Vals xs its ∧ s.heap.get? p = some { cls := .type "list", data := .seq its.toArray n } ∧ xs.length ≤ sizeLine := by
  obtain ⟨z, its, n, r, e⟩ := I.hok p _ h
  exact ⟨its, n, r, e, z⟩
/-- the list at p is written by an update of its object -/
theorem Inv.lstUpd {pins : List (Addr × Obj)} {σ : St} {H : Hp} {s : Shared} {p : Addr} {xs ys : List V} {its its' : List Value} {n n' : Nat} {f : Obj → Obj} (I : Inv X pins σ H s) (h : H p = some (.lst xs))
    (ho : s.heap.get? p = some { cls := .type "list", data := .seq its.toArray n }) (hf : f { cls := .type "list", data := .seq its.toArray n } = { cls := .type "list", data := .seq its'.toArray n' }) (r : Vals ys its') (hz : ys.length ≤ sizeLine) (t : Nat) :
    Inv X pins σ (upd H p (.lst ys)) { s with heap := s.heap.update p f, toks := t } := by
  have e : (s.heap.update p f).get? p = some { cls := .type "list", data := .seq its'.toArray n' } := by
    rw [Heap.get?_update_self f ho (by rw [hf] <;> rfl), hf]
  refine I.write (x := p) (e := p) (by rw [h]; trivial) (.inl rfl) (fun b u hb q => (Heap.get?_update_other _ _ (Ne.symm hb)).trans q) ⟨_, e⟩ ?_
  exact ⟨hz, its', n', r, e⟩
def rSetL : V → V → V → Hp → (Hp → Prop) → Prop := fun o i v H Q => ∃ p xs k j, o = .ref p ∧ i = .int k ∧ H p = some (.lst xs) ∧ ixN xs.length k = some j ∧ Q (upd H p (.lst (xs.set j v)))
theorem set_list : PSet X rSetL := by
  intro pins s σ H o i v ov iv u Q I ro ri rv h
  obtain ⟨p, xs, k, j, rfl, rfl, hp, hj, q⟩ := h
  cases ro
  obtain ⟨t, rfl⟩ := ri
  obtain ⟨its, n, r, ho, hz⟩ := I.lst hp
  obtain ⟨h1, h2, h3, h4⟩ := ixN_seq hj
  have hl := r.length
  have hn := line63
  have I' : Inv X pins σ (upd H p (.lst (xs.set j v))) { s with heap := s.heap.update p (Obj.mapSeq (·.setIfInBounds j u)) } :=
    I.lstUpd hp ho (mapSeq_set its n j u) (r.set rv j) (by rw [List.length_set]; exact hz) s.toks
  by_cases h0 : 0 ≤ k
  · have hk : k.toNat = j := by
      rw [seqIndex_of h0 h4] at h1
      exact Option.some.inj h1
    exact PySem.W.ki_setAt ho h0 (by omega) (by rw [List.size_toArray, ← hl]; exact h4) (by rw [hk]; exact ⟨_, I', q⟩)
  · have hk : (k + (its.toArray.size : Int)).toNat = j := by
      rw [seqIndex_neg (by omega) h3] at h1
      rw [List.size_toArray, ← hl]
      exact Option.some.inj h1
    exact PySem.W.ki_setBack ho (by omega) (by rw [List.size_toArray, ← hl]; exact h3) (by omega) (by rw [hk]; exact ⟨_, I', q⟩)

/-! ### slices -/
theorem slice_bounds (lo hi : Option Int) (n : Nat) : (sliceBounds lo hi none n).1 = ((HT.sIx n 0 lo : Nat) : Int) ∧ (sliceBounds lo hi none n).2.1 = ((HT.sIx n n hi : Nat) : Int) ∧ (sliceBounds lo hi none n).2.2 = 1 := by
  refine ⟨?_, ?_, rfl⟩
  · cases lo with
    | none => simp [sliceBounds, HT.sIx]
    | some i =>
      simp only [sliceBounds, HT.sIx, Option.getD_none, show (1 : Int) > 0 by decide, if_true]
      by_cases h : i < 0
      · simp only [h, if_true] <;> omega
      · simp only [h, if_false] <;> omega
  · cases hi with
    | none => simp [sliceBounds, HT.sIx]
    | some i =>
      simp only [sliceBounds, HT.sIx, Option.getD_none, show (1 : Int) > 0 by decide, if_true]
      by_cases h : i < 0
      · simp only [h, if_true] <;> omega
      · simp only [h, if_false] <;> omega
theorem slicePick_cut (its : List Value) (lo hi : Option Int) : slicePick its.toArray lo hi none = ((its.drop (HT.sIx its.length 0 lo)).take (HT.sIx its.length its.length hi - HT.sIx its.length 0 lo)).toArray := by
  obtain ⟨h1, h2, h3⟩ := slice_bounds lo hi its.toArray.size
  unfold slicePick
  rw [h1, h2, h3]
  simp only [sliceRange_one, pick_run, List.size_toArray] <;> rfl
/-- xs[lo:hi] of a list: a new list -/
def rSlL (K : PySem.W.Frag) : V → Option Int → Option Int → Hp → VK → Prop := fun x lo hi H Q => ∃ a xs, x = .ref a ∧ SqL K H a xs ∧ ∀ p, H p = none → Q (.ref p) (upd H p (.lst (cutV xs lo hi)))
theorem sl_list : SlR X (rSlL X.K) := by
  intro pins s σ H x v vl vu lo hi sl Q I rx hs pl pu h
  obtain ⟨a, xs, rfl, hx, q⟩ := h
  cases rx
  obtain ⟨its, r, ht, hz⟩ := I.list hx
  have hlen := r.length
  refine ⟨"list", _, slot_list_getitem.lookup, ht.isList.typeIs, ?_⟩
  refine wpAny_getItem_list_slice ht.isList hs pl pu .none (by simp) ?_ (by rw [List.size_toArray] <;> omega)
  rw [slicePick_cut, ← hlen]
  refine ⟨.ref s.heap.objs.size, _, I.laid (t' := s.toks) (o := .lst (cutV xs lo hi)) (fun b ob q => Heap.get?_push_of_some _ q) (Nat.le_refl _) ?_, rfl, q _ (I.hok.fresh (Nat.le_refl _))⟩
  exact ⟨Nat.le_trans (cutV_length xs lo hi) hz, _, 0, (r.drop (HT.sIx xs.length 0 lo)).take (HT.sIx xs.length xs.length hi - HT.sIx xs.length 0 lo), Heap.get?_push_size _ rfl⟩

/-! ### in, not in: flat items -/
def flatV : V → Bool
  | .non => true
  | .bl _ => true
  | .int _ => true
  | .str _ => true
  | _ => false
/-- == of flat values -/
def eqV : V → V → Bool
  | .non, .non => true
  | .bl a, .bl b => a == b
  | .bl a, .int b => (if a then 1 else 0) == b
  | .int a, .bl b => a == (if b then 1 else 0)
  | .int a, .int b => a == b
  | .str a, .str b => a == b
  | _, _ => false
theorem eqAt_V {A : Around} {s : Shared} {y x : V} {u v : Value} (ry : RelV y u) (rx : RelV x v) (fy : flatV y = true) (fx : flatV x = true) : SeqAt.EqAt A s u v (eqV y x) := by
  cases y with
  | non =>
    cases ry
    cases x with
    | non => cases rx; exact SeqAt.EqAt.same _
    | bl b => cases rx; exact SeqAt.EqAt.none_bool b
    | int b => obtain ⟨t, rfl⟩ := rx; exact SeqAt.EqAt.none_int b t
    | str b => obtain ⟨t, rfl⟩ := rx; exact SeqAt.EqAt.none_str b t
    | _ => exact absurd (show false = true from fx) Bool.false_ne_true
  | bl a =>
    cases ry
    cases x with
    | non => cases rx; exact SeqAt.EqAt.bool_none a
    | bl b => cases rx; exact SeqAt.EqAt.bool_bool a b
    | int b => obtain ⟨t, rfl⟩ := rx; exact SeqAt.EqAt.bool_int a b t
    | str b => obtain ⟨t, rfl⟩ := rx; exact SeqAt.EqAt.bool_str a b t
    | _ => exact absurd (show false = true from fx) Bool.false_ne_true
  | int a =>
    obtain ⟨t', rfl⟩ := ry
    cases x with
    | non => cases rx; exact SeqAt.EqAt.int_none a t'
    | bl b => cases rx; exact SeqAt.EqAt.int_bool a t' b
    | int b => obtain ⟨t, rfl⟩ := rx; exact SeqAt.EqAt.int_int a t' b t
    | str b => obtain ⟨t, rfl⟩ := rx; exact SeqAt.EqAt.int_str a t' b t
    | _ => exact absurd (show false = true from fx) Bool.false_ne_true
  | str a =>
    obtain ⟨t', rfl⟩ := ry
    cases x with
    | non => cases rx; exact SeqAt.EqAt.str_none a t'
    | bl b => cases rx; exact SeqAt.EqAt.str_bool a t' b
    | int b => obtain ⟨t, rfl⟩ := rx; exact SeqAt.EqAt.str_int a t' b t
    | str b => obtain ⟨t, rfl⟩ := rx; exact SeqAt.EqAt.str_str a t' b t
    | _ => exact absurd (show false = true from fx) Bool.false_ne_true
  | _ => exact absurd (show false = true from fy) Bool.false_ne_true
/-- the items' answers, read off the values (a value's own answer does not lean on its token) -/
def eqU (x : V) (u : Value) : Bool := match u with
  | .none => eqV .non x
  | .bool b => eqV (.bl b) x
  | .int i _ => eqV (.int i) x
  | .str z _ => eqV (.str z) x
  | _ => false
theorem eqU_of {x y : V} {u : Value} (r : RelV y u) (f : flatV y = true) : eqU x u = eqV y x := by
  cases y with
  | non => cases r; rfl
  | bl b => cases r; rfl
  | int i => obtain ⟨t, rfl⟩ := r; rfl
  | str z => obtain ⟨t, rfl⟩ := r; rfl
  | _ => exact absurd (show false = true from f) Bool.false_ne_true
theorem any_eqU {x : V} : ∀ {xs : List V} {us : List Value}, Vals xs us → xs.all flatV = true → us.any (eqU x) = xs.any fun y => eqV y x
  | _, _, .nil, _ => rfl
  | y :: xs, u :: us, .cons r t, f => by
    rw [List.all_cons, Bool.and_eq_true] at f
    rw [List.any_cons, List.any_cons, eqU_of r f.1, any_eqU t f.2]
theorem mem_eqAt {A : Around} {s : Shared} {x : V} {v : Value} (rx : RelV x v) (fx : flatV x = true) : ∀ {xs : List V} {us : List Value}, Vals xs us → xs.all flatV = true → ∀ u ∈ us, SeqAt.EqAt A s u v (eqU x u)
  | _, _, .nil, _ => fun u hu => by cases hu
  | y :: xs, u :: us, .cons r t, f => fun u' hu => by
    rw [List.all_cons, Bool.and_eq_true] at f
    rcases List.mem_cons.mp hu with rfl | hu
    · rw [eqU_of r f.1]; exact eqAt_V r rx f.1 fx
    · exact mem_eqAt rx fx t f.2 u' hu
def inV (x : V) (xs : List V) : Bool := xs.any fun y => eqV y x
/-- x in a list or tuple of flat items -/
def rIn (K : PySem.W.Frag) (neg : Bool) : R2 := fun x y H Q => ∃ p xs, y = .ref p ∧ (SqL K H p xs ∨ SqT K H p xs) ∧ flatV x = true ∧ xs.all flatV = true ∧ Q (.bl (if neg then !inV x xs else inV x xs)) H
theorem op_in_seq : OpR X (compareOp .In) (rIn X.K false) := by
  intro pins s σ H x y v u Q I rx ry h
  obtain ⟨p, xs, rfl, hq, fx, fs, q⟩ := h
  cases ry
  rcases hq with hq | hq
  · obtain ⟨its, r, pl, hz⟩ := I.list hq
    refine SeqAt.in_listAt (eqU x) pl.isList (fun w hw => mem_eqAt rx fx r fs w (by simpa using hw)) ⟨.bl _, H, I, rfl, ?_⟩
    rw [show its.toArray.any (eqU x) = its.any (eqU x) by simp, any_eqU r fs]
    exact q
  · obtain ⟨its, r, pl, hz⟩ := I.tuple hq
    refine SeqAt.in_tupleAt (eqU x) pl (fun w hw => mem_eqAt rx fx r fs w (by simpa using hw)) ⟨.bl _, H, I, rfl, ?_⟩
    rw [show its.toArray.any (eqU x) = its.any (eqU x) by simp, any_eqU r fs]
    exact q
theorem op_notIn_seq : OpR X (compareOp .NotIn) (rIn X.K true) := by
  intro pins s σ H x y v u Q I rx ry h
  obtain ⟨p, xs, rfl, hq, fx, fs, q⟩ := h
  cases ry
  rcases hq with hq | hq
  · obtain ⟨its, r, pl, hz⟩ := I.list hq
    refine SeqAt.notIn_listAt (eqU x) pl.isList (fun w hw => mem_eqAt rx fx r fs w (by simpa using hw)) ⟨.bl _, H, I, rfl, ?_⟩
    rw [show its.toArray.any (eqU x) = its.any (eqU x) by simp, any_eqU r fs]
    exact q
  · obtain ⟨its, r, pl, hz⟩ := I.tuple hq
    refine SeqAt.notIn_tupleAt (eqU x) pl (fun w hw => mem_eqAt rx fx r fs w (by simpa using hw)) ⟨.bl _, H, I, rfl, ?_⟩
    rw [show its.toArray.any (eqU x) = its.any (eqU x) by simp, any_eqU r fs]
    exact q
theorem op_notIn_str : OpR X (compareOp .NotIn) (fun x y H Q => ∃ i j, x = .str i ∧ y = .str j ∧ Q (.bl (!(!(Builtin.Str.occurrences j i 0 j.length 1).isEmpty))) H) := by
  intro pins s σ H x y v u Q I rx ry h
  obtain ⟨i, j, rfl, rfl, q⟩ := h
  obtain ⟨t, rfl⟩ := rx
  obtain ⟨t', rfl⟩ := ry
  exact notIn_str ⟨.bl _, H, I, rfl, q⟩

/-! ### len, list(x), tuple(x) of any list or tuple that is read -/
theorem call_len_seq : CallR X (.builtin "len") (fun xs H Q => ∃ p ys, xs = [.ref p] ∧ (SqL X.K H p ys ∨ SqT X.K H p ys) ∧ Q (.int ys.length) H) := by
  intro pins s σ H xs us Q I r h
  obtain ⟨p, ys, rfl, hq, q⟩ := h
  obtain ⟨u, rfl, rx⟩ := vals1 r
  cases rx
  have hn := line63
  rcases hq with hq | hq
  · obtain ⟨its, r', pl, hz⟩ := I.list hq
    have hlen := r'.length
    exact Calls.call_len_list pl.isList (by simp only [List.size_toArray] <;> omega) ⟨.int ys.length, H, I.tok _, ⟨s.toks + 1, by rw [List.size_toArray, hlen]⟩, q⟩
  · obtain ⟨its, r', pl, hz⟩ := I.tuple hq
    have hlen := r'.length
    exact len_tuple pl (by simp only [List.size_toArray] <;> omega) ⟨.int ys.length, H, I.tok _, ⟨s.toks + 1, by rw [List.size_toArray, hlen]⟩, q⟩
theorem call_len_str : CallR X (.builtin "len") (fun xs H Q => ∃ z, xs = [.str z] ∧ z.length ≤ sizeLine ∧ Q (.int z.length) H) := by
  intro pins s σ H xs us Q I r h
  obtain ⟨z, rfl, hz, q⟩ := h
  obtain ⟨u, rfl, t, rfl⟩ := vals1 r
  have hn := line63
  exact len_str (by omega) ⟨.int z.length, H, I.tok _, ⟨_, rfl⟩, q⟩
theorem CallR.or {f : Value} {r r' : List V → Hp → VK → Prop} (h : CallR X f r) (h' : CallR X f r') : CallR X f (fun xs H Q => r xs H Q ∨ r' xs H Q) := by
  intro pins s σ H xs us Q I rs q
  rcases q with q | q
  · exact h pins s σ H xs us Q I rs q
  · exact h' pins s σ H xs us Q I rs q
theorem call_list_of : CallR X (.type "list") (fun xs H Q => ∃ p ys, xs = [.ref p] ∧ (SqL X.K H p ys ∨ SqT X.K H p ys) ∧ ∀ l, H l = none → Q (.ref l) (upd H l (.lst ys))) := by
  intro pins s σ H xs us Q I r h
  obtain ⟨p, ys, rfl, hq, q⟩ := h
  obtain ⟨u, rfl, rx⟩ := vals1 r
  cases rx
  have fin : ∀ (its : List Value), Vals ys its → ys.length ≤ sizeLine → ∀ (h' : Heap) (c' : Nat), (∀ b o', s.heap.get? b = some o' → h'.get? b = some o') →
      h'.get? s.heap.objs.size = some { cls := .type "list", dict := none, data := .seq its.toArray c', slots := #[] } → EP X pins σ Q (.ref s.heap.objs.size) { s with heap := h' } := fun its r' hz h' c' kp e =>
    ⟨.ref s.heap.objs.size, _, I.laid (t' := s.toks) kp (Nat.le_refl _) (show ObjOk X.prog X.w _ h' _ (.lst ys) from ⟨hz, its, c', r', e⟩), rfl, q _ (I.hok.fresh (Nat.le_refl _))⟩
  rcases hq with hq | hq
  · obtain ⟨its, r', pl, hz⟩ := I.list hq
    have hlen := r'.length
    obtain ⟨o, ho, hc, n, hd⟩ := pl.isList
    exact call_list_seq p (.inl rfl) ho hc hd (fun h' c' kp e => fin its r' hz h' c' kp e) (by simp only [List.size_toArray] <;> omega)
  · obtain ⟨its, r', pl, hz⟩ := I.tuple hq
    have hlen := r'.length
    obtain ⟨o, ho, hc, n, hd⟩ := pl
    exact call_list_seq p (.inr rfl) ho hc hd (fun h' c' kp e => fin its r' hz h' c' kp e) (by simp only [List.size_toArray] <;> omega)
theorem call_tuple_of : CallR X (.type "tuple") (fun xs H Q => ∃ p ys, xs = [.ref p] ∧ ((SqL X.K H p ys ∧ ∀ l, H l = none → Q (.ref l) (upd H l (.tup ys))) ∨ (SqT X.K H p ys ∧ Q (.ref p) H))) := by
  intro pins s σ H xs us Q I r h
  obtain ⟨p, ys, rfl, h⟩ := h
  obtain ⟨u, rfl, rx⟩ := vals1 r
  cases rx
  rcases h with ⟨hq, q⟩ | ⟨hq, q⟩
  · obtain ⟨its, r', pl, hz⟩ := I.list hq
    have hlen := r'.length
    refine call_tuple_list pl.isList (fun h' kp => ?_) (by simp only [List.size_toArray] <;> omega)
    have I1 : Inv X pins σ H { s with heap := h' } := I.kept (t' := s.toks) kp
    have I2 : Inv X pins σ (upd H h'.objs.size (.tup ys)) { s with heap := h'.push { cls := .type "tuple", data := .seq its.toArray } } :=
      I1.laid (t' := s.toks) (fun b o e => Heap.get?_push_of_some _ e) (Nat.le_refl _) (show ObjOk X.prog X.w _ _ _ (.tup ys) from ⟨hz, its, r', IsTup.new _ _⟩)
    exact ⟨.ref h'.objs.size, _, I2, rfl, q _ (I1.hok.fresh (Nat.le_refl _))⟩
  · obtain ⟨its, r', pl, hz⟩ := I.tuple hq
    exact call_tuple_same pl ⟨.ref p, H, I, rfl, q⟩

/-! ### the call of a builtin's method: o.m(..) -/
/-- the value is of that builtin type -/
def tyV (K : PySem.W.Frag) (T : String) (x : V) (H : Hp) : Prop := match x with
  | .str _ => T = "str"
  | .int _ => T = "int"
  | .ref p => (T = "list" ∧ ∃ xs, SqL K H p xs) ∨ (T = "tuple" ∧ ∃ o, K.lookup p = some o ∧ o.cls = .type "tuple" ∧ o.dict = none) ∨
      (T = "dict" ∧ ((∃ kvs, H p = some (.dK kvs)) ∨ ∃ kvs, H p = some (.dT kvs))) ∨ (T = "set" ∧ ∃ S n, H p = some (.set S n))
  | _ => False
theorem tyV_is {pins : List (Addr × Obj)} {σ : St} {H : Hp} {s : Shared} {T : String} {x : V} {v : Value} (I : Inv X pins σ H s) (r : RelV x v) (ty : tyV X.K T x H) :
    s.TypeIs v T ∧ ∀ a, v = .ref a → ∃ ob, s.heap.get? a = some ob ∧ ob.dict = none := by
  cases x with
  | str z =>
    obtain ⟨t, rfl⟩ := r
    cases (show T = "str" from ty)
    exact ⟨typeIs_str s z t, fun _ e => nomatch e⟩
  | int i =>
    obtain ⟨t, rfl⟩ := r
    cases (show T = "int" from ty)
    exact ⟨typeIs_int s i t, fun _ e => nomatch e⟩
  | ref p =>
    cases r
    rcases ty with ⟨rfl, xs, hq⟩ | ⟨rfl, o, hk, hc, hd⟩ | ⟨rfl, hk⟩ | ⟨rfl, S, n, hk⟩
    · obtain ⟨its, _, pl, _⟩ := I.list hq
      refine ⟨pl.isList.typeIs, fun a e => ?_⟩
      cases e
      obtain ⟨o, n, e, c, hd, _⟩ := pl
      exact ⟨o, e, hd⟩
    · refine ⟨⟨o, I.kIn p o hk, hc⟩, fun a e => ?_⟩
      cases e
      exact ⟨o, I.kIn _ o hk, hd⟩
    · have z : ∃ o, s.heap.get? p = some o ∧ o.ExactDict := by
        rcases hk with ⟨kvs, hk⟩ | ⟨kvs, hk⟩
        · obtain ⟨_, _, _, _, o, _, _, e, ex, _⟩ := I.hok p _ hk
          exact ⟨o, e, ex⟩
        · obtain ⟨_, _, _, _, o, _, _, e, ex, _⟩ := I.hok p _ hk
          exact ⟨o, e, ex⟩
      obtain ⟨o, e, ex⟩ := z
      refine ⟨⟨o, e, ex.1⟩, fun a e2 => ?_⟩
      cases e2
      exact ⟨o, e, ex.2.1⟩
    · obtain ⟨o, _, _, _, e, ex, _⟩ := I.hok p _ hk
      refine ⟨⟨o, e, ex.1⟩, fun a e2 => ?_⟩
      cases e2
      exact ⟨o, e, ex.2.1⟩
  | _ => exact False.elim ty
def tBM0 (K : PySem.W.Frag) (T : String) (r : V → List V → Hp → VK → Prop) (to : TE) : TE := fun σ H Q => to σ H fun x H1 => tyV K T x H1 ∧ r x [] H1 Q
def tBM (K : PySem.W.Frag) (T : String) (r : V → List V → Hp → VK → Prop) (to : TE) (t : TA) : TE := fun σ H Q => to σ H fun x H1 => tyV K T x H1 ∧ t σ H1 fun xs H2 => r x xs H2 Q
variable {o e : Expr} {es : List Expr} {to : TE} {t : TA} {name : Str} {apos cpos : Pos} {T id : String} {r : V → List V → Hp → VK → Prop}
theorem pe_bm0 (pa : PlainAttrs T) (slot : Slot T name id) (hty : typeOf (.builtin id) = pure (.type "method_descriptor")) (hm : MtR X id r) (ho : PE X o to)
    (hbase : attributeBase o name X.env (eval o X.env) = eval o X.env := by rfl) (hline : (apos.endLine == cpos.line) = true := by rfl) : PE X (.Call (.Attribute o name apos) [] [] cpos) (tBM0 X.K T r to) := by
  intro pins s σ H Q I h
  refine wpAny_Call_method0_late hbase hline (thn (ho pins s σ H _ I h) fun v s1 ⟨x, H1, I1, r1, ty, q1⟩ => ?_)
  obtain ⟨h1, h2⟩ := tyV_is I1 r1 ty
  exact ⟨T, id, pa, slot, hty, h1, h2, Calls.callWith_builtin rfl (PySem.evalArgs_none (hm pins s1 σ H1 x [] v [] Q I1 r1 .nil q1))⟩
theorem pe_bm (pa : PlainAttrs T) (slot : Slot T name id) (hty : typeOf (.builtin id) = pure (.type "method_descriptor")) (hm : MtR X id r) (ho : PE X o to) (ha : PA X (e :: es) t)
    (hbase : attributeBase o name X.env (eval o X.env) = eval o X.env := by rfl)
    (hfew : ((backTo cpos (starEach (e :: es) X.env)).all (fun x => !x.1) && (backToKw cpos (keywordEach [] X.env)).all (fun x => x.1.isSome)
      && decide ((e :: es).length + ([] : List Keyword).length + (if ([] : List Keyword).isEmpty then 0 else 1) < 30)) = true := by rfl)
    (hline : (apos.endLine == cpos.line) = true := by rfl) (hs : starEach (e :: es) X.env = (false, eval e X.env) :: starEach es X.env := by rfl) (hplain : (backTo cpos (starEach es X.env)).any (·.1) = false := by rfl) :
    PE X (.Call (.Attribute o name apos) (e :: es) [] cpos) (tBM X.K T r to t) := by
  intro pins s σ H Q I h
  refine wpAny_Call_method_late hbase hfew hline rfl (thn (ho pins s σ H _ I h) fun v s1 ⟨x, H1, I1, r1, ty, q1⟩ => ?_)
  obtain ⟨h1, h2⟩ := tyV_is I1 r1 ty
  refine ⟨T, id, pa, slot, hty, h1, h2, ?_⟩
  have hA := ha cpos pins s1 σ H1 _ I1 q1
  rw [hs] at hA ⊢
  refine Calls.callWith_builtin (by show (false || (backTo cpos (starEach es X.env)).any (·.1)) = false; rw [hplain] <;> rfl) (Calls.evalArgs_plain ?_)
  exact thn hA fun us s2 ⟨vs, H2, I2, r2, q2⟩ => hm pins s2 σ H2 x vs v us Q I2 r1 r2 q2
/- xs.append(e), list.index on a module's tuple .. are MtR facts of 06m -/
end
end L2

namespace L2
open PySem PySem.Spec PyProof.Rows

def MtM (X : Cx) (id : String) (r : V → List V → Hp → VK → Prop) : Prop :=
  ∀ (pins : List (Addr × Obj)) (s : Shared) (σ : St) (H : Hp) (x : V) (xs : List V) (v : Value) (us : List Value) (Q : VK), Inv X pins σ H s → RelV x v → Vals xs us → r x xs H Q →
    wpAny (model X.prog X.w) X.A (call (.builtin id) (v :: us)) (EP X pins σ Q) X.xe s

/-! ### lists of values -/
theorem Vals.one : ∀ {x : V} {us : List Value}, Vals [x] us → ∃ u, us = [u] ∧ RelV x u
  | _, _, .cons r .nil => ⟨_, rfl, r⟩
theorem Vals.two : ∀ {x y : V} {us : List Value}, Vals [x, y] us → ∃ u v, us = [u, v] ∧ RelV x u ∧ RelV y v
  | _, _, _, .cons r (.cons q .nil) => ⟨_, _, rfl, r, q⟩
theorem Vals.zero : ∀ {us : List Value}, Vals [] us → us = []
  | _, .nil => rfl
theorem Vals.dropLast {xs : List V} {us : List Value} (h : Vals xs us) : Vals xs.dropLast us.dropLast := by
  induction h with
  | nil => exact .nil
  | cons r t ih =>
    cases t with
    | nil => exact .nil
    | cons q t' => exact .cons r ih
theorem Vals.eraseIdx : ∀ {xs : List V} {us : List Value} (i : Nat), Vals xs us → Vals (xs.eraseIdx i) (us.eraseIdx i)
  | _, _, _, .nil => .nil
  | _, _, 0, .cons _ t => t
  | _, _, i + 1, .cons r t => .cons r (Vals.eraseIdx i t)
theorem Vals.reverse {xs : List V} {us : List Value} (h : Vals xs us) : Vals xs.reverse us.reverse := by
  induction h with
  | nil => exact .nil
  | cons r t ih => rw [List.reverse_cons, List.reverse_cons]; exact Vals.append ih (.cons r .nil)
theorem Vals.rep {xs : List V} {us : List Value} (h : Vals xs us) : ∀ k : Nat, Vals (List.replicate k xs).flatten (List.replicate k us).flatten
  | 0 => .nil
  | k + 1 => by
    rw [List.replicate_succ, List.replicate_succ, List.flatten_cons, List.flatten_cons]
    exact Vals.append h (Vals.rep h k)
theorem erase_last {α : Type} (l : List α) : l.eraseIdx (l.length - 1) = l.dropLast := by
  induction l with
  | nil => rfl
  | cons a r ih =>
    cases r with
    | nil => rfl
    | cons b r =>
      have e : (a :: b :: r).length - 1 = ((b :: r).length - 1) + 1 := by
        have h1 : (a :: b :: r).length = r.length + 2 := rfl
        have h2 : (b :: r).length = r.length + 1 := rfl
        omega
      rw [e, List.eraseIdx_cons_succ, ih]
      all_goals rfl
theorem len_erase {α : Type} : ∀ (l : List α) (i : Nat), (l.eraseIdx i).length ≤ l.length
  | [], _ => Nat.le_refl _
  | _ :: _, 0 => Nat.le_succ _
  | _ :: r, i + 1 => Nat.succ_le_succ (len_erase r i)
theorem foldl_rep (its : List Value) : ∀ (k : Nat) (acc : List Value),
    List.foldl (fun x1 x2 => x1 ++ x2) acc.toArray (List.replicate k its.toArray) = (acc ++ (List.replicate k its).flatten).toArray
  | 0, acc => by simp
  | k + 1, acc => by
    have e : acc.toArray ++ its.toArray = (acc ++ its).toArray := by simp
    have e2 : (acc ++ its) ++ (List.replicate k its).flatten = acc ++ (List.replicate (k + 1) its).flatten := by
      rw [List.replicate_succ, List.flatten_cons, List.append_assoc]
    rw [← e2, ← foldl_rep its k (acc ++ its), ← e, List.replicate_succ, List.foldl_cons]

section
variable {X : Cx} {pins : List (Addr × Obj)} {σ : St} {H : Hp} {s : Shared} {l b : Addr} {xs ys zs : List V}

/-! ### the two steps: a tracked list is rewritten, a new list is laid -/
theorem Inv.lset {its its' : List Value} {n : Nat} {f : Array Value → Array Value} {t' : Nat} (I : Inv X pins σ H s) (hH : H l = some (.lst xs))
    (e : s.heap.get? l = some { cls := .type "list", data := .seq its.toArray n }) (hf : f its.toArray = its'.toArray) (hv : Vals ys its') (hz : ys.length ≤ sizeLine) :
    Inv X pins σ (upd H l (.lst ys)) { s with heap := s.heap.update l (Obj.mapSeq f), toks := t' } := by
  have q := PySem.IsL.update e f
  rw [hf] at q
  refine I.write (x := l) (e := l) (by rw [hH]; exact trivial) (.inl rfl) (fun b' u hb hu => (Heap.get?_update_other s.heap (Obj.mapSeq f) (Ne.symm hb)).trans hu) ⟨_, q⟩ ?_
  exact ⟨hz, its', _, hv, q⟩
theorem Inv.lnew {its : List Value} {t' : Nat} (I : Inv X pins σ H s) (hv : Vals ys its) (hz : ys.length ≤ sizeLine) :
    Inv X pins σ (upd H s.heap.objs.size (.lst ys)) { s with heap := s.heap.push { cls := .type "list", data := .seq its.toArray }, toks := t' } :=
  I.laid (fun _ _ q => Heap.get?_push_of_some _ q) (Nat.le_refl _) ⟨hz, its, 0, hv, Heap.get?_push_size _ rfl⟩
theorem Inv.fresh (I : Inv X pins σ H s) : H s.heap.objs.size = none := I.hok.fresh (Nat.le_refl _)
theorem Inv.lstM (I : Inv X pins σ H s) (hH : H l = some (.lst xs)) : xs.length ≤ sizeLine ∧ ∃ (its : List Value) (n : Nat), Vals xs its ∧ xs.length = its.length ∧ s.heap.get? l = some { cls := .type "list", data := .seq its.toArray n } := by
  obtain ⟨z, its, n, r, e⟩ := I.hok l _ hH
  exact ⟨z, its, n, r, r.length, e⟩

theorem notLongL {n : Nat} (h : n ≤ sizeLine) : Builtin.List.listTooLong n = false := by
  unfold Builtin.List.listTooLong
  exact decide_eq_false (by omega)
end

section
variable {X : Cx}

/-! ### methods -/
def rAppend : V → List V → Hp → VK → Prop := fun x vs H Q => ∃ l xs y, x = .ref l ∧ vs = [y] ∧ H l = some (.lst xs) ∧ xs.length < sizeLine ∧ Q .non (upd H l (.lst (xs ++ [y])))
theorem mt_append : MtM X "list.append" rAppend := by
  intro pins s σ H x vs v us Q I rx rv h
  obtain ⟨l, xs, y, rfl, rfl, hH, hz, q⟩ := h
  cases rx
  obtain ⟨u, rfl, ru⟩ := rv.one
  obtain ⟨z, its, n, r, hl, e⟩ := I.lstM hH
  refine call_meets F.slot_list_append ⟨_, e, rfl⟩ F.entry_list_append (F.args_list_append_2 _ _) (PySem.list_append l its.toArray n u (by rw [List.size_toArray]; omega)) ⟨e, ?_⟩
  refine ⟨.non, _, I.lset (its' := its ++ [u]) hH e (by simp) (r.append (.cons ru .nil)) ?_, rfl, q⟩
  rw [List.length_append, List.length_singleton]
  omega

def rExtend : V → List V → Hp → VK → Prop := fun x vs H Q => ∃ l b xs zs, x = .ref l ∧ vs = [.ref b] ∧ H l = some (.lst xs) ∧ H b = some (.lst zs) ∧ xs.length + zs.length ≤ sizeLine ∧ Q .non (upd H l (.lst (xs ++ zs)))
theorem mt_extend : MtM X "list.extend" rExtend := by
  intro pins s σ H x vs v us Q I rx rv h
  obtain ⟨l, b, xs, zs, rfl, rfl, hH, hB, hz, q⟩ := h
  cases rx
  obtain ⟨u, rfl, ru⟩ := rv.one
  cases ru
  obtain ⟨z, its, n, r, hl, e⟩ := I.lstM hH
  obtain ⟨z2, its2, n2, r2, hl2, e2⟩ := I.lstM hB
  have hsz : its.toArray.size + its2.toArray.size ≤ sizeLine := by rw [List.size_toArray, List.size_toArray]; omega
  have hlong : ¬ (!its.toArray.isEmpty && Builtin.List.listTooLong (its.toArray.size + its2.toArray.size)) = true := by
    rw [notLongL hsz, Bool.and_false]
    exact Bool.false_ne_true
  refine call_meets F.slot_list_extend ⟨_, e, rfl⟩ F.entry_list_extend (F.args_list_extend_2 _ _)
    (AutoSeq1.list_extend_list_list_0 l its.toArray n b its2.toArray n2 hlong (by rw [List.size_toArray]; omega) (by omega)) ⟨e, e2, ?_⟩
  refine ⟨.non, _, I.lset (its' := its ++ its2) hH e (by simp) (r.append r2) ?_, rfl, q⟩
  rw [List.length_append]
  omega

def rPop : V → List V → Hp → VK → Prop := fun x vs H Q => ∃ l xs y, x = .ref l ∧ vs = [] ∧ H l = some (.lst xs) ∧ xs[xs.length - 1]? = some y ∧ Q y (upd H l (.lst xs.dropLast))
theorem mt_pop : MtM X "list.pop" rPop := by
  intro pins s σ H x vs v us Q I rx rv h
  obtain ⟨l, xs, y, rfl, rfl, hH, hy, q⟩ := h
  cases rx
  have hus := rv.zero
  subst hus
  obtain ⟨z, its, n, r, hl, e⟩ := I.lstM hH
  obtain ⟨u, hu, ru⟩ := r.get hy
  have hy' : its.toArray[its.toArray.size - 1]? = some u := by
    show its.toArray[its.length - 1]? = some u
    rw [← Array.getElem?_toList, ← hl]
    exact hu
  refine call_meets F.slot_list_pop ⟨_, e, rfl⟩ F.entry_list_pop (F.args_list_pop_1 _) (MeetsSeq.list_pop_last l its.toArray n u hy' (by rw [List.size_toArray]; omega)) ⟨e, ?_⟩
  refine ⟨y, _, I.lset (its' := its.dropLast) hH e ?_ r.dropLast ?_, ru, q⟩
  · show its.toArray.eraseIdxIfInBounds (its.toArray.size - 1) = its.dropLast.toArray
    rw [List.size_toArray, List.eraseIdxIfInBounds_toArray, erase_last]
  · rw [List.length_dropLast]
    omega

def rPopAt : V → List V → Hp → VK → Prop := fun x vs H Q => ∃ l xs i k y, x = .ref l ∧ vs = [.int i] ∧ H l = some (.lst xs) ∧ -(2 ^ 63) ≤ i ∧ i < 2 ^ 63 ∧ seqIndex? i xs.length = some k ∧ xs[k]? = some y ∧ Q y (upd H l (.lst (xs.eraseIdx k)))
theorem mt_popAt : MtM X "list.pop" rPopAt := by
  intro pins s σ H x vs v us Q I rx rv h
  obtain ⟨l, xs, i, k, y, rfl, rfl, hH, h1, h2, hk, hy, q⟩ := h
  cases rx
  obtain ⟨u, rfl, ru⟩ := rv.one
  obtain ⟨t, rfl⟩ := ru
  obtain ⟨z, its, n, r, hl, e⟩ := I.lstM hH
  obtain ⟨w, hw, rw'⟩ := r.get hy
  refine call_meets F.slot_list_pop ⟨_, e, rfl⟩ F.entry_list_pop (F.args_list_pop_2 _ _)
    (MeetsSeq.list_pop_at l its.toArray n i t k w (fitsIndex_both h1 h2) (by rw [List.size_toArray, ← hl]; exact hk) (by rw [← Array.getElem?_toList]; exact hw) (by rw [List.size_toArray]; omega)) ⟨e, ?_⟩
  refine ⟨y, _, I.lset (its' := its.eraseIdx k) hH e ?_ (r.eraseIdx k) ?_, rw', q⟩
  · show its.toArray.eraseIdxIfInBounds k = (its.eraseIdx k).toArray
    rw [List.eraseIdxIfInBounds_toArray]
  · have := len_erase xs k
    omega

def rReverse : V → List V → Hp → VK → Prop := fun x vs H Q => ∃ l xs, x = .ref l ∧ vs = [] ∧ H l = some (.lst xs) ∧ Q .non (upd H l (.lst xs.reverse))
theorem mt_reverse : MtM X "list.reverse" rReverse := by
  intro pins s σ H x vs v us Q I rx rv h
  obtain ⟨l, xs, rfl, rfl, hH, q⟩ := h
  cases rx
  have hus := rv.zero
  subst hus
  obtain ⟨z, its, n, r, hl, e⟩ := I.lstM hH
  refine call_meets F.slot_list_reverse ⟨_, e, rfl⟩ F.entry_list_reverse (F.args_list_reverse_1 _) (AutoSeq1.list_reverse_list_0 l its.toArray n (by rw [List.size_toArray]; omega)) ⟨e, ?_⟩
  refine ⟨.non, _, I.lset (its' := its.reverse) hH e (by simp) r.reverse ?_, rfl, q⟩
  rw [List.length_reverse]
  omega

def rClear : V → List V → Hp → VK → Prop := fun x vs H Q => ∃ l xs, x = .ref l ∧ vs = [] ∧ H l = some (.lst xs) ∧ Q .non (upd H l (.lst []))
theorem mt_clear : MtM X "list.clear" rClear := by
  intro pins s σ H x vs v us Q I rx rv h
  obtain ⟨l, xs, rfl, rfl, hH, q⟩ := h
  cases rx
  have hus := rv.zero
  subst hus
  obtain ⟨z, its, n, r, hl, e⟩ := I.lstM hH
  refine call_meets F.slot_list_clear ⟨_, e, rfl⟩ F.entry_list_clear (F.args_list_clear_1 _) (AutoSeq1.list_clear_list_0 l its.toArray n (by rw [List.size_toArray]; omega)) ⟨e, ?_⟩
  exact ⟨.non, _, I.lset (its' := []) (ys := []) hH e rfl .nil (Nat.zero_le _), rfl, q⟩

/-! ### list + list, list += list, list * int -/
def rCat : R2 := fun x y H Q => ∃ l b xs zs, x = .ref l ∧ y = .ref b ∧ H l = some (.lst xs) ∧ H b = some (.lst zs) ∧ xs.length + zs.length ≤ sizeLine ∧ ∀ p, H p = none → Q (.ref p) (upd H p (.lst (xs ++ zs)))
theorem op_cat : OpR X (binaryOp .Add) rCat := by
  intro pins s σ H x y v u Q I rx ry h
  obtain ⟨l, b, xs, zs, rfl, rfl, hH, hB, hz, q⟩ := h
  cases rx
  cases ry
  obtain ⟨z, its, n, r, hl, e⟩ := I.lstM hH
  obtain ⟨z2, its2, n2, r2, hl2, e2⟩ := I.lstM hB
  refine PySem.P.add_list e e2 ?_ (by rw [List.size_toArray, List.size_toArray]; omega)
  have ea : its.toArray ++ its2.toArray = (its ++ its2).toArray := by simp
  rw [ea]
  exact ⟨.ref _, _, I.lnew (t' := s.toks) (r.append r2) (by rw [List.length_append]; omega), rfl, q _ I.fresh⟩
/-- a list times an int (a negative one is nothing) -/
def rRep : R2 := fun x y H Q => ∃ l k xs, x = .ref l ∧ y = .int k ∧ H l = some (.lst xs) ∧ -(2 ^ 63) ≤ k ∧ k < 2 ^ 63 ∧ xs.length * k.toNat ≤ sizeLine ∧
  ∀ p, H p = none → Q (.ref p) (upd H p (.lst (List.replicate k.toNat xs).flatten))
theorem len_rep {α : Type} (xs : List α) (k : Nat) : (List.replicate k xs).flatten.length = k * xs.length := by
  induction k with
  | zero => simp
  | succ k ih => rw [List.replicate_succ, List.flatten_cons, List.length_append, ih, Nat.succ_mul, Nat.add_comm]
theorem op_rep : OpR X (binaryOp .Mult) rRep := by
  intro pins s σ H x y v u Q I rx ry h
  obtain ⟨l, k, xs, rfl, rfl, hH, h1, h2, hz, q⟩ := h
  cases rx
  obtain ⟨t, rfl⟩ := ry
  obtain ⟨z, its, n, r, hl, e⟩ := I.lstM hH
  have hlen : its.toArray.size * k.toNat ≤ sizeLine := by rw [List.size_toArray, ← hl]; exact hz
  have hcap : ¬ its.toArray.size * k.toNat > (2 ^ 63 - 1) / 8 := by
    have : (sizeLine : Nat) ≤ (2 ^ 63 - 1) / 8 := by decide
    omega
  have hfit : ¬ (!Builtin.List.listFitsIndex k) = true := by
    rw [fitsIndex_both h1 h2]
    exact Bool.false_ne_true
  have hlong : ¬ Builtin.List.listTooLong (its.toArray.size * k.toNat) = true := by
    rw [notLongL hlen]
    exact Bool.false_ne_true
  have hnew : List.foldl (fun x1 x2 => x1 ++ x2) #[] (List.replicate (if its.toArray.isEmpty = true then 0 else k.toNat) its.toArray) = (List.replicate k.toNat its).flatten.toArray := by
    have f0 : ∀ m : Nat, List.foldl (fun x1 x2 => x1 ++ x2) #[] (List.replicate m its.toArray) = (List.replicate m its).flatten.toArray := fun m => by
      have := foldl_rep its m []
      rw [List.nil_append] at this
      exact this
    rw [f0]
    cases its with
    | nil => simp
    | cons a r' => rw [if_neg (by simp)]
  refine wpAny_binaryOp_repeat_ref (T := "list") (U := "int") (by decide) ⟨_, e, rfl⟩ (fun s' => typeIs_int s' k t) noFill_list_mul F.fills_int_mul F.slot_int_rmul repeat_list F.slot_int_index.lookup
    (call_meets F.slot_int_rmul (typeIs_int s k t) F.entry_int_rmul (F.args_int_rmul_2 _ _) (int___rmul___int_list k t l its.toArray n)
      ⟨e, rfl, ⟨_, e, rfl⟩, call_meets F.slot_list_mul ⟨_, e, rfl⟩ F.entry_list_mul (F.args_list_mul_2 _ _) (AutoListH.list___mul___list_int_3 l its.toArray n k t hfit hcap hlong) ⟨e, ?_⟩⟩)
  rw [hnew]
  exact ⟨.ref _, _, I.lnew (t' := s.toks) (r.rep k.toNat) (by rw [len_rep, Nat.mul_comm]; exact hz), rfl, q _ I.fresh⟩

/-! ### del xs[i] -/
theorem del_list {pins : List (Addr × Obj)} {s : Shared} {σ : St} {H : Hp} {l : Addr} {xs : List V} {i : Int} {t : Tok} {k : Nat} {Q : Unit → Shared → Prop} (I : Inv X pins σ H s) (hH : H l = some (.lst xs))
    (h1 : -(2 ^ 63) ≤ i) (h2 : i < 2 ^ 63) (hk : seqIndex? i xs.length = some k) (h : ∀ s', Inv X pins σ (upd H l (.lst (xs.eraseIdx k))) s' → Q () s') :
    wpAny (model X.prog X.w) X.A (delItem (.ref l) (.int i t)) Q X.xe s := by
  obtain ⟨z, its, n, r, hl, e⟩ := I.lstM hH
  refine PySem.P.delItem_list (k := k) e (fitsIndex_both h1 h2) (by rw [List.size_toArray, ← hl]; exact hk) (h _ ?_) (by rw [List.size_toArray]; omega)
  refine I.lset (its' := its.eraseIdx k) (t' := s.toks) hH e ?_ (r.eraseIdx k) ?_
  · show its.toArray.eraseIdxIfInBounds k = (its.eraseIdx k).toArray
    rw [List.eraseIdxIfInBounds_toArray]
  · have := len_erase xs k
    omega
end

/-! ### xs[a:b] = ys -/
section
variable {prog : Program} {w : World} {A : Around} {E : Value → Shared → Prop} {s : Shared}
theorem splice_eq (its its2 : List Value) (a c : Nat) : its.toArray.extract 0 a ++ its2.toArray ++ its.toArray.extract c its.toArray.size = (its.take a ++ its2 ++ its.drop c).toArray := by
  apply Array.toList_inj.mp
  first
    | (simp
       exact List.take_of_length_le (by simp))
    | simp [List.take_of_length_le]
    | simp
theorem bounds_run {a c n : Nat} (hac : a ≤ c) (hc : c ≤ n) : sliceBounds (some (a : Int)) (some (c : Int)) none n = ((a : Int), (c : Int), 1) := by
  simp only [sliceBounds, Option.getD_none]
  have h1 : ¬ ((a : Int) < 0) := by omega
  have h2 : ¬ ((c : Int) < 0) := by omega
  simp only [h1, h2, if_false, show (1 : Int) > 0 by decide, if_true]
  congr 1
  · omega
  · congr 1; omega
set_option maxRecDepth 100000 in
/-- list.__setitem__ with a slice of step one and another list -/
theorem setItem_slice {l b sl : Addr} {items new : Array Value} {n n2 : Nat} {vl vu : Value} {a c : Nat} {Q : Unit → Shared → Prop}
    (e : s.heap.get? l = some { cls := .type "list", data := .seq items n }) (e2 : s.heap.get? b = some { cls := .type "list", data := .seq new n2 }) (hne : l ≠ b)
    (hs : s.heap.IsSliceOf sl vl vu .none) (pl : IsPart vl (some (a : Int))) (pu : IsPart vu (some (c : Int))) (hac : a ≤ c) (hc : c ≤ items.size)
    (hsz : items.size + new.size ≤ sizeLine) (h : Q () { s with heap := s.heap.update l (Obj.mapSeq fun xs => xs.extract 0 a ++ new ++ xs.extract c xs.size) }) :
    wpAny (model prog w) A (setItem (.ref l) (.ref sl) (.ref b)) Q E s := by
  have hl : s.heap.IsList l items := PySem.IsL.isList e
  have hb : s.heap.IsList b new := PySem.IsL.isList e2
  obtain ⟨os, hos, hcs, hds⟩ := id hs
  have hTs : s.TypeIs (.ref sl) "slice" := ⟨os, hos, hcs⟩
  have hstep : ¬ ((rawPart none == rawInt 0) = true) := Bool.false_ne_true
  have hsame : Builtin.List.listSameRef (.ref l) (.ref b) = false := by
    unfold Builtin.List.listSameRef
    exact beq_eq_false_iff_ne.mpr hne
  have hmax : (max (a : Int) (c : Int)).toNat = c := by omega
  have hz' : ((fun xs : Array Value => xs.extract 0 a ++ new ++ xs.extract c xs.size) items).size ≤ sizeLine + 1 := by
    simp only [Array.size_append, Array.size_extract]
    omega
  unfold setItem
  try with_reducible refine wpAny_holding ?_
  first | refine wpAny_bind (wpAny_pure ?_) | skip
  refine wpAny_bind (wpAny_sequenceKey hl.typeIs (by decide) ?_)
  refine wpAny_bind (wpAny_callSpecial?_slot (name := Str.ofString "__setitem__") hl.typeIs slot_list_setitem
    (wpAny_call_entry slot_list_setitem hl.typeIs entry_list_setitem ?_ (args_list_setitem _ _ _)))
  show wpAny _ _ (Builtin.List.listSubscript? (.ref sl) >>= _) _ _ s
  refine wpAny_bind ?_
  unfold Builtin.List.listSubscript?
  refine wpAny_bind (wpAny_specialOf hTs slice_no_index ?_)
  simp only [Option.isNone_none, if_true]
  refine wpAny_pure ?_
  show wpAny _ _ (typeOf (.ref sl) >>= _) _ _ s
  refine wpAny_bind (wpAny_typeOf hTs ?_)
  first
    | rw [if_neg (by decide)]
    | refine PySem.W.KFB.if_not (by decide) ?_
  rw [listSliceParts_eq]
  refine wpAny_bind (wpAny_bind (wpAny_field hos hds (x := .none) rfl (wpAny_bind (wpAny_listPart .none ?_))))
  rw [if_neg hstep]
  refine wpAny_bind (wpAny_field hos hds (x := vl) rfl (wpAny_bind (wpAny_listPart pl ?_)))
  refine wpAny_bind (wpAny_field hos hds (x := vu) rfl (wpAny_bind (wpAny_listPart pu (wpAny_pure ?_))))
  first
    | simp only [hsame, Bool.false_eq_true, if_false]
    | refine PySem.W.KFB.if_not hsame ?_
    | (dsimp only
       rw [if_neg (by rw [hsame]; exact Bool.false_ne_true)])
  refine wpAny_bind (m := Builtin.List.listAllItems (.ref b) "must assign iterable to extended slice") ?_
  unfold Builtin.List.listAllItems
  refine wpAny_bind (wpAny_typeOf hb.typeIs ?_)
  first
    | refine PySem.W.KFB.if_so (by decide) ?_
    | rw [if_pos (by decide)]
    | simp only [beq_self_eq_true, Bool.true_or, if_true]
  unfold Builtin.List.listItems
  refine wpAny_bind (wpAny_seqItems e2 rfl (wpAny_pure ?_))
  refine wpAny_bind (wpAny_bind (wpAny_seqItems e rfl (wpAny_pure ?_)))
  refine wpAny_bind (wpAny_of_eq ((sliceIndices_raw (some (a : Int)) (some (c : Int)) none items.size (by simp)).trans (congrArg (pure : Int × Int × Int → Sem (Int × Int × Int)) (bounds_run hac hc))) ?_)
  show wpAny _ _ (if ((1 : Int) == 1) = true then _ else _) _ _ s
  rw [if_pos (by decide)]
  refine wpAny_bind (wpAny_rule ?_)
  first
    | simp only [notLongL hsz, Bool.false_eq_true, if_false]
    | refine PySem.W.KFB.if_not (notLongL hsz) ?_
  first | refine wpAny_bind (wpAny_pure ?_) | skip
  show wpAny _ _ (updateSeq l (fun xs => xs.extract 0 ((a : Int)).toNat ++ new ++ xs.extract (max (a : Int) (c : Int)).toNat xs.size) >>= _) _ _ s
  rw [hmax, Int.toNat_natCast]
  refine wpAny_bind (wpAny_updateSeq (hz := Nat.le_trans (Nat.le_add_right _ _) hsz) (_hz' := hz') e rfl ?_)
  refine wpAny_bind (wpAny_letGo ?_)
  first
    | exact wpAny_bind (wpAny_pure (wpAny_pure ⟨.none, rfl, wpAny_pure h⟩))
    | exact wpAny_pure ⟨.none, rfl, wpAny_pure h⟩
end

section
variable {X : Cx}
/-- xs[a:c] = ys of another list, at the value level: sl is the slice object that was just made -/
theorem set_slice {pins : List (Addr × Obj)} {s : Shared} {σ : St} {H : Hp} {l b sl : Addr} {xs ys : List V} {a c : Int} {vl vu : Value} {Q : Unit → Shared → Prop} (I : Inv X pins σ H s)
    (hH : H l = some (.lst xs)) (hB : H b = some (.lst ys)) (hne : l ≠ b) (hs : s.heap.IsSliceOf sl vl vu .none) (ra : RelV (.int a) vl) (rc : RelV (.int c) vu) (h0 : 0 ≤ a) (hac : a ≤ c) (hc : c ≤ xs.length)
    (hz : xs.length + ys.length ≤ sizeLine) (h : ∀ s', Inv X pins σ (upd H l (.lst (xs.take a.toNat ++ ys ++ xs.drop c.toNat))) s' → Q () s') :
    wpAny (model X.prog X.w) X.A (setItem (.ref l) (.ref sl) (.ref b)) Q X.xe s := by
  obtain ⟨ta, rfl⟩ := ra
  obtain ⟨tc, rfl⟩ := rc
  obtain ⟨z, its, n, r, hl, e⟩ := I.lstM hH
  obtain ⟨z2, its2, n2, r2, hl2, e2⟩ := I.lstM hB
  obtain ⟨a', rfl⟩ := Int.eq_ofNat_of_zero_le h0
  obtain ⟨c', rfl⟩ := Int.eq_ofNat_of_zero_le (Int.le_trans h0 hac)
  simp only [Int.toNat_natCast] at h
  refine setItem_slice (a := a') (c := c') e e2 hne hs (.int _ _) (.int _ _) (by omega) (by rw [List.size_toArray]; omega) (by rw [List.size_toArray, List.size_toArray]; omega) (h _ ?_)
  refine I.lset (its' := its.take a' ++ its2 ++ its.drop c') (t' := s.toks) hH e ?_ (Vals.append (Vals.append (r.take _) r2) (r.drop _)) ?_
  · exact splice_eq its its2 a' c'
  · rw [List.length_append, List.length_append, List.length_take, List.length_drop]
    omega
end
end L2

namespace Att
open PySem PySem.W PySem.Calls PyProof.Rows

/-! ### the script -/
theorem ints_of_wellAll {P : Params} {h : Heap} : ∀ (ns : List Int) (vs : List Value), WellAll P h vs (ns.map WData.int) → IntsAre vs ns := by
  intro ns
  induction ns with
  | nil =>
    intro vs w
    rw [List.map_nil] at w
    cases w
    exact .nil
  | cons n ns ih =>
    intro vs w
    rw [List.map_cons] at w
    cases w with
    | cons a b =>
      cases a
      exact .cons _ _ (ih _ b)

theorem script_of {l : OpenLaw} {n : Nat} (hn : l.most = some n) {P : Params} {h : Heap} {args : List WData} {vals : List Value}
    (hpre : l.row.toRowW.claim.pre args = true) (hwl : WellAll P h vals args) :
    ∃ a vs ns, vals = [Value.ref a] ∧ args = [WData.list (ns.map WData.int)] ∧ h.get? a = some { cls := .type "list", data := .seq vs.toArray } ∧ IntsAre vs ns ∧ ns.length ≤ n := by
  have hsh : WShape.hasAll [] args [.list .int] = true := (pre_splitW hpre).1
  have hc : l.pre.holds [] { args := args } = true := (pre_splitW hpre).2
  obtain ⟨d, r, rfl, h1, h2⟩ := hasAllW_cons hsh
  obtain rfl := hasAllW_nil h2
  obtain ⟨xs, rfl, h3⟩ := hasW_list h1
  obtain ⟨ns, rfl⟩ := items_int h3
  have hlen : ns.length ≤ n := by
    unfold OpenLaw.pre at hc
    have h4 : (WTm.not (.lt (.lit (.int (n : Int))) (.len (.arg 0)))).holds [] { args := [.list (ns.map .int)] } = true := by
      have h4 := (holds_andW hc).1
      rw [hn] at h4
      exact h4
    have h5 := condW_of h4 (w_not (w_lt w_lit (w_len_list (w_arg rfl))))
    rw [List.length_map] at h5
    refine Nat.le_of_not_lt fun q => ?_
    have q' : (n : Int) < ((ns.length : Nat) : Int) := by omega
    first
      | (rw [decide_eq_true q'] at h5; exact absurd h5 (by decide))
      | (simp at h5; omega)
  cases hwl with
  | cons w1 w2 =>
    cases w2
    cases w1 with
    | list ho hall => exact ⟨_, _, ns, rfl, rfl, ho, ints_of_wellAll ns _ hall, hlen⟩

theorem post_true (l : OpenLaw) (args : List WData) : l.row.toRowW.claim.post args (.bool true) args = true :=
  postW_of (r := l.row.toRowW) (X := (true == true))
    (show WShape.has [] (.bool true) .bool = true by first | rfl | decide | simp [WShape.has, WShape.arms, WShape.armsAll])
    (show (WTm.eq .res (.lit (.bool true))).value [] { args := args, res := some (.bool true), after := args } = some (.bool (true == true)) from w_eq_bool (w_res rfl) w_lit) rfl

/-! ### the attachment: holds_open's last premise (the goal 'hc' behind k_head) from a wpAny of the law's body -/
theorem attach {l : OpenLaw} {n : Nat} {q : Program} {loose : List Str} {XP : (Str → Option Value) → Heap → Prop} {YP : World → Heap → Prop} {d : DefRec} {x : Str}
    (hn : l.most = some n) (hdf : d.params.defaults = [])
    (hbind : ∀ pm cd doc v : Value, bindArgs (docDef d.name d.params d.body d.scope pm cd doc) ⟨[v], []⟩ = pure [(x, v)])
    (hx : d.scope.names.lookup x = some .local ∨ d.scope.names.lookup x = some .cell)
    (hk : d.scope.kind = .function) (hco : d.scope.isCoroutine = false) (hgen : d.scope.isGenerator = false)
    (body : ∀ (w : World) (s₀ s₁ s : Shared) (mg mb : Str → Option Value) (fa : Addr) (o : Obj) (pm cd doc : Value) (a : Addr) (vs : List Value) (ns : List Int),
      Ground q loose [] XP w s₀ mg mb s₁.heap → YP w s₁.heap →
      s₁.heap.get? fa = some o → o.data = .func (docDef d.name d.params d.body d.scope pm cd doc) → s₁.heap.CodeRec cd d.name → mg d.name = some (.ref fa) →
      s₁.heap.get? a = some { cls := .type "list", data := .seq vs.toArray } → IntsAre vs ns → ns.length ≤ n →
      s.gens = #[] → s.os = s₁.os →
      Fr s₁.heap s₁.heap.objs.size s.heap (bindL (envOfC d.name d.scope s₁.heap.objs.size fa cd).kindOf [(x, .ref a)] fun _ => none) →
      Cl s₁.heap.objs.size (cellsFrom (s₁.heap.objs.size + 1) d.scope.names []) s.heap (bindC (envOfC d.name d.scope s₁.heap.objs.size fa cd).kindOf [(x, .ref a)] fun _ => none) →
      wpAny (model l.prog w) (callerA.deeper (envOfC d.name d.scope s₁.heap.objs.size fa cd)) (execs d.body (envOfC d.name d.scope s₁.heap.objs.size fa cd))
        (fun f s' => f = .ret (.bool true) ∧ OldK s₁.heap s'.heap ∧ s'.os = s₁.os ∧ AllBare s'.gens) (fun _ _ => False) s) :
    WalkO q loose XP YP l.row.toRowW d [] (fun f vs => PySem.call f vs) := by
  intro w s₀ s₁ mg mb G Y fa o pm cd doc dV kV ho hd hcd hD hmg hg args vals as hpre hlay hrd hwl hlo
  obtain rfl : dV = .none := Dflts.none hD hdf
  obtain rfl : kV = .none := Dflts.noKw hD
  obtain ⟨a, vs, ns, rfl, rfl, hobj, hints, hlen⟩ := script_of hn hpre hwl
  refine enter_call ?_
  refine call_cells_ret (o := o) (by rw [depth_caller]; decide) ho (fd_plain hd) G.T.nolimit hcd (hbind pm cd doc (.ref a)) (fun y hy => ?_) (fun h₁ tk F X => ?_) hco hgen hk
  · obtain rfl : y = (x, Value.ref a) := List.mem_singleton.mp hy
    rcases hx with e | e
    · exact .inl e
    · exact .inr ⟨e, cellsFrom_some _ _ _ (.inl e)⟩
  · refine wpAny_mono (body w s₀ s₁ { s₁ with heap := h₁, toks := tk } mg mb fa o pm cd doc a vs ns G Y ho (fd_plain hd) hcd hmg hobj hints hlen hg rfl F X) (fun f s' hq => ?_) (fun _ _ hq => hq)
    obtain ⟨rfl, h2, h3, h4⟩ := hq
    exact ⟨.inl ⟨.bool true, .bool true, [], rfl, fun _ => rfl, .bool true, post_true l _, fun _ => ⟨List.Pairwise.nil, fun _ hm => (nomatch hm)⟩⟩, h2, h3, h4⟩

/-- the same from a codeAny of the CALL (for a layer whose function contracts speak of calls) -/
theorem attach_call {l : OpenLaw} {n : Nat} {q : Program} {loose : List Str} {XP : (Str → Option Value) → Heap → Prop} {YP : World → Heap → Prop} {d : DefRec}
    (hn : l.most = some n) (hdf : d.params.defaults = [])
    (call : ∀ (w : World) (s₀ s₁ : Shared) (mg mb : Str → Option Value) (fa : Addr) (o : Obj) (pm cd doc : Value) (a : Addr) (vs : List Value) (ns : List Int),
      Ground q loose [] XP w s₀ mg mb s₁.heap → YP w s₁.heap →
      s₁.heap.get? fa = some o → o.data = .func (docDef d.name d.params d.body d.scope pm cd doc) → s₁.heap.CodeRec cd d.name → mg d.name = some (.ref fa) →
      s₁.heap.get? a = some { cls := .type "list", data := .seq vs.toArray } → IntsAre vs ns → ns.length ≤ n → s₁.gens = #[] →
      codeAny (model l.prog w) callerA (.call (.ref fa) ⟨[.ref a], []⟩) (fun r s' => r = .ok (.ret (.bool true)) ∧ OldK s₁.heap s'.heap ∧ s'.os = s₁.os ∧ AllBare s'.gens) s₁) :
    WalkO q loose XP YP l.row.toRowW d [] (fun f vs => PySem.call f vs) := by
  intro w s₀ s₁ mg mb G Y fa o pm cd doc dV kV ho hd hcd hD hmg hg args vals as hpre hlay hrd hwl hlo
  obtain rfl : dV = .none := Dflts.none hD hdf
  obtain rfl : kV = .none := Dflts.noKw hD
  obtain ⟨a, vs, ns, rfl, rfl, hobj, hints, hlen⟩ := script_of hn hpre hwl
  refine enter_call (codeAny_mono (call w s₀ s₁ mg mb fa o pm cd doc a vs ns G Y ho (fd_plain hd) hcd hmg hobj hints hlen hg) fun r s' hq => ?_)
  obtain ⟨rfl, h2, h3, h4⟩ := hq
  exact ⟨.inl ⟨.bool true, .bool true, [], rfl, fun _ => rfl, .bool true, post_true l _, fun _ => ⟨List.Pairwise.nil, fun _ hm => (nomatch hm)⟩⟩, h2, h3, h4⟩

/-- the same where the top left finished generators (o_head chose holds_openN): nothing may have changed at all and no generator may be left -/
theorem attachN {l : OpenLaw} {n : Nat} {q : Program} {loose : List Str} {XP : (Str → Option Value) → Heap → Prop} {YP : World → Heap → Prop} {d : DefRec} {x : Str}
    (hn : l.most = some n) (hdf : d.params.defaults = [])
    (hbind : ∀ pm cd doc v : Value, bindArgs (docDef d.name d.params d.body d.scope pm cd doc) ⟨[v], []⟩ = pure [(x, v)])
    (hx : d.scope.names.lookup x = some .local ∨ d.scope.names.lookup x = some .cell)
    (hk : d.scope.kind = .function) (hco : d.scope.isCoroutine = false) (hgen : d.scope.isGenerator = false)
    (body : ∀ (w : World) (s₀ s₁ s : Shared) (mg mb : Str → Option Value) (fa : Addr) (o : Obj) (pm cd doc : Value) (a : Addr) (vs : List Value) (ns : List Int),
      Ground q loose [] XP w s₀ mg mb s₁.heap → YP w s₁.heap →
      s₁.heap.get? fa = some o → o.data = .func (docDef d.name d.params d.body d.scope pm cd doc) → s₁.heap.CodeRec cd d.name → mg d.name = some (.ref fa) →
      s₁.heap.get? a = some { cls := .type "list", data := .seq vs.toArray } → IntsAre vs ns → ns.length ≤ n →
      s.gens = #[] → s.os = s₁.os →
      Fr s₁.heap s₁.heap.objs.size s.heap (bindL (envOfC d.name d.scope s₁.heap.objs.size fa cd).kindOf [(x, .ref a)] fun _ => none) →
      Cl s₁.heap.objs.size (cellsFrom (s₁.heap.objs.size + 1) d.scope.names []) s.heap (bindC (envOfC d.name d.scope s₁.heap.objs.size fa cd).kindOf [(x, .ref a)] fun _ => none) →
      wpAny (model l.prog w) (callerA.deeper (envOfC d.name d.scope s₁.heap.objs.size fa cd)) (execs d.body (envOfC d.name d.scope s₁.heap.objs.size fa cd))
        (fun f s' => f = .ret (.bool true) ∧ (∀ b o, s₁.heap.get? b = some o → s'.heap.get? b = some o) ∧ s'.os = s₁.os ∧ s'.gens = #[]) (fun _ _ => False) s) :
    WalkN q loose XP YP l.row.toRowW d [] (fun f vs => PySem.call f vs) := by
  intro w s₀ s₁ mg mb G Y fa o pm cd doc dV kV ho hd hcd hD hmg hg args vals as hpre hlay hrd hwl hlo
  obtain rfl : dV = .none := Dflts.none hD hdf
  obtain rfl : kV = .none := Dflts.noKw hD
  obtain ⟨a, vs, ns, rfl, rfl, hobj, hints, hlen⟩ := script_of hn hpre hwl
  refine enter_callW ?_
  refine call_cells_ret (o := o) (by rw [depth_caller]; decide) ho (fd_plain hd) G.T.nolimit hcd (hbind pm cd doc (.ref a)) (fun y hy => ?_) (fun h₁ tk F X => ?_) hco hgen hk
  · obtain rfl : y = (x, Value.ref a) := List.mem_singleton.mp hy
    rcases hx with e | e
    · exact .inl e
    · exact .inr ⟨e, cellsFrom_some _ _ _ (.inl e)⟩
  · refine wpAny_mono (body w s₀ s₁ { s₁ with heap := h₁, toks := tk } mg mb fa o pm cd doc a vs ns G Y ho (fd_plain hd) hcd hmg hobj hints hlen hg rfl F X) (fun f s' hq => ?_) (fun _ _ hq => hq)
    obtain ⟨rfl, h2, h3, h4⟩ := hq
    exact ⟨.inl ⟨.bool true, .bool true, [], rfl, fun _ => rfl, .bool true, post_true l _, fun _ => ⟨List.Pairwise.nil, fun _ hm => (nomatch hm)⟩⟩, h2, h3, h4⟩

/-! ### rules over ANY heap (no ledger) from facts about the written part K: the library's own take a ledger (News) for what they write -/
section
variable {prog : Program} {w : World} {A : Around} {E : Value → Shared → Prop} {s : Shared} {K : Frag}

/-- a def of the module, or a method (qual 'C.m'), entered: the frame is the next address; cells behind it -/
theorem call_fn {R : Result → Shared → Prop} {name qual : Str} {params : Arguments} {body : List Stmt} {scope : Scope} {dV kV doc pm cdv ct oc : Value} {an od : Option Addr} {osl : Array (Option Value)} {f : Addr} {args : Args} {binds : List (Str × Value)}
    (X : K.In s.heap) (hlim : s.heap.NoLimit) (ho : K.lookup f = some ⟨oc, od, .func (fnOf name qual params body scope dV kV doc pm an cdv ct), osl⟩) (hcd : codeIn K cdv qual = true) (hroom : A.depth < recursionLimit)
    (hbind : BindsTo s (fnOf name qual params body scope dV kV doc pm an cdv ct) args binds)
    (hkind : (binds.all fun y => scope.names.lookup y.1 == some .local || scope.names.lookup y.1 == some .cell) = true)
    (h : ∀ s₁, InCallC s s.heap.objs.size (bindL (envOfC qual scope s.heap.objs.size f cdv).kindOf binds fun _ => none) (cellsFrom (s.heap.objs.size + 1) scope.names [])
        (bindC (envOfC qual scope s.heap.objs.size f cdv).kindOf binds fun _ => none) s₁ →
      wpAny (model prog w) (A.deeper (envOfC qual scope s.heap.objs.size f cdv)) (execs body (envOfC qual scope s.heap.objs.size f cdv))
        (fun fl s' => R (.ok (.ret (match fl with | .ret v => v | _ => .none))) s')
        (fun e s' => wpAny (model prog w) (A.deeper (envOfC qual scope s.heap.objs.size f cdv)) (leaving (envOfC qual scope s.heap.objs.size f cdv) e) (fun _ s'' => R (.error e) s'') (fun e' s'' => R (.error e') s'') s') s₁)
    (hco : scope.isCoroutine = false) (hgen : scope.isGenerator = false) (hk : scope.kind = .function) : codeAny (model prog w) A (.call (.ref f) args) R s := by
  refine codeAny_call_function hroom (X _ _ ho) rfl hco hgen rfl (codeRec_of X hcd) (hbind _ _ _ _ ?_)
  refine wpAny_newFunctionEnv_cells hk (kindsX hkind _) fun env he s₁ x => ?_
  subst he
  exact ⟨hlim.keeps x.toInCall.keep, codeAny_func (h s₁ x)⟩

/-- C(..): dict at size, instance at size + 1, then __init__ -/
theorem make_obj {R : Result → Shared → Prop} {C fI : Addr} {rest : List Value} {kw : List (Str × Value)}
    (X : K.In s.heap) (hm : makesIn K C = true) (hi : findIn K (.ref C) "__init__" = some (some (.ref fI))) (hf : isFn K (.ref fI) = true)
    (h : codeAny (model prog w) (A.under (.builtin "type.__call__" ⟨.ref C :: rest, kw⟩)) (.call (.ref fI) ⟨.ref (s.heap.objs.size + 1) :: rest, kw⟩) (InitBack (s.heap.objs.size + 1) R)
      { s with heap := (s.heap.push emptyDict).push (instObj C s.heap.objs.size) }) : codeAny (model prog w) A (.call (.ref C) ⟨rest, kw⟩) R s := by
  obtain ⟨hh, g, d, t, os⟩ := s
  exact make_core (makes_of X hm) (looks_findIn X hi) (fun self => bind_fn X self (beq_iff_eq.mp hf)) (.inl rfl) h

/-- x.name where the instance's dict holds the name and the class does not -/
theorem get_field {x C : Addr} {ox : Obj} {es : List DictEntry} {n : Nat} {name : Str} {expr : Bool} {v : Value} {Q : Value → Shared → Prop}
    (X : K.In s.heap) (I : PySem.W.InstAt s.heap x ox C (some (dictOf es n))) (hg : plainGet K C name = true) (hh : hasDictIn K C = true) (ha : findIn K (.ref C) name = some none)
    (hl : getL name es = some (some v)) (hv : handedIn v = true) (h : Q v { s with toks := s.toks + 1 }) : wpAny (model prog w) A (getAttr (.ref x) name expr) Q E s :=
  get_value X I (plainGet_of hg).1 (findObj_own hh ha rfl hl) hv h

/-- x.m(..): the method found in the class -/
theorem get_method {x C f : Addr} {ox : Obj} {es : List DictEntry} {n : Nat} {name : Str} {pl : Sem Bool} {Q : Value × List Value → Shared → Prop}
    (X : K.In s.heap) (I : PySem.W.InstAt s.heap x ox C (some (dictOf es n))) (hg : plainGet K C name = true) (hf : findIn K (.ref C) name = some (some (.ref f))) (ht : isFn K (.ref f) = true)
    (hl : getL name es = some none) (h : Q (.ref f, [.ref x]) s) : wpAny (model prog w) A (getMethod (.ref x) name pl) Q E s :=
  method_fn X I (plainGet_of hg).1 (plainGet_of hg).2 hf (beq_iff_eq.mp ht) (by show (lookIn name (dictOf es n)).map _ = _; rw [lookIn_dict, hl]; rfl) h

/-! the whole heap as the ledger: makes every rule that writes through a ledger a rule over any heap -/
def noObjs (h : Heap) : Heap := { h with objs := #[] }
theorem noObjs_get (h : Heap) (b : Addr) : (noObjs h).get? b = none := by
  cases e : (noObjs h).get? b with
  | none => rfl
  | some o => exact absurd (Heap.lt_size e) (Nat.not_lt_zero _)
def ledger (h : Heap) (L d : Addr) : List (Addr × Obj) := (List.range h.objs.size).filterMap fun a => if a = L ∨ a = d then none else (h.get? a).map fun o => (a, o)
theorem mem_ledger {h : Heap} {L d a : Addr} {o : Obj} : (a, o) ∈ ledger h L d ↔ a ≠ L ∧ a ≠ d ∧ h.get? a = some o := by
  unfold ledger
  rw [List.mem_filterMap]
  constructor
  · rintro ⟨b, _, e⟩
    split at e
    · cases e
    · rename_i hb
      obtain ⟨o', ho, e'⟩ := Option.map_eq_some_iff.mp e
      cases e'
      exact ⟨fun q => hb (.inl q), fun q => hb (.inr q), ho⟩
  · rintro ⟨n1, n2, ho⟩
    refine ⟨a, List.mem_range.mpr (Heap.lt_size ho), ?_⟩
    rw [if_neg (show ¬ (a = L ∨ a = d) from fun q => q.elim n1 n2), ho] <;> rfl
theorem news_ledger {h : Heap} {L d : Addr} {od : Obj} (hne : d ≠ L) (ho : h.get? d = some od) : News (noObjs h) L h ([] ++ (d, od) :: ledger h L d) := by
  rintro ⟨a, o⟩ hp
  rcases List.mem_cons.mp hp with e | hp
  · cases e
    exact ⟨ho, hne, noObjs_get _ _⟩
  · obtain ⟨n1, n2, e⟩ := mem_ledger.mp hp
    exact ⟨e, n1, noObjs_get _ _⟩
theorem fr_all {h : Heap} {L : Addr} {m : Str → Option Value} (n : h.Ns L m) : Fr (noObjs h) L h m :=
  ⟨n, fun b o e => (by rw [noObjs_get] at e; cases e), Nat.zero_le _⟩
/-- Upd of the head entry (for append_K, setItem_K ..) -/
theorem upd_ledger {h : Heap} {L d : Addr} {o o' : Obj} : Upd d o o' ((d, o) :: ledger h L d) ((d, o') :: ledger h L d) :=
  .head fun ⟨_, _⟩ hp => (mem_ledger.mp hp).2.1

/-- x.name = v over any heap: L is any namespace of the heap (the frame's, say): its map stays, its object is not told; all else but the dict stays -/
theorem set_field {x C dx L : Addr} {ox : Obj} {m : Str → Option Value} {es es' : List DictEntry} {n n' : Nat} {name : Str} {v : Value} {Q : Unit → Shared → Prop}
    (X : K.In s.heap) (I : PySem.W.InstAt s.heap x ox C (some (dictOf es n))) (hd : ox.dict = some dx) (hL : s.heap.Ns L m) (hne : dx ≠ L)
    (hs : findIn K (.ref C) "__setattr__" = some (some (.builtin "object.__setattr__"))) (hp : plainOver K C = true) (ht : takerIn K C name = some none) (hh : hasDictIn K C = true) (hl : (getL name es).isSome = true)
    (e : (putL name (PyData.keyHash w.params name) (.str name (s.toks + 1)) v es, putN name es n) = (es', n')) (hz : es'.length ≤ 1000)
    (h : ∀ h' : Heap, h'.Ns L m → h'.get? dx = some (dictOf es' n') → (∀ b o, b ≠ dx → b ≠ L → s.heap.get? b = some o → h'.get? b = some o) → Q () { s with heap := h', toks := s.toks + 2 }) :
    wpAny (model prog w) A (setAttr (.ref x) name v) Q E s := by
  obtain ⟨e1, e2⟩ := Prod.mk.inj e
  have hdx : s.heap.get? dx = some (dictOf es n) := by
    have := I.dict
    rw [hd] at this
    exact this
  refine set_plain X I hs (osa_dict (s := { s with toks := s.toks + 1 }) (h₀ := noObjs s.heap) (L := L) (m := m) (od := dictOf es n) (od' := dictOf es' n') (es := es') (n := n') (pre := []) (post := ledger s.heap L dx)
    (fr_all hL) (news_ledger hne hdx) X I hd hp ht hh hl (fun _ q => nomatch q) (fun ⟨_, _⟩ q => (mem_ledger.mp q).2.1) (by rw [putName_dict, e1, e2]) rfl hz fun h' F' N' => ?_)
  exact h h' F'.ns (N'.get (List.Mem.head _)) fun b o n1 n2 ho => N'.get (List.Mem.tail _ (mem_ledger.mpr ⟨n2, n1, ho⟩))
end
end Att

namespace L2
open PySem PySem.Spec PyProof.Rows

theorem vals_ints : ∀ {vs : List Value} {ns : List Int}, IntsAre vs ns → Vals (ns.map V.int) vs
  | _, _, .nil => .nil
  | _, _, .cons n t h => .cons ⟨t, rfl⟩ (vals_ints h)

/-- nothing is tracked but the script, known to the object (or it is an object of the module) -/
def Only (H : Hp) : Prop := ∀ b, H b = none ∨ ∃ o xs, H b = some (.frz o (.lst xs))

/-- THE HEAD: the law's promise, at the heap behind the top. F, the promise of the law's def, may use that base is part of the heap (so K.In base, base.Ns mainGlobals mg stand in Mod) -/
theorem law_call {P : Program} {w : World} {K : PySem.W.Frag} {mg mb : Str → Option Value} {CX : CXT} {k : Nat} {fa a : Addr} {fd : FuncData} {x : Str} {sp : Sp} {s₁ : Shared} {vs : List Value} {ns : List Int}
    (KX : K.In s₁.heap) (hns : s₁.heap.Ns mainGlobals mg) (hb : s₁.heap.Ns builtinsNs mb) (hbb : ∀ x : Str, x ≠ "__name__" → mb x = bootBuiltins x) (hlim : s₁.heap.NoLimit) (hg : s₁.gens = #[])
    (ha : s₁.heap.get? a = some { cls := .type "list", data := .seq vs.toArray }) (hi : IntsAre vs ns) (hl : ns.length ≤ sizeLine) (hr : Room k callerA)
    (F : ∀ base : Heap, K.In base → base.Ns mainGlobals mg → FnOk P w K mg base CX k fa fd [x] sp) (hbind : ∀ (s : Shared) (u : Value), BindsTo s fd ⟨[u], []⟩ [(x, u)])
    (hsp : ∀ H : Hp, Only H → SqL K H a (ns.map V.int) → sp [.ref a] H (fun v _ => v = .bl true) fun _ _ _ => False)
    (hCX : ∀ H e s', CX [] H s₁ (fun _ _ _ => False) e s' → False) :
    codeAny (model P w) callerA (.call (.ref fa) ⟨[.ref a], []⟩) (fun r s' => r = .ok (.ret (.bool true)) ∧ OldK s₁.heap s'.heap ∧ s'.os = s₁.os ∧ AllBare s'.gens) s₁ := by
  have rv := vals_ints hi
  have lenV := hi.length
  -- from an abstract heap in which nothing but the script may be tracked
  have core : ∀ H : Hp, Only H → SqL K H a (ns.map V.int) → HOk P w H s₁.heap → (∀ b, H b ≠ none → b = a) → (H a ≠ none → K.lookup a = none) →
      codeAny (model P w) callerA (.call (.ref fa) ⟨[.ref a], []⟩) (fun r s' => r = .ok (.ret (.bool true)) ∧ OldK s₁.heap s'.heap ∧ s'.os = s₁.os ∧ AllBare s'.gens) s₁ := by
    intro H hO hS hok hA hK
    have base_of : ∀ {b : Addr} {o : Obj}, s₁.heap.get? b = some o → H b = none → (hidT s₁.heap H).get? b = some o := fun e n => hidT_get e n
    have noA : ∀ {b : Addr} {o : Obj} {es : Array DictEntry} {ep : Nat}, s₁.heap.get? b = some o → o.data = .dict es ep → H b = none := fun {b o es ep} e d => by
      cases q : H b with
      | none => rfl
      | some u =>
        have e' : b = a := hA b (by rw [q]; simp)
        subst e'
        rw [ha] at e; cases e
        have d' : Data.seq vs.toArray _ = Data.dict es ep := d
        cases d'
    have nsK : ∀ {b : Addr} {m : Str → Option Value}, s₁.heap.Ns b m → (hidT s₁.heap H).Ns b m := fun {b m} ⟨o, es, ep, e, d, r⟩ => ⟨o, es, ep, base_of e (noA e d), d, r⟩
    have hKb : K.In (hidT s₁.heap H) := fun b o e => base_of (KX b o e) (by
      cases q : H b with
      | none => rfl
      | some u =>
        have e' : b = a := hA b (by rw [q]; simp)
        subst e'
        rw [hK (by rw [q]; simp)] at e; cases e)
    have hM : Mod K mg (hidT s₁.heap H) := ⟨hKb, nsK hns, ⟨mb, nsK hb, hbb⟩, let ⟨mc, h1, h2⟩ := hlim; ⟨mc, nsK h1, h2⟩⟩
    have e0 : Env0 P w K mg (hidT s₁.heap H) callerA [] s₁ H := ⟨rfl, hM, fun b o e => of_hidT e, Nat.le_of_eq (hidT_size _ _), trivial, fun b hb => absurd (show b ∈ ([] : List Addr) from hb) (by simp), hok, .of_eq hg⟩
    refine codeAny_mono ((F _ hKb (nsK hns)).run callerA [] s₁ H ⟨[.ref a], []⟩ [.ref a] [.ref a] _ _ hr e0 (hbind s₁ (.ref a)) (.cons rfl .nil) (hsp H hO hS)) fun r s' h => ?_
    cases r with
    | error e => exact (hCX H e s' h).elim
    | ok fl =>
      cases fl with
      | next => exact False.elim h
      | brk => exact False.elim h
      | cont => exact False.elim h
      | ret u =>
        obtain ⟨v, H', os, bare, un, hok', r', q⟩ := h
        have q' : v = .bl true := q
        subst q'
        obtain rfl : u = Value.bool true := r'
        refine ⟨rfl, OldK.of_keep fun b o e => ?_, os, bare⟩
        cases q : H b with
        | none => exact un.keep b o e q (by intro z; exact absurd (show b ∈ ([] : List Addr) from z) (by simp)) (by simp)
        | some u =>
          rcases hO b with z | ⟨ob, xs, z⟩
          · rw [q] at z; cases z
          · have z2 := un.frzs b ob _ z
            obtain ⟨e1, _⟩ := hok b _ z
            obtain ⟨e2, _⟩ := hok' b _ z2
            rw [e] at e1; cases e1
            exact e2
  cases hk : K.lookup a with
  | some o =>
    -- the script is one of the module's own objects
    have e := KX a o hk
    rw [ha] at e
    cases e
    refine core (fun _ => none) (fun _ => .inl rfl) (.inr ⟨_, vs.toArray, _, hk, rfl, rfl, rfl, by rw [List.size_toArray, lenV]; exact hl, by simpa using rv⟩) (fun b u z => by have z' : (none : Option HO) = some u := z; cases z') (fun b z => absurd rfl z) fun z => absurd rfl z
  | none =>
    refine core (fun b => if b = a then some (.frz { cls := .type "list", data := .seq vs.toArray } (.lst (ns.map V.int))) else none) (fun b => ?_) (.inl (.inr ⟨{ cls := .type "list", data := .seq vs.toArray }, if_pos rfl⟩)) (fun b u z => ?_) (fun b z => ?_) fun _ => hk
    · by_cases hb : b = a
      · exact .inr ⟨_, _, if_pos hb⟩
      · exact .inl (if_neg hb)
    · by_cases hb : b = a
      · have z' := (if_pos hb).symm.trans z
        cases z'
        subst hb
        exact ⟨ha, by rw [List.length_map]; exact hl, vs, _, rv, ha⟩
      · have z' := (if_neg hb).symm.trans z
        cases z'
    · by_cases hb : b = a
      · exact hb
      · exact absurd (if_neg hb) z
end L2

namespace L2
open PySem PySem.Spec PyProof.Rows

abbrev KOf {K : PySem.W.Frag} {h : Heap} (_ : K.In h) : PySem.W.Frag := K

/-- the goal that k_head leaves (case hc), from the law's promise. F gives the function object fd (K's own) once, then the promise over every base -/
theorem walk_of {l : PySem.W.OpenLaw} {n k : Nat} {q : Program} {loose : List Str} {XP : (Str → Option Value) → Heap → Prop} {YP : World → Heap → Prop} {d : DefRec} {K : Params → PySem.W.Frag} {CX : World → CXT} {sp : World → Sp} {x : Str}
    (hn : l.most = some n) (hn2 : n ≤ sizeLine) (hdf : d.params.defaults = []) (hr : Room k callerA)
    (hY : ∀ (w : World) (h : Heap), YP w h → (K w.params).In h)
    (F : ∀ (w : World) (mg : Str → Option Value) (fa : Addr) (h : Heap), (K w.params).In h → h.Ns mainGlobals mg → mg d.name = some (.ref fa) →
      ∃ fd : FuncData, (∀ (s : Shared) (u : Value), BindsTo s fd ⟨[u], []⟩ [(x, u)]) ∧
        ∀ base : Heap, (K w.params).In base → base.Ns mainGlobals mg → FnOk l.prog w (K w.params) mg base (CX w) k fa fd [x] (sp w))
    (hsp : ∀ (w : World) (H : Hp) (a : Addr) (ns : List Int), ns.length ≤ n → Only H → SqL (K w.params) H a (ns.map V.int) → sp w [.ref a] H (fun v _ => v = .bl true) fun _ _ _ => False)
    (hCX : ∀ (w : World) (H : Hp) (s : Shared) (e : Value) (s' : Shared), CX w [] H s (fun _ _ _ => False) e s' → False) :
    PySem.W.WalkO q loose XP YP l.row.toRowW d [] (fun f vs => PySem.call f vs) := by
  refine Att.attach_call hn hdf fun w s₀ s₁ mg mb fa o pm cd doc a vs ns G Y ho hd hcd hmg hobj hints hlen hg => ?_
  have KX := hY w _ Y
  obtain ⟨fd, hb, hF⟩ := F w mg fa _ KX G.T.g hmg
  exact law_call KX G.T.g G.T.b G.T.builtins G.T.nolimit hg hobj hints (Nat.le_trans hlen hn2) hr hF hb (fun H hO hS => hsp w H a ns hlen hO hS) fun H e s' => hCX w H s₁ e s'
/-- the same where the promise hangs on the written part alone: (sp := My.sp_law), no hole under a binder -/
theorem walk_ofK {l : PySem.W.OpenLaw} {n k : Nat} {q : Program} {loose : List Str} {XP : (Str → Option Value) → Heap → Prop} {YP : World → Heap → Prop} {d : DefRec} {K : Params → PySem.W.Frag} {CX : CXT} {sp : PySem.W.Frag → Sp} {x : Str}
    (hn : l.most = some n) (hn2 : n ≤ sizeLine) (hdf : d.params.defaults = []) (hr : Room k callerA)
    (hY : ∀ (w : World) (h : Heap), YP w h → (K w.params).In h)
    (F : ∀ (w : World) (mg : Str → Option Value) (fa : Addr) (h : Heap), (K w.params).In h → h.Ns mainGlobals mg → mg d.name = some (.ref fa) →
      ∃ fd : FuncData, (∀ (s : Shared) (u : Value), BindsTo s fd ⟨[u], []⟩ [(x, u)]) ∧
        ∀ base : Heap, (K w.params).In base → base.Ns mainGlobals mg → FnOk l.prog w (K w.params) mg base CX k fa fd [x] (sp (K w.params)))
    (hsp : ∀ (K : PySem.W.Frag) (H : Hp) (a : Addr) (ns : List Int), ns.length ≤ n → Only H → SqL K H a (ns.map V.int) → sp K [.ref a] H (fun v _ => v = .bl true) fun _ _ _ => False)
    (hCX : ∀ (H : Hp) (s : Shared) (e : Value) (s' : Shared), CX [] H s (fun _ _ _ => False) e s' → False) :
    PySem.W.WalkO q loose XP YP l.row.toRowW d [] (fun f vs => PySem.call f vs) :=
  walk_of (K := K) (CX := fun _ => CX) (sp := fun w => sp (K w.params)) hn hn2 hdf hr hY F (fun w H a ns h1 h2 h3 => hsp (K w.params) H a ns h1 h2 h3) fun _ H s e s' => hCX H s e s'
end L2

/- THE LAST THEOREM (shape; LID, My.* are yours):
   My.Adr: a structure of the addresses that your layer names (classes, functions); My.Txt K t: a structure (Prop) of the equations over K;
   My.txt_mk : {K} {implicit addresses ..} (e1 : nsIn K mainGlobals "law" = some (some (.ref f))) (e2 : K.lookup f = some ⟨oc, od, .func (fnOf "law" "law" params body scope dV kV doc pm an cdv ct), sl⟩) (e3 : codeIn K cdv "law" = true) .. : ∃ t, My.Txt K t

set_option maxRecDepth 100000 in
set_option maxHeartbeats 0 in
theorem PySem.Challenge.cw_LID_holds : PySem.Challenge.rw_LID.Holds := by
  w_on; o_law; k_head; (case hw => w_witness2)
  k_fill
  refine L2.walk_of (l := PySem.Challenge.rw_LID) (n := 63) (k := 40) (x := "script") (CX := fun w => ..) (sp := fun _ => My.sp_law) rfl (by decide) rfl ⟨rfl, by decide, by decide⟩ (fun w h Y => PySem.W.kIn_of Y) ?F ?S ?C
  case F =>
    intro w mg fa h KX G hmg
    have T : ∃ t, My.Txt (L2.KOf KX) t := by
      dsimp only [L2.KOf]                          -- K must stand as «<heap const> w.params» for k_is
      refine' My.txt_mk ?e1 ?e2 ?e3 ..
      (case e1 => PySem.W.k_is)                    -- in the order: a name -> its address -> its object -> its parts
      (case e2 => PySem.W.k_is)
      ..
    obtain ⟨t, T⟩ := T
    have e0 := hmg.symm.trans (PySem.W.mg_of KX G T.law)
    cases e0                                       -- fa is the law's own address
    exact ⟨_, fun s u => .of_eq rfl, fun base kb nb => My.law_fn T kb nb⟩     -- if «.of_eq rfl» comes too early: refine' ⟨_, ?b, fun base kb nb => My.law_fn T kb nb⟩; exact fun s u => .of_eq rfl
  case S => exact fun w H a ns hl hO hS => ..
  case C => exact ..
(the tactic k_is has no namespace: write k_is) -/

/-! SHORT WORDS over the layer: a def of the text, its body, what a loop and a test want. -/
namespace L2
open PySem PySem.Spec PyProof.Rows

/-! ### the text by places -/
/-- the j-th statement of a class's body -/
def inClass (s : Stmt) (j : Nat) : Stmt := match s with
  | .ClassDef _ _ _ body _ _ _ _ _ _ _ => body.getD j (.Pass ⟨0, 0, 0, 0⟩)
  | _ => .Pass ⟨0, 0, 0, 0⟩
def defArgs (s : Stmt) : Arguments := match s with
  | .FunctionDef _ a _ _ _ _ _ _ _ _ => a
  | _ => { posonlyargs := [], args := [], vararg := none, kwonlyargs := [], kw_defaults := [], kwarg := none, defaults := [] }
def defBody (s : Stmt) : List Stmt := match s with
  | .FunctionDef _ _ b _ _ _ _ _ _ _ => b
  | _ => []
def defScope (s : Stmt) : Scope := match s with
  | .FunctionDef _ _ _ _ _ _ sc _ _ _ => sc
  | _ => { kind := .function, names := [], isGenerator := false, isCoroutine := false }

/-! ### no exception leaves a def -/
abbrev CX0 : CXT := fun _ _ _ _ _ _ => False
abbrev E0 : XK := fun _ _ _ => False
theorem pass0 {X : Cx} : Passes CX0 X E0 := fun _ _ _ _ _ _ _ h => h.elim

/-! ### a def (or method) of the text as it stands behind the top -/
structure Fun (K : PySem.W.Frag) (x qual : Str) (st : Stmt) (f : Addr) (fd : FuncData) : Prop where
  ex : ∃ (oc : Value) (od : Option Addr) (kV doc pm : Value) (an : Option Addr) (cdv ct : Value) (osl : Array (Option Value)),
    fd = PySem.W.fnOf x qual (defArgs st) (defBody st) (defScope st) .none kV doc pm an cdv ct ∧ K.lookup f = some ⟨oc, od, .func fd, osl⟩ ∧ PySem.W.codeIn K cdv qual = true
  kp : PySem.W.keepIn K (.ref f) = true
section
variable {P : Program} {w : World} {K : PySem.W.Frag} {mg : Str → Option Value} {base : Heap}
/-- THE RULE for a def: its body as a term of rules, and the reading of that term -/
theorem Fun.ok {x qual : Str} {st : Stmt} {f : Addr} {fd : FuncData} {N ps : List Str} {k : Nat} {sp : Sp} (F : Fun K x qual st f fd) (S : FnScope N ps (defScope st)) (len : ∀ vs H Q E, sp vs H Q E → vs.length = ps.length)
    (hbody : ∀ (cdv : Value) (A : Around) (outer : List Env) (s : Shared) (H : Hp) (vs : List V) (Q : VK) (E : XK), Room k (A.deeper (envOfC qual (defScope st) s.heap.objs.size f cdv)) → sp vs H Q E →
      ∃ t, PSs (cxOf CX0 P w K mg base N qual (defScope st) f cdv A outer s H E).nox (defBody st) t ∧ t { nx := fun _ H' => Q .non H', rt := Q } (start N vs) H) : FnOk P w K mg base CX0 (k + 1) f fd ps sp := by
  obtain ⟨oc, od, kV, doc, pm, an, cdv, ct, osl, rfl, lk, hcd⟩ := F.ex
  refine fn_of lk hcd S len fun A outer s H vs Q E hr hsp => ?_
  obtain ⟨t, h, q⟩ := hbody cdv A outer s H vs Q E hr hsp
  exact ⟨t, h.nox, q⟩
/-- how its arguments bind (no defaults): h is «fun _ _ _ _ _ _ us hl => match us, hl with | [_, _], _ => rfl», one _ a parameter -/
theorem Fun.binds {x qual : Str} {st : Stmt} {f : Addr} {fd : FuncData} {ps : List Str} (F : Fun K x qual st f fd)
    (h : ∀ (kV doc pm : Value) (an : Option Addr) (cdv ct : Value) (us : List Value), us.length = ps.length → bindArgs (PySem.W.fnOf x qual (defArgs st) (defBody st) (defScope st) .none kV doc pm an cdv ct) ⟨us, []⟩ = pure (ps.zip us)) : Binds K fd ps [] := by
  obtain ⟨oc, od, kV, doc, pm, an, cdv, ct, osl, rfl, lk, hcd⟩ := F.ex
  exact .all (h kV doc pm an cdv ct)
theorem fun_mk {x qual : Str} {st : Stmt} {f : Addr} {oc : Value} {od an : Option Addr} {osl : Array (Option Value)} {kV doc pm cdv ct : Value} (l : K.lookup f = some ⟨oc, od, .func (PySem.W.fnOf x qual (defArgs st) (defBody st) (defScope st) .none kV doc pm an cdv ct), osl⟩)
    (c : PySem.W.codeIn K cdv qual = true) (k : PySem.W.keepIn K (.ref f) = true) : Fun K x qual st f (PySem.W.fnOf x qual (defArgs st) (defBody st) (defScope st) .none kV doc pm an cdv ct) := ⟨⟨oc, od, kV, doc, pm, an, cdv, ct, osl, rfl, l, c⟩, k⟩
end
theorem hu_of {A : Around} {k : Nat} (hr : Room k A) : A.units + 1 < cLine := Nat.lt_of_le_of_lt (Nat.add_le_add_left (by decide : 1 ≤ 64) _) hr.units
theorem small1000 {n : Nat} (h : n ≤ 1000) : n < sizeLine := Nat.lt_of_le_of_lt h (by decide)

/-! ### expressions in short: the name that stands in the i-th slot -/
section
variable {X : Cx}
theorem pv (i : Nat) {x : Str} {pos : Pos} (hN : X.N[i]? = some x := by rfl) (hv : Vis X.env.scope x := by first | exact Or.inl rfl | exact Or.inr (Or.inl rfl) | exact Or.inr (Or.inr rfl)) (hd : (x == ("__debug__" : Str)) = false := by decide)
    (hcd : (x == ("__classdict__" : Str)) = false := by decide) : PE X (.Name x pos) (tVar i) := pe_var hN hv hd hcd
end

/-! ### tests -/
theorem iteF {A B : Prop} (h : B) : if false = true then A else B := by
  rw [if_neg Bool.false_ne_true]
  exact h
theorem iteT {A B : Prop} (h : A) : if true = true then A else B := by
  rw [if_pos rfl]
  exact h
theorem ite2 {c A B : Prop} [Decidable c] (h1 : c → A) (h2 : ¬ c → B) : if c then A else B := by
  by_cases h : c
  · rw [if_pos h]
    exact h1 h
  · rw [if_neg h]
    exact h2 h
theorem iteNS {c A B : Prop} [Decidable c] (hc : c) (h : B) : if (!decide c) = true then A else B := by
  rw [decide_eq_true hc]
  exact iteF h

/-! ### heaps -/
/-- all that was tracked is as it was -/
def Same (H H' : Hp) : Prop := ∀ b o, H b = some o → H' b = some o
theorem Same.refl (H : Hp) : Same H H := fun _ _ h => h
theorem Same.trans {H H1 H2 : Hp} (a : Same H H1) (b : Same H1 H2) : Same H H2 := fun c o h => b c o (a c o h)
theorem Same.free {H H' : Hp} (e : Same H H') {l : Addr} (h : H' l = Option.none) : H l = Option.none := by
  cases q : H l with
  | none => rfl
  | some o =>
    rw [e l o q] at h
    cases h
theorem Same.seq {K : PySem.W.Frag} {H H' : Hp} {a : Addr} {xs : List V} (e : Same H H') (h : SqL K H a xs) : SqL K H' a xs := by
  rcases h with (h | ⟨o, h⟩) | h
  · exact .inl (.inl (e _ _ h))
  · exact .inl (.inr ⟨o, e _ _ h⟩)
  · exact .inr h

end L2

set_option Elab.async false
set_option linter.all false
set_option maxRecDepth 100000
namespace L2
open PySem PySem.Spec PyProof.Rows

/-! ### lists of pairs as tables -/
section
variable {κ : Type} [DecidableEq κ]
def valV (kvs : List (κ × V)) (k : κ) : Option V := (kvs.find? fun kv => decide (kv.1 = k)).map (·.2)
/-- in its place, or at the end -/
def putK (kvs : List (κ × V)) (k : κ) (v : V) : List (κ × V) :=
  if (kvs.any fun kv => decide (kv.1 = k)) = true then kvs.map (fun kv => if kv.1 = k then (kv.1, v) else kv) else kvs ++ [(k, v)]
def dropK (kvs : List (κ × V)) (k : κ) : List (κ × V) := kvs.filter fun kv => decide (kv.1 ≠ k)

theorem valV_nil {k : κ} : valV ([] : List (κ × V)) k = none := rfl
theorem valV_pos {p : κ × V} {r : List (κ × V)} {k : κ} (e : p.1 = k) : valV (p :: r) k = some p.2 := by simp [valV, List.find?_cons, e]
theorem valV_neg {p : κ × V} {r : List (κ × V)} {k : κ} (e : ¬ p.1 = k) : valV (p :: r) k = valV r k := by simp [valV, List.find?_cons, e]
theorem valV_any (k : κ) : ∀ kvs : List (κ × V), (kvs.any fun kv => decide (kv.1 = k)) = (valV kvs k).isSome
  | [] => rfl
  | p :: r => by
    rw [List.any_cons]
    by_cases e : p.1 = k
    · simp only [valV_pos e, decide_eq_true e, Bool.true_or, Option.isSome_some]
    · rw [valV_neg e, decide_eq_false e, Bool.false_or]; exact valV_any k r
theorem valV_map (k j : κ) (y : V) : ∀ kvs : List (κ × V), valV (kvs.map fun kv => if kv.1 = k then (kv.1, y) else kv) j = (valV kvs j).map fun x => if j = k then y else x
  | [] => rfl
  | p :: r => by
    have ih := valV_map k j y r
    rw [List.map_cons]
    by_cases h : p.1 = k
    · rw [if_pos h]
      by_cases e : p.1 = j
      · rw [valV_pos (p := (p.1, y)) e, valV_pos e, Option.map_some, if_pos (e.symm.trans h)]
      · rw [valV_neg (p := (p.1, y)) e, valV_neg e, ih]
    · rw [if_neg h]
      by_cases e : p.1 = j
      · rw [valV_pos (p := p) e, valV_pos e, Option.map_some, if_neg (fun z => h (e.trans z))]
      · rw [valV_neg (p := p) e, valV_neg e, ih]
theorem valV_snoc (k j : κ) (y : V) : ∀ kvs : List (κ × V), valV kvs k = none → valV (kvs ++ [(k, y)]) j = if j = k then some y else valV kvs j
  | [], _ => by
    by_cases e : k = j
    · rw [if_pos e.symm]; exact valV_pos (p := (k, y)) e
    · rw [if_neg (fun z => e z.symm)]; exact valV_neg (p := (k, y)) e
  | p :: r, hn => by
    rw [List.cons_append]
    have hk : ¬ p.1 = k := fun z => by rw [valV_pos z] at hn; cases hn
    rw [valV_neg hk] at hn
    have ih := valV_snoc k j y r hn
    by_cases e : p.1 = j
    · rw [valV_pos e, valV_pos e, if_neg (fun z => hk (e.trans z))]
    · rw [valV_neg e, valV_neg e, ih]
theorem valV_put (kvs : List (κ × V)) (k j : κ) (y : V) : valV (putK kvs k y) j = if j = k then some y else valV kvs j := by
  unfold putK
  by_cases a : (kvs.any fun kv => decide (kv.1 = k)) = true
  · rw [if_pos a, valV_map]
    rw [valV_any] at a
    by_cases e : j = k
    · obtain ⟨x, hx⟩ := Option.isSome_iff_exists.mp a
      rw [if_pos e, e, hx, Option.map_some, if_pos rfl]
    · rw [if_neg e]
      cases valV kvs j with
      | none => rfl
      | some x => rw [Option.map_some, if_neg e]
  · rw [if_neg a]
    refine valV_snoc k j y kvs ?_
    rw [valV_any] at a
    cases q : valV kvs k with
    | none => rfl
    | some x => rw [q] at a; exact (a rfl).elim
theorem length_putK (kvs : List (κ × V)) (k : κ) (v : V) : (putK kvs k v).length ≤ kvs.length + 1 := by
  unfold putK
  split
  · rw [List.length_map]; omega
  · rw [List.length_append, List.length_cons, List.length_nil]; omega
theorem putK_new {kvs : List (κ × V)} {k : κ} (v : V) (h : valV kvs k = none) : putK kvs k v = kvs ++ [(k, v)] := by
  unfold putK
  rw [valV_any, h]
  exact if_neg (by decide)

theorem RelO.isSome_eq {o : Option V} {u : Option Value} (r : RelO o u) : o.isSome = u.isSome := by
  cases o with
  | none => cases u with
    | none => rfl
    | some _ => exact (show False from r).elim
  | some _ => cases u with
    | none => exact (show False from r).elim
    | some _ => rfl
theorem RelO.getD {o : Option V} {u : Option Value} {d : V} {d' : Value} (r : RelO o u) (rd : RelV d d') : RelV (o.getD d) (u.getD d') := by
  cases o with
  | none => cases u with
    | none => exact rd
    | some _ => exact (show False from r).elim
  | some _ => cases u with
    | none => exact (show False from r).elim
    | some _ => exact r

/-- raw tables of the same keys -/
theorem KV.val {kvs : List (κ × V)} {vs : List (κ × Value)} (r : KV kvs vs) (k : κ) : RelO (valV kvs k) (valueAt vs k) := by
  unfold KV at r
  induction r with
  | nil => exact True.intro
  | @cons p q ps qs h t ih =>
    obtain ⟨h1, h2⟩ := h
    by_cases e : p.1 = k
    · have e' : q.1 = k := h1.symm.trans e
      have b : valueAt (q :: qs) k = some q.2 := by simp [valueAt, List.find?_cons, e']
      rw [valV_pos e, b]; exact h2
    · have e' : ¬ q.1 = k := fun z => e (h1.trans z)
      have b : valueAt (q :: qs) k = valueAt qs k := by simp [valueAt, List.find?_cons, e']
      rw [valV_neg e, b]; exact ih
theorem KV.any {kvs : List (κ × V)} {vs : List (κ × Value)} (r : KV kvs vs) (k : κ) : (kvs.any fun kv => decide (kv.1 = k)) = vs.any fun kv => decide (kv.1 = k) := by
  unfold KV at r
  induction r with
  | nil => rfl
  | cons h t ih => rw [List.any_cons, List.any_cons, ih, h.1]
theorem KV.repl {kvs : List (κ × V)} {vs : List (κ × Value)} (r : KV kvs vs) (k : κ) {y : V} {u : Value} (ry : RelV y u) :
    KV (kvs.map fun kv => if kv.1 = k then (kv.1, y) else kv) (vs.map fun kv => if kv.1 = k then (kv.1, u) else kv) := by
  unfold KV at r ⊢
  induction r with
  | nil => exact .nil
  | @cons p q ps qs h t ih =>
    rw [List.map_cons, List.map_cons]
    refine .cons ?_ ih
    obtain ⟨h1, h2⟩ := h
    by_cases e : p.1 = k
    · rw [if_pos e, if_pos (h1.symm.trans e)]; exact ⟨h1, ry⟩
    · rw [if_neg e, if_neg (fun z => e (h1.trans z))]; exact ⟨h1, h2⟩
theorem KV.put {kvs : List (κ × V)} {vs : List (κ × Value)} (r : KV kvs vs) (k : κ) {y : V} {u : Value} (ry : RelV y u) : KV (putK kvs k y) (stored vs k u) := by
  unfold putK stored
  rw [r.any k]
  by_cases e : (vs.any fun kv => decide (kv.1 = k)) = true
  · rw [if_pos e, if_pos e]; exact r.repl k ry
  · rw [if_neg e, if_neg e]; exact Paired.snoc r ⟨rfl, ry⟩
theorem KV.drop {kvs : List (κ × V)} {vs : List (κ × Value)} (r : KV kvs vs) (k : κ) : KV (dropK kvs k) (without vs k) := by
  unfold KV at r ⊢
  unfold dropK without
  induction r with
  | nil => exact .nil
  | @cons p q ps qs h t ih =>
    obtain ⟨h1, h2⟩ := h
    rw [List.filter_cons, List.filter_cons]
    by_cases e : p.1 = k
    · have a : ¬ decide (p.1 ≠ k) = true := by simp [e]
      have b : ¬ decide (q.1 ≠ k) = true := by simp [h1.symm.trans e]
      rw [if_neg a, if_neg b]; exact ih
    · have e' : ¬ q.1 = k := fun z => e (h1.trans z)
      have a : decide (p.1 ≠ k) = true := by simp [e]
      have b : decide (q.1 ≠ k) = true := by simp [e']
      rw [if_pos a, if_pos b]; exact .cons ⟨h1, h2⟩ ih
theorem KV.keys {kvs : List (κ × V)} {vs : List (κ × Value)} (r : KV kvs vs) : kvs.map (·.1) = vs.map (·.1) := by
  unfold KV at r
  induction r with
  | nil => rfl
  | cons h t ih => rw [List.map_cons, List.map_cons, ih, h.1]
theorem KV.length {kvs : List (κ × V)} {vs : List (κ × Value)} (r : KV kvs vs) : kvs.length = vs.length := Paired.length r
theorem dropK_le (kvs : List (κ × V)) (k : κ) : (dropK kvs k).length ≤ kvs.length := List.length_filter_le _ _
end


/-! ### a tracked dict, its keys ints and texts or tuples of these -/
theorem kV_is {P : Program} {w : World} {k : Key} {u : Value} (r : RelV (kV k) u) : (mixKind P w).is k u = true := by
  cases k with
  | inl i => obtain ⟨t, e⟩ := (show ∃ t, u = Value.int i t from r); subst e; exact mixKind_int P w i t
  | inr x => obtain ⟨t, e⟩ := (show ∃ t, u = Value.str x t from r); subst e; exact mixKind_str P w x t
theorem kV_inj {a b : Key} (e : kV a = kV b) : a = b := by
  cases a with
  | inl i => cases b with
    | inl j => have e' : V.int i = V.int j := e; injection e' with e'; rw [e']
    | inr y => exact nomatch (show V.int i = V.str y from e)
  | inr x => cases b with
    | inl j => exact nomatch (show V.str x = V.int j from e)
    | inr y => have e' : V.str x = V.str y := e; injection e' with e'; rw [e']
theorem kVs_inj : ∀ {a b : List Key}, a.map kV = b.map kV → a = b
  | [], [], _ => rfl
  | [], _ :: _, e => by simp at e
  | _ :: _, [], e => by simp at e
  | x :: xs, y :: ys, e => by
    rw [List.map_cons, List.map_cons] at e
    injection e with e1 e2
    rw [kV_inj e1, kVs_inj e2]
theorem items_are {P : Program} {w : World} : ∀ {ks : List Key} {us : List Value}, Vals (ks.map kV) us → ItemsAre (mixKind P w) ks us
  | [], _, r => by rw [List.map_nil] at r; cases r; exact .nil
  | k :: ks, _, r => by
    rw [List.map_cons] at r
    cases r with
    | cons h t => exact .cons (kV_is h) (items_are t)

/-- raw entries of a dict with tuple keys -/
abbrev KT (H : Hp) : List (List Key × V) → List (List Key × Addr × Value) → Prop := Paired fun p q => p.1 = q.1 ∧ H q.2.1 = some (.tup (p.1.map kV)) ∧ RelV p.2 q.2.2
theorem KT.val {H : Hp} {kvs : List (List Key × V)} {xs : List (List Key × Addr × Value)} (r : KT H kvs xs) (k : List Key) : RelO (valV kvs k) ((atKey xs k).map (·.2)) := by
  induction r with
  | nil => exact True.intro
  | @cons p q ps qs h t ih =>
    obtain ⟨h1, _, h2⟩ := h
    by_cases e : p.1 = k
    · have e' : q.1 = k := h1.symm.trans e
      have b : atKey (q :: qs) k = some q.2 := by simp [atKey, List.find?_cons, e']
      rw [valV_pos e, b]; exact h2
    · have e' : ¬ q.1 = k := fun z => e (h1.trans z)
      have b : atKey (q :: qs) k = atKey qs k := by simp [atKey, List.find?_cons, e']
      rw [valV_neg e, b]; exact ih
theorem KT.repl {H : Hp} {kvs : List (List Key × V)} {xs : List (List Key × Addr × Value)} (r : KT H kvs xs) (k : List Key) {y : V} {u : Value} (ry : RelV y u) :
    KT H (kvs.map fun kv => if kv.1 = k then (kv.1, y) else kv) (xs.map (putAt k u)) := by
  induction r with
  | nil => exact .nil
  | @cons p q ps qs h t ih =>
    rw [List.map_cons, List.map_cons]
    refine .cons ?_ ih
    obtain ⟨h1, h2, h3⟩ := h
    unfold putAt
    by_cases e : p.1 = k
    · rw [if_pos e, if_pos (h1.symm.trans e)]; exact ⟨h1, h2, ry⟩
    · rw [if_neg e, if_neg (fun z => e (h1.trans z))]; exact ⟨h1, h2, h3⟩
theorem KT.put {H : Hp} {kvs : List (List Key × V)} {xs : List (List Key × Addr × Value)} (r : KT H kvs xs) (k : List Key) {b : Addr} {y : V} {u : Value} (hb : H b = some (.tup (k.map kV))) (ry : RelV y u) :
    KT H (putK kvs k y) (storedH xs k b u) := by
  have e : (kvs.any fun kv => decide (kv.1 = k)) = (atKey xs k).isSome := by
    rw [valV_any, (r.val k).isSome_eq, Option.isSome_map]
  unfold putK storedH
  rw [e]
  by_cases q : (atKey xs k).isSome = true
  · rw [if_pos q, if_pos q]; exact r.repl k ry
  · rw [if_neg q, if_neg q]; exact Paired.snoc r ⟨rfl, hb, ry⟩
theorem KT.keeps {H H' : Hp} {kvs : List (List Key × V)} {xs : List (List Key × Addr × Value)} (r : KT H kvs xs) (ht : ∀ b ys, H b = some (.tup ys) → H' b = some (.tup ys)) : KT H' kvs xs :=
  Paired.mapP r fun _ _ z => ⟨z.1, ht _ _ z.2.1, z.2.2⟩

section
variable {P : Program} {w : World} {H : Hp} {h : Heap} {a : Addr}
theorem rd_of {u : HO} (ok : HOk P w H h) (e : Rd H a u) : ObjOk P w H h a u := e.ok ok
theorem dk_rd {kvs : List (Key × V)} (ok : HOk P w H h) (e : Rd H a (.dK kvs)) : kvs.length ≤ sizeLine ∧ (a == sysModules) = false ∧ ∃ vs, KV kvs vs ∧ h.DictOf (mixKind P w) a vs :=
  show ObjOk P w H h a (.dK kvs) from rd_of ok e
theorem dk_of {kvs : List (Key × V)} (ok : HOk P w H h) (e : H a = some (.dK kvs)) : kvs.length ≤ sizeLine ∧ (a == sysModules) = false ∧ ∃ vs, KV kvs vs ∧ h.DictOf (mixKind P w) a vs := dk_rd ok (.inl e)
/-- a tracked tuple of ints and texts is a key -/
theorem key_of {ks : List Key} (ok : HOk P w H h) (e : H a = some (.tup (ks.map kV))) : (tupleKind (mixKind P w)).is h ks a := by
  obtain ⟨_, its, r, o, h1, h2, n, h3⟩ := (show ObjOk P w H h a (.tup (ks.map kV)) from ok a _ e)
  exact ⟨o, its.toArray, n, h1, h2, h3, by simpa using items_are r⟩
theorem dt_rd {kvs : List (List Key × V)} (ok : HOk P w H h) (e : Rd H a (.dT kvs)) : kvs.length ≤ sizeLine ∧ (a == sysModules) = false ∧
    ∃ xs, KT H kvs xs ∧ h.DictOfH (tupleKind (mixKind P w)) a xs := by
  obtain ⟨z, y, xs, r, o, es, ep, h1, h2, h3, h4, h5⟩ := (show ObjOk P w H h a (.dT kvs) from rd_of ok e)
  refine ⟨z, y, xs, r, o, es, ep, h1, h2, h3, h4, fun x hx => ?_, h5⟩
  have all : ∀ {l : List (List Key × V)} {m : List (List Key × Addr × Value)}, KT H l m → ∀ x ∈ m, (tupleKind (mixKind P w)).is h x.1 x.2.1 := by
    intro l m q
    induction q with
    | nil => intro x hx; exact nomatch hx
    | @cons p q ps qs hq t ih =>
      intro x hx
      rcases List.mem_cons.mp hx with e | hx
      · subst e
        exact key_of ok (by rw [← hq.1]; exact hq.2.1)
      · exact ih x hx
  exact all r x hx
theorem dt_of {kvs : List (List Key × V)} (ok : HOk P w H h) (e : H a = some (.dT kvs)) : kvs.length ≤ sizeLine ∧ (a == sysModules) = false ∧
    ∃ xs, KT H kvs xs ∧ h.DictOfH (tupleKind (mixKind P w)) a xs := dt_rd ok (.inl e)
end

/-- what the dict at a holds at the key y -/
def DGet (H : Hp) (a : Addr) (y : V) (r : Option V) : Prop :=
  (∃ kvs k, Rd H a (.dK kvs) ∧ y = kV k ∧ r = valV kvs k) ∨ ∃ kvs k b, Rd H a (.dT kvs) ∧ y = .ref b ∧ H b = some (.tup (k.map kV)) ∧ r = valV kvs k
/-- the heap behind a[y] = v -/
def DPut (H : Hp) (a : Addr) (y v : V) (H' : Hp) : Prop :=
  (∃ kvs k, H a = some (.dK kvs) ∧ y = kV k ∧ kvs.length < sizeLine ∧ H' = upd H a (.dK (putK kvs k v))) ∨
  ∃ kvs k b, H a = some (.dT kvs) ∧ y = .ref b ∧ H b = some (.tup (k.map kV)) ∧ kvs.length < sizeLine ∧ H' = upd H a (.dT (putK kvs k v))
theorem DGet.k {H : Hp} {a : Addr} {kvs : List (Key × V)} {k : Key} (e : H a = some (.dK kvs)) : DGet H a (kV k) (valV kvs k) := .inl ⟨kvs, k, .inl e, rfl, rfl⟩
theorem DGet.t {H : Hp} {a b : Addr} {kvs : List (List Key × V)} {k : List Key} (e : H a = some (.dT kvs)) (eb : H b = some (.tup (k.map kV))) : DGet H a (.ref b) (valV kvs k) := .inr ⟨kvs, k, b, .inl e, rfl, eb, rfl⟩
theorem DPut.k {H : Hp} {a : Addr} {kvs : List (Key × V)} {k : Key} {v : V} (e : H a = some (.dK kvs)) (hl : kvs.length < sizeLine) : DPut H a (kV k) v (upd H a (.dK (putK kvs k v))) := .inl ⟨kvs, k, e, rfl, hl, rfl⟩
theorem DPut.t {H : Hp} {a b : Addr} {kvs : List (List Key × V)} {k : List Key} {v : V} (e : H a = some (.dT kvs)) (eb : H b = some (.tup (k.map kV))) (hl : kvs.length < sizeLine) :
    DPut H a (.ref b) v (upd H a (.dT (putK kvs k v))) := .inr ⟨kvs, k, b, e, rfl, eb, hl, rfl⟩


section
variable {X : Cx} {pins : List (Addr × Obj)} {σ : St} {H : Hp} {s : Shared} {a : Addr} {y v : V} {u r : Value} {o : Option V} {A : Around} {E : Value → Shared → Prop}

theorem Inv.big (I : Inv X pins σ H s) : sysModules < s.heap.objs.size := by
  have h : mainGlobals < s.heap.objs.size := (I.mod.glob.keeps I.bk).lt
  exact Nat.lt_trans (by decide) h

/-- d[y], there -/
theorem d_getItem {Q : Value → Shared → Prop} (hu : A.units + 1 < cLine) (I : Inv X pins σ H s) (g : DGet H a y (some v)) (ry : RelV y u) (h : ∀ w' s', Inv X pins σ H s' → RelV v w' → Q w' s') :
    wpAny (model X.prog X.w) A (getItem (.ref a) u) Q E s := by
  rcases g with ⟨kvs, k, e, ey, l⟩ | ⟨kvs, k, b, e, ey, eb, l⟩
  · subst ey
    obtain ⟨z, hd, vs, rel, dd⟩ := dk_rd I.hok e
    obtain ⟨w', hw, rw'⟩ := RelO.some_of (v := v) (o := valueAt vs k) (by rw [l]; exact rel.val k)
    exact wpAny_getItem_of (kV_is ry) dd.mapOf hw (h w' _ (I.tok _) rw')
  · subst ey
    cases (show u = Value.ref b from ry)
    obtain ⟨z, hd, xs, rel, dd⟩ := dt_rd I.hok e
    obtain ⟨w', hw, rw'⟩ := RelO.some_of (v := v) (o := (atKey xs k).map (·.2)) (by rw [l]; exact rel.val k)
    obtain ⟨p, hp, hp2⟩ := Option.map_eq_some_iff.mp hw
    refine wpAny_getItem_heap (tupleKind_room_in1 hu) (key_of I.hok eb) dd hp ?_
    rw [hp2]
    exact h w' _ (I.tok _) rw'
/-- y in d -/
theorem d_in {Q : Value → Shared → Prop} (hu : A.units + 1 < cLine) (I : Inv X pins σ H s) (g : DGet H a y o) (ry : RelV y u) (h : ∀ s', Inv X pins σ H s' → Q (.bool o.isSome) s') :
    wpAny (model X.prog X.w) A (compareOp .In u (.ref a)) Q E s := by
  rcases g with ⟨kvs, k, e, ey, l⟩ | ⟨kvs, k, b, e, ey, eb, l⟩
  · subst ey
    obtain ⟨z, hd, vs, rel, dd⟩ := dk_rd I.hok e
    refine wpAny_in_of (kV_is ry) hd dd.mapOf ?_
    rw [← (rel.val k).isSome_eq, ← l]
    exact h _ (I.tok _)
  · subst ey
    cases (show u = Value.ref b from ry)
    obtain ⟨z, hd, xs, rel, dd⟩ := dt_rd I.hok e
    refine wpAny_in_heap (tupleKind_room_in1 hu) (key_of I.hok eb) hd dd ?_
    have q := (rel.val k).isSome_eq
    rw [Option.isSome_map] at q
    rw [← q, ← l]
    exact h _ (I.tok _)
theorem d_notIn {Q : Value → Shared → Prop} (hu : A.units + 1 < cLine) (I : Inv X pins σ H s) (g : DGet H a y o) (ry : RelV y u) (h : ∀ s', Inv X pins σ H s' → Q (.bool (!o.isSome)) s') :
    wpAny (model X.prog X.w) A (compareOp .NotIn u (.ref a)) Q E s := by
  rcases g with ⟨kvs, k, e, ey, l⟩ | ⟨kvs, k, b, e, ey, eb, l⟩
  · subst ey
    obtain ⟨z, hd, vs, rel, dd⟩ := dk_rd I.hok e
    refine wpAny_notIn_of (kV_is ry) hd dd.mapOf ?_
    rw [← (rel.val k).isSome_eq, ← l]
    exact h _ (I.tok _)
  · subst ey
    cases (show u = Value.ref b from ry)
    obtain ⟨z, hd, xs, rel, dd⟩ := dt_rd I.hok e
    refine wpAny_notIn_heap (tupleKind_room_in1 hu) (key_of I.hok eb) hd dd ?_
    have q := (rel.val k).isSome_eq
    rw [Option.isSome_map] at q
    rw [← q, ← l]
    exact h _ (I.tok _)
/-- a dict's object is replaced -/
theorem d_write {h' : Heap} {t' : Nat} {ob : HO} (I : Inv X pins σ H s) (mu : Mut (H a)) (hs : Heap.SameBut a s.heap h') (he : ∃ q, h'.get? a = some q) (new : ObjOk X.prog X.w (upd H a ob) h' a ob) :
    Inv X pins σ (upd H a ob) { s with heap := h', toks := t' } :=
  I.write (x := a) (e := a) mu (.inl rfl) (fun b q hb z => (hs.2 b hb).trans z) he new
theorem dk_new {P : Program} {w : World} {H' : Hp} {h' : Heap} {kvs : List (Key × V)} {vs : List (Key × Value)} (z : kvs.length ≤ sizeLine) (hd : (a == sysModules) = false) (rel : KV kvs vs) (dd : h'.DictOf (mixKind P w) a vs) :
    ObjOk P w H' h' a (.dK kvs) := ⟨z, hd, vs, rel, dd⟩
/-- d[y] = v -/
theorem d_setItem {H' : Hp} {Q : Unit → Shared → Prop} (hu : A.units + 1 < cLine) (I : Inv X pins σ H s) (g : DPut H a y v H') (ry : RelV y u) (rv : RelV v r) (h : ∀ s', Inv X pins σ H' s' → Q () s') :
    wpAny (model X.prog X.w) A (setItem (.ref a) u r) Q E s := by
  rcases g with ⟨kvs, k, e, ey, l, eH⟩ | ⟨kvs, k, b, e, ey, eb, l, eH⟩
  · subst ey eH
    obtain ⟨z, hd, vs, rel, dd⟩ := dk_of I.hok e
    have hz : vs.length ≤ sizeLine := by rw [← rel.length]; exact z
    have hl : (putK kvs k v).length ≤ sizeLine := by have := length_putK kvs k v; omega
    refine wpAny_setItem_pairs (hsz := hz) (kV_is ry) dd fun h' dd' hs => h _ ?_
    have he : ∃ q, h'.get? a = some q := let ⟨q, _, _, hq, _⟩ := dd'; ⟨q, hq⟩
    exact d_write I (by rw [e]; exact True.intro) hs he (dk_new hl hd (rel.put k rv) dd')
  · subst ey eH
    cases (show u = Value.ref b from ry)
    obtain ⟨z, hd, xs, rel, dd⟩ := dt_of I.hok e
    have hz : xs.length ≤ sizeLine := by rw [← Paired.length rel]; exact z
    have hl : (putK kvs k v).length ≤ sizeLine := by have := length_putK kvs k v; omega
    refine wpAny_setItem_heap (hsz := hz) (tupleKind_room_in1 hu) (key_of I.hok eb) dd fun h' dd' hs => h _ ?_
    obtain ⟨q, es, ep, hq, h2, h3, h4, _, h5⟩ := dd'
    refine d_write I (by rw [e]; exact True.intro) hs ⟨q, hq⟩ ⟨hl, hd, _, (rel.put k eb rv).keeps fun c ys ec => ?_, q, es, ep, hq, h2, h3, h4, h5⟩
    rw [upd_ne (ne_of ec e (fun z => nomatch z))]
    exact ec
end

section
variable {X : Cx} {pins : List (Addr × Obj)} {σ : St} {H : Hp} {s : Shared} {a : Addr} {kvs : List (Key × V)} {k : Key} {u : Value} {A : Around} {E : Value → Shared → Prop}
/-- del d[k] -/
theorem d_delItem {Q : Unit → Shared → Prop} (I : Inv X pins σ H s) (e : H a = some (.dK kvs)) (ry : RelV (kV k) u) (l : (valV kvs k).isSome = true) (h : ∀ s', Inv X pins σ (upd H a (.dK (dropK kvs k))) s' → Q () s') :
    wpAny (model X.prog X.w) A (delItem (.ref a) u) Q E s := by
  obtain ⟨z, hd, vs, rel, dd⟩ := dk_of I.hok e
  refine wpAny_delItem_slot dd.typeIs (by decide) PySem.F.slot_dict_delitem
    (call_meetsIn PySem.F.slot_dict_delitem dd.typeIs PySem.F.entry_dict_delitem (PySem.F.args_dict_delitem_2 _ _) (meets_dict_delitem_pairs (mixKind X.prog X.w) a (kV_is ry)) ⟨vs, dd, by rw [← rel.length]; exact z, by rw [← (rel.val k).isSome_eq]; exact l, fun h' dd' hs => h _ ?_⟩)
  have he : ∃ q, h'.get? a = some q := let ⟨q, _, _, hq, _⟩ := dd'; ⟨q, hq⟩
  exact d_write I (by rw [e]; exact True.intro) hs he (dk_new (Nat.le_trans (dropK_le kvs k) z) hd (rel.drop k) dd')
/-- d.pop(k[, x]), there -/
theorem d_pop {v : V} {more : List Value} {Q : Value → Shared → Prop} (I : Inv X pins σ H s) (e : H a = some (.dK kvs)) (ry : RelV (kV k) u) (l : valV kvs k = some v) (hm : more = [] ∨ ∃ x, more = [x])
    (h : ∀ w' s', Inv X pins σ (upd H a (.dK (dropK kvs k))) s' → RelV v w' → Q w' s') : wpAny (model X.prog X.w) A (call (.builtin "dict.pop") (.ref a :: u :: more)) Q E s := by
  obtain ⟨z, hd, vs, rel, dd⟩ := dk_of I.hok e
  obtain ⟨w', hw, rw'⟩ := RelO.some_of (v := v) (o := valueAt vs k) (by rw [← l]; exact rel.val k)
  have hp : (keyPart u).isSome = true := by
    cases k with
    | inl i => obtain ⟨t, q⟩ := (show ∃ t, u = Value.int i t from ry); subst q; rfl
    | inr x => obtain ⟨t, q⟩ := (show ∃ t, u = Value.str x t from ry); subst q; rfl
  have ha : argsOk "dict.pop" ⟨.ref a :: u :: more, []⟩ := by
    rcases hm with q | ⟨x, q⟩
    · subst q; exact PySem.F.args_dict_pop_2 _ _
    · subst q; exact PySem.F.args_dict_pop_3 _ _ _
  refine call_meetsIn PySem.F.slot_dict_pop dd.typeIs PySem.F.entry_dict_pop ha (meets_dict_pop_there (mixKind X.prog X.w) a (kV_is ry) more hm hp)
    ⟨vs, w', dd, by rw [← rel.length]; exact z, hw, fun h' dd' hs => h w' _ ?_ rw'⟩
  have he : ∃ q, h'.get? a = some q := let ⟨q, _, _, hq, _⟩ := dd'; ⟨q, hq⟩
  exact d_write I (by rw [e]; exact True.intro) hs he (dk_new (Nat.le_trans (dropK_le kvs k) z) hd (rel.drop k) dd')
/-- d.pop(k, x), not there -/
theorem d_popD {r : Value} {Q : Value → Shared → Prop} (I : Inv X pins σ H s) (e : H a = some (.dK kvs)) (ry : RelV (kV k) u) (l : valV kvs k = none) (h : ∀ s', Inv X pins σ H s' → Q r s') :
    wpAny (model X.prog X.w) A (call (.builtin "dict.pop") [.ref a, u, r]) Q E s := by
  obtain ⟨z, hd, vs, rel, dd⟩ := dk_of I.hok e
  have hn : valueAt vs k = none := RelO.none_of (by rw [← l]; exact rel.val k)
  have hp : (keyPart u).isSome = true := by
    cases k with
    | inl i => obtain ⟨t, q⟩ := (show ∃ t, u = Value.int i t from ry); subst q; rfl
    | inr x => obtain ⟨t, q⟩ := (show ∃ t, u = Value.str x t from ry); subst q; rfl
  exact call_meetsIn PySem.F.slot_dict_pop dd.typeIs PySem.F.entry_dict_pop (PySem.F.args_dict_pop_3 _ _ _) (meets_dict_pop_default (mixKind X.prog X.w) a (kV_is ry) hd hp r) ⟨vs, dd, hn, h _ (I.tok _)⟩
/-- d.clear() -/
theorem d_clear {Q : Value → Shared → Prop} (I : Inv X pins σ H s) (e : H a = some (.dK kvs)) (h : ∀ s', Inv X pins σ (upd H a (.dK [])) s' → Q .none s') : wpAny (model X.prog X.w) A (call (.builtin "dict.clear") [.ref a]) Q E s := by
  obtain ⟨z, hd, vs, rel, dd⟩ := dk_of I.hok e
  refine call_meetsIn PySem.F.slot_dict_clear dd.typeIs PySem.F.entry_dict_clear (PySem.F.args_dict_clear_1 _) (meets_dict_clear (mixKind X.prog X.w) a) ⟨vs, dd, by rw [← rel.length]; exact z, fun h' dd' hs => h _ ?_⟩
  have he : ∃ q, h'.get? a = some q := let ⟨q, _, _, hq, _⟩ := dd'; ⟨q, hq⟩
  exact d_write (t' := s.toks) I (by rw [e]; exact True.intro) hs he (dk_new (Nat.zero_le _) hd .nil dd')
/-- len(d) -/
theorem d_len {Q : Value → Shared → Prop} (I : Inv X pins σ H s) (e : Rd H a (.dK kvs)) (h : ∀ t s', Inv X pins σ H s' → Q (.int kvs.length t) s') : wpAny (model X.prog X.w) A (call (.builtin "len") [.ref a]) Q E s := by
  obtain ⟨z, hd, vs, rel, dd⟩ := dk_rd I.hok e
  refine call_len_dict hd dd (by rw [← rel.length]; rw [sizeLine_eq] at z; omega) ?_
  rw [← rel.length]
  exact h _ _ (I.tok _)
/-- if d -/
theorem d_truth {Q : Bool → Shared → Prop} (I : Inv X pins σ H s) (e : Rd H a (.dK kvs)) (h : ∀ s', Inv X pins σ H s' → Q (!kvs.isEmpty) s') : wpAny (model X.prog X.w) A (truthy (.ref a)) Q E s := by
  obtain ⟨z, hd, vs, rel, dd⟩ := dk_rd I.hok e
  refine wpAny_truthy_dict hd dd (by rw [← rel.length]; rw [sizeLine_eq] at z; omega) ?_
  have q : kvs.isEmpty = vs.isEmpty := by cases rel <;> rfl
  rw [← q]
  exact h _ (I.tok _)
end


/-! ### readings and rules -/
/-- the element of a subscription, not a slice -/
def NoSl (i : Expr) : Prop := ∀ ov iv, subscripted i false ov iv = operate [ov, iv] (getItem ov iv)
theorem subD_of {prog : Program} {w : World} {A : Around} {E : Value → Shared → Prop} {s : Shared} {env : Env} {value slice : Expr} {pos : Pos} {T id : String} {Q : Value → Shared → Prop}
    (hl : typeLookup (.type T) "__getitem__" = pure (some (.builtin id))) (hs : NoSl slice)
    (h : wpAny (model prog w) A (eval value env) (fun o s₁ => wpAny (model prog w) A (eval slice env) (fun i s₂ => s₂.TypeIs o T ∧ wpAny (model prog w) A (getItem o i) Q E s₂) E s₁) E s) :
    wpAny (model prog w) A (eval (.Subscript value slice pos) env) Q E s := by
  refine Subscript_ (wpAny_mono h (fun o s₁ h₁ => wpAny_mono h₁ (fun i s₂ h₂ => ?_) fun _ _ x => x) fun _ _ x => x)
  obtain ⟨hT, h₂⟩ := h₂
  unfold subscriptTail
  refine wpAny_bind ?_
  rw [getitemInPython_of_ne hT.not_modules]
  refine wpAny_bind (wpAny_specialOf hT hl ?_)
  have fin : wpAny (model prog w) A (subscripted slice false o i) (fun r s₃ => wpAny (model prog w) A (letTemporaryGo value o r >>= fun _ => pure r) Q E s₃) E s₂ := by
    rw [hs o i]
    exact wpAny_operating (wpAny_mono h₂ (fun r s₃ h₃ => wpAny_bind (wpAny_letTemporaryGo (wpAny_pure h₃))) fun _ _ x => x)
  first
    | exact wpAny_pure (wpAny_bind fin)
    | exact wpAny_bind (wpAny_pure (wpAny_bind fin))
    | exact wpAny_bind fin

theorem dict_typeIs {X : Cx} {pins : List (Addr × Obj)} {σ : St} {H : Hp} {s : Shared} {a : Addr} {y : V} {o : Option V} (I : Inv X pins σ H s) (g : DGet H a y o) : s.TypeIs (.ref a) "dict" := by
  rcases g with ⟨kvs, k, e, _, _⟩ | ⟨kvs, k, b, e, _, _, _⟩
  · obtain ⟨_, _, vs, _, dd⟩ := dk_rd I.hok e
    exact dd.typeIs
  · obtain ⟨_, _, xs, _, dd⟩ := dt_rd I.hok e
    exact dd.typeIs
theorem dict_noDict {X : Cx} {pins : List (Addr × Obj)} {σ : St} {H : Hp} {s : Shared} {a : Addr} {y : V} {o : Option V} (I : Inv X pins σ H s) (g : DGet H a y o) :
    ∀ b, Value.ref a = .ref b → ∃ ob, s.heap.get? b = some ob ∧ ob.dict = none := fun b q => by
  cases q
  rcases g with ⟨kvs, k, e, _, _⟩ | ⟨kvs, k, b, e, _, _, _⟩
  · obtain ⟨_, _, vs, _, ob, _, _, h1, h2, _⟩ := dk_rd I.hok e
    exact ⟨ob, h1, h2.2.1⟩
  · obtain ⟨_, _, xs, _, ob, _, _, h1, h2, _⟩ := dt_rd I.hok e
    exact ⟨ob, h1, h2.2.1⟩

/-- d[y] -/
def tDGet (td ty : TE) : TE := fun σ H Q => td σ H fun x H1 => ty σ H1 fun y H2 => ∃ a v, x = .ref a ∧ DGet H2 a y (some v) ∧ Q v H2
/-- y in d, y not in d -/
def tDIn (ty td : TE) : TE := fun σ H Q => ty σ H fun y H1 => td σ H1 fun x H2 => ∃ a o, x = .ref a ∧ DGet H2 a y o ∧ Q (.bl o.isSome) H2
def tDNotIn (ty td : TE) : TE := fun σ H Q => ty σ H fun y H1 => td σ H1 fun x H2 => ∃ a o, x = .ref a ∧ DGet H2 a y o ∧ Q (.bl (!o.isSome)) H2
/-- d[y] = v -/
def sDPut (td ty tv : TE) : TS := fun D σ H => tv σ H fun v H1 => td σ H1 fun x H2 => ty σ H2 fun y H3 => ∃ a H4, x = .ref a ∧ DPut H3 a y v H4 ∧ D.nx σ H4
/-- d[y] op= v -/
def sDAug (td ty tv : TE) (rd : V → V → Hp → VK → Prop) : TS := fun D σ H => td σ H fun x H1 => ty σ H1 fun y H2 => ∃ a v, x = .ref a ∧ DGet H2 a y (some v) ∧
  tv σ H2 fun y2 H3 => rd v y2 H3 fun z H4 => ∃ H5, DPut H4 a y z H5 ∧ D.nx σ H5
/-- del d[y] -/
def sDDel (td ty : TE) : TS := fun D σ H => td σ H fun x H1 => ty σ H1 fun y H2 => ∃ a kvs k, x = .ref a ∧ H2 a = some (.dK kvs) ∧ y = kV k ∧ (valV kvs k).isSome = true ∧ D.nx σ (upd H2 a (.dK (dropK kvs k)))

section
variable {X : Cx} {o i e value : Expr} {pos pos' tpos : Pos} {td ty tv : TE}
theorem pe_dget (hu : X.A.units + 1 < cLine) (ho : PE X o td) (hi : PE X i ty) (hs : NoSl i) : PE X (.Subscript o i pos) (tDGet td ty) := by
  intro pins s σ H Q I h
  refine subD_of PySem.F.slot_dict_getitem.lookup hs (thn (ho pins s σ H _ I h) fun u s1 ⟨x, H1, I1, rx, q1⟩ => thn (hi pins s1 σ H1 _ I1 q1) fun iv s2 ⟨y, H2, I2, ry, a, v, ex, g, q2⟩ => ?_)
  subst ex
  obtain rfl : u = Value.ref a := rx
  exact ⟨dict_typeIs I2 g, d_getItem hu I2 g ry fun w' s3 I3 rw' => ⟨v, H2, I3, rw', q2⟩⟩
theorem pc_din (hu : X.A.units + 1 < cLine) (hi : PE X i ty) (ho : PE X o td) : PC X .In i o (tDIn ty td) := by
  intro pins s σ H Q I h
  refine thn (hi pins s σ H _ I h) fun iv s1 ⟨y, H1, I1, ry, q1⟩ => thn (ho pins s1 σ H1 _ I1 q1) fun u s2 ⟨x, H2, I2, rx, a, ov, ex, g, q2⟩ => ?_
  subst ex
  obtain rfl : u = Value.ref a := rx
  exact d_in hu I2 g ry fun s3 I3 => ⟨.bl ov.isSome, H2, I3, rfl, q2⟩
theorem pc_dnotin (hu : X.A.units + 1 < cLine) (hi : PE X i ty) (ho : PE X o td) : PC X .NotIn i o (tDNotIn ty td) := by
  intro pins s σ H Q I h
  refine thn (hi pins s σ H _ I h) fun iv s1 ⟨y, H1, I1, ry, q1⟩ => thn (ho pins s1 σ H1 _ I1 q1) fun u s2 ⟨x, H2, I2, rx, a, ov, ex, g, q2⟩ => ?_
  subst ex
  obtain rfl : u = Value.ref a := rx
  exact d_notIn hu I2 g ry fun s3 I3 => ⟨.bl (!ov.isSome), H2, I3, rfl, q2⟩
theorem ps_dput (hu : X.A.units + 1 < cLine) (ho : PE X o td) (hi : PE X i ty) (hv : PE X value tv) (hs : swapsWith value (some (.Subscript o i pos')) pos.line X.env = pure false) :
    PS X (.Assign [.Subscript o i pos'] value pos) (sDPut td ty tv) := by
  intro pins s σ H D I h
  refine wpAny_Assign_Subscript (thn (hv pins s σ H _ I h) fun r s1 ⟨v, H1, I1, rv, q1⟩ => thn (ho pins s1 σ H1 _ I1 q1) fun u s2 ⟨x, H2, I2, rx, q2⟩ => thn (hi pins s2 σ H2 _ I2 q2) fun iv s3 ⟨y, H3, I3, ry, a, H4, ex, g, q3⟩ => ?_) hs
  subst ex
  obtain rfl : u = Value.ref a := rx
  exact d_setItem hu I3 g ry rv fun s4 I4 => ⟨σ, H4, I4, q3⟩
theorem ps_daug {op : Operator} {rd : V → V → Hp → VK → Prop} (hu : X.A.units + 1 < cLine) (ho : PE X o td) (hi : PE X i ty) (hv : PE X value tv) (hop : InOp X op rd)
    (ha : ∀ ov iv new, augStore i ov iv new = (do holding [new, ov, iv] (setItem ov iv new); release [new, ov, iv] []; pure .next)) : PS X (.AugAssign (.Subscript o i tpos) op value pos) (sDAug td ty tv rd) := by
  intro pins s σ H D I h
  refine wpAny_AugAssign_SubscriptAny (thn (ho pins s σ H _ I h) fun u s1 ⟨x, H1, I1, rx, q1⟩ => thn (hi pins s1 σ H1 _ I1 q1) fun iv s2 ⟨y, H2, I2, ry, a, v, ex, g, q2⟩ => ?_) ha
  subst ex
  obtain rfl : u = Value.ref a := rx
  refine d_getItem hu I2 g ry fun w' s3 I3 rw' => thn (hv pins s3 σ H2 _ I3 q2) fun w2 s4 ⟨y2, H3, I4, ry2, q3⟩ => thn (hop pins s4 σ H3 v y2 w' w2 _ I4 rw' ry2 q3) fun w3 s5 ⟨z, H4, I5, rz, H5, g5, q4⟩ => ?_
  exact d_setItem hu I5 g5 ry rz fun s6 I6 => ⟨σ, H5, I6, q4⟩
theorem ps_ddel (ho : PE X o td) (hi : PE X i ty) : PS X (.Delete [.Subscript o i tpos] pos) (sDDel td ty) := by
  intro pins s σ H D I h
  refine wpAny_Delete (wpAny_deleteEach_cons (wpAny_delete_Subscript (thn (ho pins s σ H _ I h) fun u s1 ⟨x, H1, I1, rx, q1⟩ => thn (hi pins s1 σ H1 _ I1 q1) fun iv s2 ⟨y, H2, I2, ry, a, kvs, k, ex, e, ey, l, q2⟩ => ?_)))
  subst ex ey
  obtain rfl : u = Value.ref a := rx
  exact d_delItem I2 e ry l fun s3 I3 => wpAny_deleteEach_nil ⟨σ, _, I3, q2⟩
end


/-! ### displays -/
theorem dk_empty {P : Program} {w : World} {H : Hp} (h : Heap) (hb : sysModules < h.objs.size) : ObjOk P w H (h.push { cls := .type "dict", data := .dict #[] }) h.objs.size (.dK []) :=
  ⟨Nat.zero_le _, beq_eq_false_iff_ne.mpr (Ne.symm (Nat.ne_of_lt hb)), [], .nil, Heap.DictOf.new h⟩
theorem dt_empty {P : Program} {w : World} {H : Hp} (h : Heap) (hb : sysModules < h.objs.size) : ObjOk P w H (h.push { cls := .type "dict", data := .dict #[] }) h.objs.size (.dT []) :=
  ⟨Nat.zero_le _, beq_eq_false_iff_ne.mpr (Ne.symm (Nat.ne_of_lt hb)), [], .nil, _, #[], 0, Heap.get?_push_size _ rfl, ⟨rfl, rfl, rfl⟩, rfl, rfl, List.nodup_nil⟩
/-- {}, to be a dict of the kind that is wanted -/
def tDNewK : TE := fun _ H Q => ∀ p, H p = none → Q (.ref p) (upd H p (.dK []))
def tDNewT : TE := fun _ H Q => ∀ p, H p = none → Q (.ref p) (upd H p (.dT []))
section
variable {X : Cx} {pos : Pos}
theorem pe_dnewK : PE X (.Dict [] [] pos) tDNewK := fun pins s σ H Q I h =>
  wpAny_Dict_empty ⟨.ref s.heap.objs.size, _, I.laid (a := s.heap.objs.size) (o := .dK []) (t' := s.toks) (fun _ _ q => Heap.get?_push_of_some _ q) (Nat.le_refl _) (dk_empty s.heap I.big), rfl, h _ (I.hok.fresh (Nat.le_refl _))⟩
theorem pe_dnewT : PE X (.Dict [] [] pos) tDNewT := fun pins s σ H Q I h =>
  wpAny_Dict_empty ⟨.ref s.heap.objs.size, _, I.laid (a := s.heap.objs.size) (o := .dT []) (t' := s.toks) (fun _ _ q => Heap.get?_push_of_some _ q) (Nat.le_refl _) (dt_empty s.heap I.big), rfl, h _ (I.hok.fresh (Nat.le_refl _))⟩
end

/-- the pairs of a display, from the left -/
def tPairs : List (TE × TE) → St → Hp → (List (V × V) → Hp → Prop) → Prop
  | [], _, H, Q => Q [] H
  | (tk, tv) :: r, σ, H, Q => tk σ H fun x H1 => tv σ H1 fun y H2 => tPairs r σ H2 fun ps H3 => Q ((x, y) :: ps) H3
abbrev VV : List (V × V) → List (Value × Value) → Prop := Paired fun p q => RelV p.1 q.1 ∧ RelV p.2 q.2
def PPs (X : Cx) (pos : Pos) (keys : List (Option Expr)) (values : List Expr) (trs : List (TE × TE)) : Prop :=
  ∀ (pins : List (Addr × Obj)) (s : Shared) (σ : St) (H : Hp) (Q : List (V × V) → Hp → Prop), Inv X pins σ H s → tPairs trs σ H Q →
    wpAny (model X.prog X.w) X.A (evalPairs (pairTrees keys values X.env pos)) (fun vs s' => ∃ ps H', Inv X pins σ H' s' ∧ VV ps vs ∧ Q ps H') X.xe s
theorem pps_nil {X : Cx} {pos : Pos} : PPs X pos [] [] [] := fun pins s σ H Q I h => pairTrees_nil_walk ⟨[], H, I, .nil, h⟩
theorem pps_cons {X : Cx} {pos : Pos} {k v : Expr} {ks : List (Option Expr)} {vs : List Expr} {tk tv : TE} {trs : List (TE × TE)} (hk : PE X k tk) (hv : PE X v tv) (hr : PPs X pos ks vs trs) :
    PPs X pos (some k :: ks) (v :: vs) ((tk, tv) :: trs) := fun pins s σ H Q I h =>
  pairTrees_cons_walk (thn (hk pins s σ H _ I h) fun u s1 ⟨x, H1, I1, rx, q1⟩ => thn (hv pins s1 σ H1 _ I1 q1) fun w2 s2 ⟨y, H2, I2, ry, q2⟩ =>
    thn (hr pins s2 σ H2 _ I2 q2) fun ws s3 ⟨ps, H3, I3, rel, q3⟩ => ⟨(x, y) :: ps, H3, I3, .cons ⟨rx, ry⟩ rel, q3⟩)

def mergeK (kvs more : List (Key × V)) : List (Key × V) := more.foldl (fun acc kv => putK acc kv.1 kv.2) kvs
theorem KV.merge : ∀ {more : List (Key × V)} {rs : List (Key × Value)} {kvs : List (Key × V)} {vs : List (Key × Value)}, KV more rs → KV kvs vs → KV (mergeK kvs more) (merged vs rs) := by
  intro more rs kvs vs r
  unfold KV at r
  induction r generalizing kvs vs with
  | nil => intro q; exact q
  | @cons p q ps qs h t ih =>
    intro r0
    have e : KV (putK kvs p.1 p.2) (stored vs q.1 q.2) := by
      have := r0.put p.1 h.2
      rw [← h.1]; exact this
    exact ih e
theorem length_mergeK : ∀ (more kvs : List (Key × V)), (mergeK kvs more).length ≤ kvs.length + more.length
  | [], kvs => by show kvs.length ≤ kvs.length + 0; omega
  | p :: r, kvs => by
    have h1 := length_mergeK r (putK kvs p.1 p.2)
    have h2 := length_putK kvs p.1 p.2
    show (mergeK (putK kvs p.1 p.2) r).length ≤ _
    rw [List.length_cons]; omega
theorem carries_of {P : Program} {w : World} : ∀ {kvs : List (Key × V)} {ws : List (Value × Value)}, VV (kvs.map fun kv => (kV kv.1, kv.2)) ws → ∃ rs, Carries (mixKind P w) ws rs ∧ KV kvs rs
  | [], _, r => by rw [List.map_nil] at r; cases r; exact ⟨[], True.intro, .nil⟩
  | p :: kvs, _, r => by
    rw [List.map_cons] at r
    cases r with
    | @cons a b as bs h t =>
      obtain ⟨rs, c, q⟩ := carries_of (P := P) (w := w) t
      obtain ⟨b1, b2⟩ := b
      exact ⟨(p.1, b2) :: rs, ⟨kV_is h.1, rfl, c⟩, .cons ⟨rfl, h.2⟩ q⟩
/-- {k: v, ..} with keys ints and texts; the new dict stands empty while the pairs are made -/
def tDisp (trs : List (TE × TE)) : TE := fun σ H Q => ∀ p, H p = none → tPairs trs σ (upd H p (.dK [])) fun ps H2 => H2 p = some (.dK []) ∧ ∃ kvs : List (Key × V), ps = kvs.map (fun kv => (kV kv.1, kv.2)) ∧ kvs.length ≤ 15 ∧ Q (.ref p) (upd H2 p (.dK (mergeK [] kvs)))
theorem pe_disp {X : Cx} {pos : Pos} {keys : List (Option Expr)} {values : List Expr} {trs : List (TE × TE)} (h : PPs X pos keys values trs) (hall : keys.all (·.isSome) = true) (hl : keys.length = values.length) (h0 : keys ≠ [])
    (h15 : keys.length ≤ 15) : PE X (.Dict keys values pos) (tDisp trs) := by
  intro pins s σ H Q I q
  have hn := I.hok.fresh (Nat.le_refl s.heap.objs.size)
  have I1 := I.laid (a := s.heap.objs.size) (o := .dK []) (h' := s.heap.push { cls := .type "dict", data := .dict #[] }) (t' := s.toks) (fun _ _ q => Heap.get?_push_of_some _ q) (Nat.le_refl _) (dk_empty s.heap I.big)
  refine wpAny_Dict_walk (knd := mixKind X.prog X.w) hall hl h0 h15 (thn (h pins _ σ _ _ I1 (q _ hn)) fun ws s2 ⟨ps, H2, I2, rel, e, kvs, ep, lk, q2⟩ => ?_)
  subst ep
  obtain ⟨rs, c, rk⟩ := carries_of (P := X.prog) (w := X.w) rel
  obtain ⟨z, hd, vs0, r0, dd⟩ := dk_of I2.hok e
  cases r0
  refine ⟨rs, c, dd, fun h' dd' hs => ⟨.ref s.heap.objs.size, _, ?_, rfl, q2⟩⟩
  have hz : (mergeK [] kvs).length ≤ sizeLine := by
    have h1 := length_mergeK kvs []
    rw [List.length_nil] at h1
    rw [sizeLine_eq]; omega
  have he : ∃ q, h'.get? s.heap.objs.size = some q := let ⟨q, _, _, hq, _⟩ := dd'; ⟨q, hq⟩
  exact d_write I2 (by rw [e]; exact True.intro) hs he (dk_new hz hd (rk.merge .nil) dd')


/-! ### methods -/
/-- a method call o.m(e) of a built-in, with one argument: what must be seen of the text -/
structure M1 (X : Cx) (o : Expr) (m : Str) (apos : Pos) (e : Expr) (cpos : Pos) : Prop where
  base : attributeBase o m X.env (eval o X.env) = eval o X.env
  few : ((backTo cpos (starEach [e] X.env)).all (fun x => !x.1) && (backToKw cpos (keywordEach [] X.env)).all (fun x => x.1.isSome)
    && decide (([e] : List Expr).length + ([] : List Keyword).length + (if ([] : List Keyword).isEmpty then 0 else 1) < 30)) = true
  line : (apos.endLine == cpos.line) = true
  trees : backTo cpos (starEach [e] X.env) = [(false, eval e X.env)]
structure M2 (X : Cx) (o : Expr) (m : Str) (apos : Pos) (e f : Expr) (cpos : Pos) : Prop where
  base : attributeBase o m X.env (eval o X.env) = eval o X.env
  few : ((backTo cpos (starEach [e, f] X.env)).all (fun x => !x.1) && (backToKw cpos (keywordEach [] X.env)).all (fun x => x.1.isSome)
    && decide (([e, f] : List Expr).length + ([] : List Keyword).length + (if ([] : List Keyword).isEmpty then 0 else 1) < 30)) = true
  line : (apos.endLine == cpos.line) = true
  trees : backTo cpos (starEach [e, f] X.env) = [(false, eval e X.env), (false, eval f X.env)]

/-- a is a dict, whatever its keys -/
def IsD (H : Hp) (a : Addr) : Prop := (∃ kvs, Rd H a (.dK kvs)) ∨ ∃ kvs, Rd H a (.dT kvs)
theorem isD_at {X : Cx} {pins : List (Addr × Obj)} {σ : St} {H : Hp} {s : Shared} {a : Addr} (I : Inv X pins σ H s) (d : IsD H a) :
    s.TypeIs (.ref a) "dict" ∧ (∀ b, Value.ref a = .ref b → ∃ ob, s.heap.get? b = some ob ∧ ob.dict = none) ∧ (a == sysModules) = false := by
  rcases d with ⟨kvs, e⟩ | ⟨kvs, e⟩
  · obtain ⟨_, hd, vs, _, dd⟩ := dk_rd I.hok e
    refine ⟨dd.typeIs, fun b q => ?_, hd⟩
    cases q
    obtain ⟨ob, _, _, h1, h2, _⟩ := dd
    exact ⟨ob, h1, h2.2.1⟩
  · obtain ⟨_, hd, xs, _, dd⟩ := dt_rd I.hok e
    refine ⟨dd.typeIs, fun b q => ?_, hd⟩
    cases q
    obtain ⟨ob, _, _, h1, h2, _⟩ := dd
    exact ⟨ob, h1, h2.2.1⟩

section
variable {X : Cx} {pins : List (Addr × Obj)} {σ : St} {H : Hp} {s : Shared} {a : Addr} {y d : V} {u r : Value} {o : Option V} {A : Around} {E : Value → Shared → Prop}
/-- d.get(y) -/
theorem d_get1 {Q : Value → Shared → Prop} (hu : A.units + 1 < cLine) (I : Inv X pins σ H s) (g : DGet H a y o) (ry : RelV y u) (h : ∀ w' s', Inv X pins σ H s' → RelV (o.getD .non) w' → Q w' s') :
    wpAny (model X.prog X.w) A (call (.builtin "dict.get") [.ref a, u]) Q E s := by
  rcases g with ⟨kvs, k, e, ey, l⟩ | ⟨kvs, k, b, e, ey, eb, l⟩
  · subst ey
    obtain ⟨z, hd, vs, rel, dd⟩ := dk_rd I.hok e
    refine call_meetsIn PySem.F.slot_dict_get dd.typeIs PySem.F.entry_dict_get (PySem.F.args_dict_get_2 _ _) (meets_dict_get (mixKind X.prog X.w) a (kV_is ry) hd) ⟨_, dd.mapOf, h _ _ (I.tok _) ?_⟩
    rw [l]
    exact (rel.val k).getD rfl
  · subst ey
    cases (show u = Value.ref b from ry)
    obtain ⟨z, hd, xs, rel, dd⟩ := dt_rd I.hok e
    refine call_meetsIn PySem.F.slot_dict_get dd.typeIs PySem.F.entry_dict_get (PySem.F.args_dict_get_2 _ _) (meetsH_dict_get (tupleKind (mixKind X.prog X.w)) a b hd) ⟨tupleKind_room_in1 hu, k, xs, key_of I.hok eb, dd, h _ _ (I.tok _) ?_⟩
    rw [l]
    exact (rel.val k).getD rfl
/-- d.get(y, x) -/
theorem d_get2 {Q : Value → Shared → Prop} (hu : A.units + 1 < cLine) (I : Inv X pins σ H s) (g : DGet H a y o) (ry : RelV y u) (rd : RelV d r) (h : ∀ w' s', Inv X pins σ H s' → RelV (o.getD d) w' → Q w' s') :
    wpAny (model X.prog X.w) A (call (.builtin "dict.get") [.ref a, u, r]) Q E s := by
  rcases g with ⟨kvs, k, e, ey, l⟩ | ⟨kvs, k, b, e, ey, eb, l⟩
  · subst ey
    obtain ⟨z, hd, vs, rel, dd⟩ := dk_rd I.hok e
    refine call_meetsIn PySem.F.slot_dict_get dd.typeIs PySem.F.entry_dict_get (PySem.F.args_dict_get_3 _ _ _) (meets_dict_get_default (mixKind X.prog X.w) a (kV_is ry) hd r) ⟨_, dd.mapOf, h _ _ (I.tok _) ?_⟩
    rw [l]
    exact (rel.val k).getD rd
  · subst ey
    cases (show u = Value.ref b from ry)
    obtain ⟨z, hd, xs, rel, dd⟩ := dt_rd I.hok e
    refine call_meetsIn PySem.F.slot_dict_get dd.typeIs PySem.F.entry_dict_get (PySem.F.args_dict_get_3 _ _ _) (meetsH_dict_get_default (tupleKind (mixKind X.prog X.w)) a b hd r) ⟨tupleKind_room_in1 hu, k, xs, key_of I.hok eb, dd, h _ _ (I.tok _) ?_⟩
    rw [l]
    exact (rel.val k).getD rd
end

def tDGet1 (td ty : TE) : TE := fun σ H Q => td σ H fun x H1 => ∃ a, x = .ref a ∧ IsD H1 a ∧ ty σ H1 fun y H2 => ∃ o, DGet H2 a y o ∧ Q (o.getD .non) H2
def tDGet2 (td ty tx : TE) : TE := fun σ H Q => td σ H fun x H1 => ∃ a, x = .ref a ∧ IsD H1 a ∧ ty σ H1 fun y H2 => tx σ H2 fun z H3 => ∃ o, DGet H3 a y o ∧ Q (o.getD z) H3
/-- d.pop(k): there; d.pop(k, x): there or not -/
def tDPop1 (td ty : TE) : TE := fun σ H Q => td σ H fun x H1 => ∃ a, x = .ref a ∧ IsD H1 a ∧ ty σ H1 fun y H2 => ∃ kvs k v, H2 a = some (.dK kvs) ∧ y = kV k ∧ valV kvs k = some v ∧ Q v (upd H2 a (.dK (dropK kvs k)))
def tDPop2 (td ty tx : TE) : TE := fun σ H Q => td σ H fun x H1 => ∃ a, x = .ref a ∧ IsD H1 a ∧ ty σ H1 fun y H2 => tx σ H2 fun z H3 => ∃ kvs k, H3 a = some (.dK kvs) ∧ y = kV k ∧
  (∀ v, valV kvs k = some v → Q v (upd H3 a (.dK (dropK kvs k)))) ∧ (valV kvs k = none → Q z H3)
section
variable {X : Cx} {o e f : Expr} {apos cpos : Pos} {td ty tx : TE}
theorem pe_dget1 (hu : X.A.units + 1 < cLine) (ho : PE X o td) (he : PE X e ty) (m : M1 X o "get" apos e cpos) : PE X (.Call (.Attribute o "get" apos) [e] [] cpos) (tDGet1 td ty) := by
  intro pins s σ H Q I h
  refine wpAny_Call_method m.base m.few m.line PySem.F.plainAttrs_dict PySem.F.slot_dict_get PySem.F.type_dict_get (thn (ho pins s σ H _ I h) fun u s1 ⟨x, H1, I1, rx, a, ex, d, q1⟩ => ?_)
  subst ex
  obtain rfl : u = Value.ref a := rx
  obtain ⟨t1, t2, _⟩ := isD_at I1 d
  refine ⟨t1, t2, ?_⟩
  rw [m.trees]
  refine Calls.callWith_builtin rfl (Calls.evalArgs_plain (Calls.spliced_cons (thn (he pins s1 σ H1 _ I1 q1) fun iv s2 ⟨y, H2, I2, ry, ov, g, q2⟩ => Calls.spliced_nil ?_)))
  exact d_get1 hu I2 g ry fun w' s3 I3 rw' => ⟨_, H2, I3, rw', q2⟩
theorem pe_dget2 (hu : X.A.units + 1 < cLine) (ho : PE X o td) (he : PE X e ty) (hf : PE X f tx) (m : M2 X o "get" apos e f cpos) : PE X (.Call (.Attribute o "get" apos) [e, f] [] cpos) (tDGet2 td ty tx) := by
  intro pins s σ H Q I h
  refine wpAny_Call_method m.base m.few m.line PySem.F.plainAttrs_dict PySem.F.slot_dict_get PySem.F.type_dict_get (thn (ho pins s σ H _ I h) fun u s1 ⟨x, H1, I1, rx, a, ex, d, q1⟩ => ?_)
  subst ex
  obtain rfl : u = Value.ref a := rx
  obtain ⟨t1, t2, _⟩ := isD_at I1 d
  refine ⟨t1, t2, ?_⟩
  rw [m.trees]
  refine Calls.callWith_builtin rfl (Calls.evalArgs_plain (Calls.spliced_cons (thn (he pins s1 σ H1 _ I1 q1) fun iv s2 ⟨y, H2, I2, ry, q2⟩ =>
    Calls.spliced_cons (thn (hf pins s2 σ H2 _ I2 q2) fun fv s3 ⟨z, H3, I3, rz, ov, g, q3⟩ => Calls.spliced_nil ?_))))
  exact d_get2 hu I3 g ry rz fun w' s4 I4 rw' => ⟨_, H3, I4, rw', q3⟩
theorem pe_dpop1 (ho : PE X o td) (he : PE X e ty) (m : M1 X o "pop" apos e cpos) : PE X (.Call (.Attribute o "pop" apos) [e] [] cpos) (tDPop1 td ty) := by
  intro pins s σ H Q I h
  refine wpAny_Call_method m.base m.few m.line PySem.F.plainAttrs_dict PySem.F.slot_dict_pop PySem.F.type_dict_pop (thn (ho pins s σ H _ I h) fun u s1 ⟨x, H1, I1, rx, a, ex, d, q1⟩ => ?_)
  subst ex
  obtain rfl : u = Value.ref a := rx
  obtain ⟨t1, t2, _⟩ := isD_at I1 d
  refine ⟨t1, t2, ?_⟩
  rw [m.trees]
  refine Calls.callWith_builtin rfl (Calls.evalArgs_plain (Calls.spliced_cons (thn (he pins s1 σ H1 _ I1 q1) fun iv s2 ⟨y, H2, I2, ry, kvs, k, v, ea, ey, l, q2⟩ => Calls.spliced_nil ?_)))
  subst ey
  exact d_pop I2 ea ry l (.inl rfl) fun w' s3 I3 rw' => ⟨v, _, I3, rw', q2⟩
theorem pe_dpop2 (ho : PE X o td) (he : PE X e ty) (hf : PE X f tx) (m : M2 X o "pop" apos e f cpos) : PE X (.Call (.Attribute o "pop" apos) [e, f] [] cpos) (tDPop2 td ty tx) := by
  intro pins s σ H Q I h
  refine wpAny_Call_method m.base m.few m.line PySem.F.plainAttrs_dict PySem.F.slot_dict_pop PySem.F.type_dict_pop (thn (ho pins s σ H _ I h) fun u s1 ⟨x, H1, I1, rx, a, ex, d, q1⟩ => ?_)
  subst ex
  obtain rfl : u = Value.ref a := rx
  obtain ⟨t1, t2, _⟩ := isD_at I1 d
  refine ⟨t1, t2, ?_⟩
  rw [m.trees]
  refine Calls.callWith_builtin rfl (Calls.evalArgs_plain (Calls.spliced_cons (thn (he pins s1 σ H1 _ I1 q1) fun iv s2 ⟨y, H2, I2, ry, q2⟩ =>
    Calls.spliced_cons (thn (hf pins s2 σ H2 _ I2 q2) fun fv s3 ⟨z, H3, I3, rz, kvs, k, ea, ey, q3, q4⟩ => Calls.spliced_nil ?_))))
  subst ey
  cases l : valV kvs k with
  | some v => exact d_pop I3 ea ry l (.inr ⟨fv, rfl⟩) fun w' s4 I4 rw' => ⟨v, _, I4, rw', q3 v l⟩
  | none => exact d_popD I3 ea ry l fun s4 I4 => ⟨z, H3, I4, rz, q4 l⟩
end

/-! ### dict(d): a copy -/
section
variable {X : Cx} {pins : List (Addr × Obj)} {σ : St} {H : Hp} {s : Shared} {a : Addr} {kvs : List (Key × V)} {A : Around} {E : Value → Shared → Prop}
theorem d_copyOf {Q : Value → Shared → Prop} (I : Inv X pins σ H s) (e : Rd H a (.dK kvs)) (h : ∀ p s', H p = none → Inv X pins σ (upd H p (.dK kvs)) s' → Q (.ref p) s') : wpAny (model X.prog X.w) A (call (.type "dict") [.ref a]) Q E s := by
  obtain ⟨z, hd, vs, rel, dd⟩ := dk_rd I.hok e
  refine kt_call_dict hd dd (by rw [← rel.length]; exact z) fun h' dd' hs => ?_
  refine h _ _ (I.hok.fresh (Nat.le_refl _)) (I.laid (a := s.heap.objs.size) (o := .dK kvs) (t' := s.toks) (fun b q hq => ?_) (Nat.le_refl _) (dk_new z (beq_eq_false_iff_ne.mpr (Ne.symm (Nat.ne_of_lt I.big))) rel dd'))
  exact (hs.2 b (Nat.ne_of_lt (Heap.lt_size hq))).trans (Heap.get?_push_of_some _ hq)
end


section
variable {X : Cx} {pins : List (Addr × Obj)} {σ : St} {H : Hp} {s : Shared} {a : Addr} {y : V} {u : Value} {A : Around} {E : Value → Shared → Prop}
/-- d[y], not there: a KeyError -/
theorem d_missing {Q : Value → Shared → Prop} (hu : A.units + 1 < cLine) (hh : A.handled = none) (I : Inv X pins σ H s) (g : DGet H a y none) (ry : RelV y u)
    (h : ∀ h' e t', Heap.NewExc s.heap h' e "KeyError" → E (.ref e) { s with heap := h', toks := t' }) : wpAny (model X.prog X.w) A (getItem (.ref a) u) Q E s := by
  rcases g with ⟨kvs, k, e, ey, l⟩ | ⟨kvs, k, b, e, ey, eb, l⟩
  · subst ey
    obtain ⟨z, hd, vs, rel, dd⟩ := dk_rd I.hok e
    have hn : valueAt vs k = none := RelO.none_of (by rw [l]; exact rel.val k)
    exact wpAny_getItem_missing_of (kV_is ry) hd hh dd.mapOf hn fun h' ex ne => h h' ex _ ne
  · subst ey
    cases (show u = Value.ref b from ry)
    obtain ⟨z, hd, xs, rel, dd⟩ := dt_rd I.hok e
    have hn : (atKey xs k).map (·.2) = none := RelO.none_of (by rw [l]; exact rel.val k)
    exact wpAny_getItem_missing_heap (tupleKind_room_in1 hu) (key_of I.hok eb) hd hh dd (Option.map_eq_none_iff.mp hn) fun h' ex ne => h h' ex _ ne
end
end L2
namespace L2
open PySem PySem.Spec PyProof.Rows
/-! ### a dict's pairs: keys that differ -/
section
variable {κ : Type} [DecidableEq κ]
theorem valV_not {kvs : List (κ × V)} {k : κ} (h : valV kvs k = none) : ¬ k ∈ kvs.map (·.1) := by
  intro m
  obtain ⟨p, hp, e⟩ := List.mem_map.mp m
  have q : (kvs.any fun kv => decide (kv.1 = k)) = true := List.any_eq_true.mpr ⟨p, hp, decide_eq_true e⟩
  rw [valV_any, h] at q
  exact absurd q (by simp)
theorem valV_in {kvs : List (κ × V)} {k : κ} {v : V} (h : valV kvs k = some v) : k ∈ kvs.map (·.1) := by
  have q : (kvs.any fun kv => decide (kv.1 = k)) = true := by
    rw [valV_any, h]
    all_goals rfl
  obtain ⟨p, hp, e⟩ := List.any_eq_true.mp q
  exact List.mem_map.mpr ⟨p, hp, of_decide_eq_true e⟩
theorem nd_snoc : ∀ {l : List κ} {k : κ}, l.Nodup → ¬ k ∈ l → (l ++ [k]).Nodup
  | [], k, _, _ => by simp
  | a :: r, k, h, hk => by
    obtain ⟨h1, h2⟩ := List.nodup_cons.mp h
    show (a :: (r ++ [k])).Nodup
    refine List.nodup_cons.mpr ⟨fun m => ?_, nd_snoc h2 fun m => hk (List.mem_cons.mpr (Or.inr m))⟩
    rcases List.mem_append.mp m with q | q
    · exact h1 q
    · exact hk (List.mem_cons.mpr (Or.inl (List.mem_singleton.mp q).symm))
theorem nd_putK {kvs : List (κ × V)} {k : κ} (v : V) (hn : (kvs.map (·.1)).Nodup) (h : valV kvs k = none) : ((putK kvs k v).map (·.1)).Nodup := by
  rw [putK_new v h, List.map_append]
  exact nd_snoc hn (valV_not h)
theorem dropK_pos {p : κ × V} {r : List (κ × V)} {k : κ} (e : p.1 = k) : dropK (p :: r) k = dropK r k := by
  unfold dropK
  rw [List.filter_cons, if_neg (by simp [e])]
theorem dropK_neg {p : κ × V} {r : List (κ × V)} {k : κ} (e : ¬ p.1 = k) : dropK (p :: r) k = p :: dropK r k := by
  unfold dropK
  rw [List.filter_cons, if_pos (by simp [e])]
theorem dropK_no : ∀ {kvs : List (κ × V)} {k : κ}, ¬ k ∈ kvs.map (·.1) → dropK kvs k = kvs
  | [], _, _ => rfl
  | p :: r, k, h => by
    have h' : ¬ k ∈ r.map (·.1) := fun m => by
      obtain ⟨q, hq, e⟩ := List.mem_map.mp m
      exact h (List.mem_map.mpr ⟨q, List.mem_cons.mpr (Or.inr hq), e⟩)
    rw [dropK_neg fun e => h (List.mem_map.mpr ⟨p, List.mem_cons.mpr (Or.inl rfl), e⟩), dropK_no h']
theorem dropK_mem {kvs : List (κ × V)} {k : κ} {p : κ × V} (h : p ∈ dropK kvs k) : p ∈ kvs := (List.mem_filter.mp h).1
theorem nd_dropK : ∀ {kvs : List (κ × V)} {k : κ}, (kvs.map (·.1)).Nodup → ((dropK kvs k).map (·.1)).Nodup
  | [], _, _ => List.nodup_nil
  | p :: r, k, h => by
    have h : (p.1 :: r.map (·.1)).Nodup := h
    obtain ⟨h1, h2⟩ := List.nodup_cons.mp h
    by_cases e : p.1 = k
    · rw [dropK_pos e]
      exact nd_dropK h2
    · rw [dropK_neg e]
      show (p.1 :: (dropK r k).map (·.1)).Nodup
      refine List.nodup_cons.mpr ⟨fun m => h1 ?_, nd_dropK h2⟩
      obtain ⟨q, hq, eq⟩ := List.mem_map.mp m
      exact List.mem_map.mpr ⟨q, dropK_mem hq, eq⟩
theorem dropK_len : ∀ {kvs : List (κ × V)} {k : κ}, (kvs.map (·.1)).Nodup → k ∈ kvs.map (·.1) → (dropK kvs k).length + 1 = kvs.length
  | [], _, _, m => by simp at m
  | p :: r, k, h, m => by
    have h : (p.1 :: r.map (·.1)).Nodup := h
    have m : k = p.1 ∨ k ∈ r.map (·.1) := List.mem_cons.mp m
    obtain ⟨h1, h2⟩ := List.nodup_cons.mp h
    by_cases e : p.1 = k
    · subst e
      rw [dropK_pos rfl, dropK_no h1]
      all_goals rfl
    · have m' : k ∈ r.map (·.1) := m.resolve_left fun z => e z.symm
      have q := dropK_len h2 m'
      rw [dropK_neg e, List.length_cons, List.length_cons]
      omega
end
end L2

set_option linter.all false
/-! ### a small language with a total run: values are trees, lists and dicts stand in a store -/
namespace Ev
open PySem (Str)

inductive D where
  | non | bl (b : Bool) | int (i : Int) | str (x : Str) | tup (xs : List D) | loc (n : Nat) | fn (f : Nat) | exc (c : Nat) (n : Nat)
  deriving Repr, Inhabited

mutual
def D.beq : D → D → Bool
  | .non, .non => true
  | .bl a, .bl b => decide (a = b)
  | .int a, .int b => decide (a = b)
  | .str a, .str b => decide (a = b)
  | .tup a, .tup b => D.beqs a b
  | .loc a, .loc b => decide (a = b)
  | .fn a, .fn b => decide (a = b)
  | .exc a i, .exc b j => decide (a = b) && decide (i = j)
  | _, _ => false
def D.beqs : List D → List D → Bool
  | [], [] => true
  | x :: xs, y :: ys => D.beq x y && D.beqs xs ys
  | _, _ => false
end
mutual
theorem D.eq_of_beq : ∀ {a b : D}, D.beq a b = true → a = b
  | .non, .non, _ => rfl
  | .bl a, .bl b, h => by unfold D.beq at h; rw [of_decide_eq_true h]
  | .int a, .int b, h => by unfold D.beq at h; rw [of_decide_eq_true h]
  | .str a, .str b, h => by unfold D.beq at h; rw [of_decide_eq_true h]
  | .tup a, .tup b, h => by unfold D.beq at h; rw [D.eq_of_beqs h]
  | .loc a, .loc b, h => by unfold D.beq at h; rw [of_decide_eq_true h]
  | .fn a, .fn b, h => by unfold D.beq at h; rw [of_decide_eq_true h]
  | .exc a i, .exc b j, h => by
    unfold D.beq at h
    have h1 := (Bool.and_eq_true _ _).mp h
    rw [of_decide_eq_true h1.1, of_decide_eq_true h1.2]
  | .non, .bl _, h | .non, .int _, h | .non, .str _, h | .non, .tup _, h | .non, .loc _, h | .non, .fn _, h | .non, .exc _ _, h => by unfold D.beq at h; cases h
  | .bl _, .non, h | .bl _, .int _, h | .bl _, .str _, h | .bl _, .tup _, h | .bl _, .loc _, h | .bl _, .fn _, h | .bl _, .exc _ _, h => by unfold D.beq at h; cases h
  | .int _, .non, h | .int _, .bl _, h | .int _, .str _, h | .int _, .tup _, h | .int _, .loc _, h | .int _, .fn _, h | .int _, .exc _ _, h => by unfold D.beq at h; cases h
  | .str _, .non, h | .str _, .bl _, h | .str _, .int _, h | .str _, .tup _, h | .str _, .loc _, h | .str _, .fn _, h | .str _, .exc _ _, h => by unfold D.beq at h; cases h
  | .tup _, .non, h | .tup _, .bl _, h | .tup _, .int _, h | .tup _, .str _, h | .tup _, .loc _, h | .tup _, .fn _, h | .tup _, .exc _ _, h => by unfold D.beq at h; cases h
  | .loc _, .non, h | .loc _, .bl _, h | .loc _, .int _, h | .loc _, .str _, h | .loc _, .tup _, h | .loc _, .fn _, h | .loc _, .exc _ _, h => by unfold D.beq at h; cases h
  | .fn _, .non, h | .fn _, .bl _, h | .fn _, .int _, h | .fn _, .str _, h | .fn _, .tup _, h | .fn _, .loc _, h | .fn _, .exc _ _, h => by unfold D.beq at h; cases h
  | .exc _ _, .non, h | .exc _ _, .bl _, h | .exc _ _, .int _, h | .exc _ _, .str _, h | .exc _ _, .tup _, h | .exc _ _, .loc _, h | .exc _ _, .fn _, h => by unfold D.beq at h; cases h
theorem D.eq_of_beqs : ∀ {a b : List D}, D.beqs a b = true → a = b
  | [], [], _ => rfl
  | x :: xs, y :: ys, h => by
    unfold D.beqs at h
    have h1 := (Bool.and_eq_true _ _).mp h
    rw [D.eq_of_beq h1.1, D.eq_of_beqs h1.2]
  | [], _ :: _, h => by unfold D.beqs at h; cases h
  | _ :: _, [], h => by unfold D.beqs at h; cases h
end
mutual
theorem D.beq_self : ∀ a : D, D.beq a a = true
  | .non => rfl
  | .bl a => by unfold D.beq; exact decide_eq_true rfl
  | .int a => by unfold D.beq; exact decide_eq_true rfl
  | .str a => by unfold D.beq; exact decide_eq_true rfl
  | .tup a => by unfold D.beq; exact D.beqs_self a
  | .loc a => by unfold D.beq; exact decide_eq_true rfl
  | .fn a => by unfold D.beq; exact decide_eq_true rfl
  | .exc a i => by unfold D.beq; rw [decide_eq_true rfl, decide_eq_true rfl]; rfl
theorem D.beqs_self : ∀ a : List D, D.beqs a a = true
  | [] => rfl
  | x :: xs => by unfold D.beqs; rw [D.beq_self x, D.beqs_self xs]; rfl
end
instance : DecidableEq D := fun a b => if h : D.beq a b = true then isTrue (D.eq_of_beq h) else isFalse fun e => h (by rw [e]; exact D.beq_self b)

/-- what stands in the store: a list; the script; a dict by tuples of ints (in the order of its filling); a dict by ints; a set by its members (each once) -/
inductive Ob where
  | lst (xs : List D) | scr (ns : List Int) | dt (kvs : List (List Int × D)) | dk (kvs : List (Int × D)) | st (xs : List D)
  deriving DecidableEq, Repr
abbrev Store := List Ob
abbrev Lc := List (Option D)

/-- how a run ends: a value and the store; an error of the class numbered c; stuck -/
inductive R (α : Type) where
  | ok (a : α) (S : Store) | ex (c : Nat) (S : Store) | no
  deriving Repr
def R.bind {α β : Type} (r : R α) (f : α → Store → R β) : R β := match r with
  | .ok a S => f a S
  | .ex c S => .ex c S
  | .no => .no
def lim : Nat := 16777216

inductive Bop where | add | sub | mul | fdiv | mod | pow
  deriving DecidableEq, Repr
inductive Cop where | eq | ne | lt | le | gt | ge | is | isn | inn | nin
  deriving DecidableEq, Repr
inductive Ty where | int | bool | str | tuple | list | dict | cls (c : Nat)
  deriving DecidableEq, Repr
/-- Python's own functions -/
inductive Bf where | len | max2 | min2 | toInt | tuple | list | all | any | sum | sorted | sortedR | set | listD | sortedD
  deriving DecidableEq, Repr
/-- methods of lists and dicts -/
inductive Mf where | append | extend | index
  deriving DecidableEq, Repr

mutual
inductive E where
  | c (d : D) | v (i : Nat)
  | tup (es : List E) | lst (es : List E) | dnew
  | bin (op : Bop) (a b : E) | neg (a : E) | not (a : E) | and (a b : E) | or (a b : E) | ite (t a b : E)
  | cmp (op : Cop) (a b : E) | chain (o p : Cop) (a b d : E)
  | ix (a i : E) | sl (a : E) (lo hi : Option E) | rev (a : E)
  | call (f : Nat) (as : List E) | blt (f : Bf) (as : List E) | mt (m : Mf) (o : E) (as : List E)
  | isi (a : E) (ts : List Ty)
  | inT (a : E) (tab : List (Int × Int)) | getT (tab : List (Int × Int)) (a : E)
  | dput1 (k v : E)
  /-- [elt for t in it if ..]: the names caught from outside, how many own names, the own names that the target fills -/
  | comp1 (cap : List Nat) (nl : Nat) (t : List Nat) (it : W) (ifs : List E) (elt : E)
  | comp2 (cap : List Nat) (nl : Nat) (t : List Nat) (it : W) (ifs : List E) (u : List Nat) (jt : W) (jfs : List E) (elt : E)
  | fstr
/-- what is walked: a list or tuple, range(e), range(a, b), zip(a, b), enumerate(a), reversed(range(a, b)) -/
inductive W where
  | of (e : E) | rng1 (a : E) | rng2 (a b : E) | zip (a b : E) | enum (a : E) | rrng (a b : E)
end

/-- a target: one name, or a tuple of names (never one of length one) -/
inductive Sm where
  | asg (t : List Nat) (e : E) | par (t : List Nat) (es : List E) | aug (i : Nat) (op : Bop) (e : E) | put (o i e : E) | dput (o i e : E)
  | ret (e : E) | ex (e : E) | ite (t : E) (a b : List Sm) | forr (t : List Nat) (it : W) (b : List Sm) | whl (t : E) (b : List Sm)
  | raise (c : Nat) (as : List E) | pas | brk | cnt

/-! ### operations on values -/
def seqAt (S : Store) (n : Nat) : Option (List D) := match S[n]? with
  | some (.lst xs) => some xs
  | some (.scr ns) => some (ns.map .int)
  | _ => none
def lstAt (S : Store) (n : Nat) : Option (List D) := match S[n]? with
  | some (.lst xs) => some xs
  | _ => none
def truth (S : Store) : D → Option Bool
  | .non => some false
  | .bl b => some b
  | .int i => some (decide (i ≠ 0))
  | .tup xs => some (!xs.isEmpty)
  | .loc n => (seqAt S n).map fun xs => !xs.isEmpty
  | _ => none
def b2i (b : Bool) : Int := if b then 1 else 0
def eqL (f : D → D → Option Bool) : List D → List D → Option Bool
  | [], [] => some true
  | x :: xs, y :: ys => match f x y, eqL f xs ys with
    | some a, some b => some (a && b)
    | _, _ => none
  | _, _ => some false
/-- ==, to a depth -/
def eqD (S : Store) : Nat → D → D → Option Bool
  | 0, _, _ => none
  | k + 1, x, y => match x, y with
    | .non, .non => some true
    | .bl a, .bl b => some (decide (a = b))
    | .int a, .int b => some (decide (a = b))
    | .bl a, .int b => some (decide (b2i a = b))
    | .int a, .bl b => some (decide (a = b2i b))
    | .str a, .str b => some (decide (a = b))
    | .tup xs, .tup ys => eqL (eqD S k) xs ys
    | .loc m, .loc n => match lstAt S m, lstAt S n with
      | some xs, some ys => if xs.length = ys.length then eqL (eqD S k) xs ys else some false
      | _, _ => none
    | .non, .bl _ | .non, .int _ | .non, .str _ | .bl _, .non | .int _, .non | .str _, .non => some false
    | .bl _, .str _ | .int _, .str _ | .str _, .bl _ | .str _, .int _ => some false
    | _, _ => none
def eqDepth : Nat := 6
/-- < of ints, and of tuples to a depth -/
def ltL (e l : D → D → Option Bool) : List D → List D → Option Bool
  | [], [] => some false
  | [], _ :: _ => some true
  | _ :: _, [] => some false
  | x :: xs, y :: ys => match e x y with
    | some true => ltL e l xs ys
    | some false => l x y
    | none => none
def ltD (S : Store) : Nat → D → D → Option Bool
  | 0, _, _ => none
  | k + 1, x, y => match x, y with
    | .int a, .int b => some (decide (a < b))
    | .tup xs, .tup ys => ltL (eqD S k) (ltD S k) xs ys
    | _, _ => none
def inL (S : Store) (x : D) : List D → Option Bool
  | [] => some false
  | y :: ys => match eqD S eqDepth y x, inL S x ys with
    | some a, some b => some (a || b)
    | _, _ => none
def idxL (S : Store) (x : D) : List D → Nat → Option Nat
  | [], _ => none
  | y :: ys, k => match eqD S eqDepth y x with
    | some true => some k
    | some false => idxL S x ys (k + 1)
    | none => none
def keyOf : List D → Option (List Int)
  | [] => some []
  | .int i :: r => (keyOf r).map (i :: ·)
  | _ :: _ => none
def isTy (S : Store) : D → Ty → Option Bool
  | .non, _ => some false
  | .bl _, t => some (decide (t = .bool ∨ t = .int))
  | .int _, t => some (decide (t = .int))
  | .str _, t => some (decide (t = .str))
  | .tup _, t => some (decide (t = .tuple))
  | .loc n, t => match S[n]? with
    | some (.lst _) => some (decide (t = .list))
    | some (.dt _) => some (decide (t = .dict))
    | some (.dk _) => some (decide (t = .dict))
    | _ => none
  | _, _ => none
def isAny (S : Store) (x : D) : List Ty → Option Bool
  | [] => some false
  | t :: ts => match isTy S x t with
    | some true => some true
    | some false => isAny S x ts
    | none => none
def ixN (n : Nat) (i : Int) : Option Nat := if 0 ≤ i then (if i < n then some i.toNat else none) else if -(n : Int) ≤ i then some (i + n).toNat else none
def at' {α : Type} (xs : List α) (i : Int) : Option α := (ixN xs.length i).bind fun j => xs[j]?
def sIx (n d : Nat) : Option Int → Nat
  | none => d
  | some i => if i < 0 then (i + n).toNat else min i.toNat n
def cut (xs : List D) (lo hi : Option Int) : List D := (xs.drop (sIx xs.length 0 lo)).take (sIx xs.length xs.length hi - sIx xs.length 0 lo)
/-- a product of ints: how large its parts may be -/
def fits (i : Int) : Bool := decide (i.natAbs < 2 ^ 1000)
def binop (op : Bop) (x y : D) (S : Store) : R D := match op, x, y with
  | .add, .int a, .int b => .ok (.int (a + b)) S
  | .sub, .int a, .int b => .ok (.int (a - b)) S
  | .mul, .int a, .int b => if (fits a && fits b) = true then .ok (.int (a * b)) S else .no
  | .fdiv, .int a, .int b => if 0 < b ∧ b < 1073741824 then .ok (.int (a / b)) S else .no
  | .mod, .int a, .int b => if 0 < b then .ok (.int (a % b)) S else .no
  | .pow, .int a, .int b => if 0 ≤ b ∧ b ≤ 1000 ∧ a.natAbs < 2 ^ 64 then .ok (.int (a ^ b.toNat)) S else .no
  | .add, .tup a, .tup b => if a.length + b.length ≤ lim then .ok (.tup (a ++ b)) S else .no
  | .mul, .tup a, .int b => if 0 ≤ b ∧ b < 1000 ∧ a.length ≤ 1000 then .ok (.tup (List.replicate b.toNat a).flatten) S else .no
  | .add, .loc m, .loc n => match lstAt S m, lstAt S n with
    | some a, some b => if a.length + b.length ≤ lim then .ok (.loc S.length) (S ++ [.lst (a ++ b)]) else .no
    | _, _ => .no
  | _, _, _ => .no
/-- a op= b, of ints alone -/
def augop (op : Bop) (x y : D) (S : Store) : R D := match x, y with
  | .int _, .int _ => binop op x y S
  | _, _ => .no
def ob {α : Type} (o : Option α) (S : Store) : R α := match o with
  | some a => .ok a S
  | none => .no
/-- x in an object of the store -/
def inOb (S : Store) (x : D) : Option Ob → R Bool
  | some (.lst ys) => ob (inL S x ys) S
  | some (.dt kvs) => match x with
    | .tup k => (ob (keyOf k) S).bind fun k S => .ok ((kvs.map (·.1)).contains k) S
    | _ => .no
  | _ => .no
def isIn (S : Store) (x y : D) : R Bool := match y with
  | .tup ys => ob (inL S x ys) S
  | .loc n => inOb S x S[n]?
  | _ => .no
def cmpop (op : Cop) (x y : D) (S : Store) : R D := match op with
  | .eq => (ob (eqD S eqDepth x y) S).bind fun b S => .ok (.bl b) S
  | .ne => (ob (eqD S eqDepth x y) S).bind fun b S => .ok (.bl !b) S
  | .lt => match x, y with
    | .int a, .int b => .ok (.bl (decide (a < b))) S
    | _, _ => .no
  | .gt => match x, y with
    | .int a, .int b => .ok (.bl (decide (b < a))) S
    | _, _ => .no
  | .le => match x, y with
    | .int a, .int b => .ok (.bl (decide (a ≤ b))) S
    | _, _ => .no
  | .ge => match x, y with
    | .int a, .int b => .ok (.bl (decide (b ≤ a))) S
    | _, _ => .no
  | .is => match x, y with
    | _, .non => .ok (.bl (decide (x = .non))) S
    | .bl a, .bl b => .ok (.bl (decide (a = b))) S
    | _, _ => .no
  | .isn => match x, y with
    | _, .non => .ok (.bl (decide (x ≠ .non))) S
    | .bl a, .bl b => .ok (.bl (decide (a ≠ b))) S
    | _, _ => .no
  | .inn => (isIn S x y).bind fun b S => .ok (.bl b) S
  | .nin => (isIn S x y).bind fun b S => .ok (.bl !b) S
def getix (x y : D) (S : Store) : R D := match x, y with
  | .tup xs, .int i => ob (at' xs i) S
  | .loc n, .int i => match seqAt S n with
    | some xs => ob (at' xs i) S
    | none => .no
  | _, _ => .no
def slice (x : D) (lo hi : Option Int) (S : Store) : R D := match x with
  | .tup xs => .ok (.tup (cut xs lo hi)) S
  | .loc n => match lstAt S n with
    | some xs => .ok (.loc S.length) (S ++ [.lst (cut xs lo hi)])
    | none => .no
  | _ => .no
def reversed (x : D) (S : Store) : R D := match x with
  | .tup xs => .ok (.tup xs.reverse) S
  | _ => .no
def putKey {κ : Type} [DecidableEq κ] (k : κ) (v : D) : List (κ × D) → List (κ × D)
  | [] => [(k, v)]
  | (j, w) :: r => if j = k then (j, v) :: r else (j, w) :: putKey k v r
def setix (o i v : D) (S : Store) : R Unit := match o, i with
  | .loc n, .int k => match S[n]? with
    | some (.lst xs) => (ob (ixN xs.length k) S).bind fun j S => .ok () (S.set n (.lst (xs.set j v)))
    | _ => .no
  | _, _ => .no
/-- d[k] = v -/
def setixD (o i v : D) (S : Store) : R Unit := match o, i with
  | .loc n, .tup k => match S[n]? with
    | some (.dt kvs) => (ob (keyOf k) S).bind fun k S => if kvs.length < lim then .ok () (S.set n (.dt (putKey k v kvs))) else .no
    | _ => .no
  | _, _ => .no
/-- the truth of a thing of a simple kind -/
def ptruth : D → Option Bool
  | .non => some false
  | .bl b => some b
  | .int i => some (decide (i ≠ 0))
  | _ => none
def truths : List D → Option (List Bool)
  | [] => some []
  | x :: xs => match ptruth x, truths xs with
    | some b, some bs => some (b :: bs)
    | _, _ => none
def intsOf : List D → Option (List Int)
  | [] => some []
  | .int i :: r => (intsOf r).map (i :: ·)
  | .bl b :: r => (intsOf r).map (b2i b :: ·)
  | _ :: _ => none
/-- a stable sort -/
def insertBy (lt : D → D → Bool) (x : D) : List D → List D
  | [] => [x]
  | y :: r => if lt x y then x :: y :: r else y :: insertBy lt x r
def sortBy (lt : D → D → Bool) (xs : List D) : List D := xs.foldl (fun acc x => insertBy lt x acc) []
def ltAll (S : Store) (xs : List D) : Bool := xs.all fun x => xs.all fun y => (ltD S eqDepth x y).isSome
def dedup : List D → List D → List D
  | acc, [] => acc
  | acc, x :: r => if acc.contains x then dedup acc r else dedup (acc ++ [x]) r
/-- the things of a list or tuple -/
def seqOf (S : Store) : D → Option (List D)
  | .tup xs => some xs
  | .loc n => seqAt S n
  | _ => none
/-- the keys of a dict -/
def keysOf (S : Store) : D → Option (List D)
  | .loc n => match S[n]? with
    | some (.dt kvs) => some (kvs.map fun p => .tup (p.1.map .int))
    | _ => none
  | _ => none
def bltin (f : Bf) (as : List D) (S : Store) : R D := match f, as with
  | .len, [x] => (ob (seqOf S x) S).bind fun xs S => .ok (.int xs.length) S
  | .max2, [.int a, .int b] => .ok (.int (if b > a then b else a)) S
  | .min2, [.int a, .int b] => .ok (.int (if b < a then b else a)) S
  | .toInt, [.int a] => .ok (.int a) S
  | .toInt, [.bl b] => .ok (.int (b2i b)) S
  | .tuple, [.tup xs] => .ok (.tup xs) S
  | .tuple, [.loc n] => (ob (lstAt S n) S).bind fun xs S => .ok (.tup xs) S
  | .list, [x] => (ob (seqOf S x) S).bind fun xs S => .ok (.loc S.length) (S ++ [.lst xs])
  | .all, [.loc n] => (ob (lstAt S n) S).bind fun xs S => (ob (truths xs) S).bind fun bs S => .ok (.bl (bs.all id)) S
  | .any, [x] => (ob (seqOf S x) S).bind fun xs S => (ob (truths xs) S).bind fun bs S => .ok (.bl (bs.any id)) S
  | .sum, [.loc n] => (ob (lstAt S n) S).bind fun xs S => (ob (intsOf xs) S).bind fun is S => .ok (.int is.sum) S
  | .sorted, [x] => (ob (seqOf S x) S).bind fun xs S => if ltAll S xs then .ok (.loc S.length) (S ++ [.lst (sortBy (fun a b => (ltD S eqDepth a b).getD false) xs)]) else .no
  | .sortedR, [x] => (ob (seqOf S x) S).bind fun xs S => if ltAll S xs then .ok (.loc S.length) (S ++ [.lst (sortBy (fun a b => (ltD S eqDepth b a).getD false) xs)]) else .no
  | .set, [x] => (ob (seqOf S x) S).bind fun xs S => .ok (.loc S.length) (S ++ [.st (dedup [] xs)])
  | .listD, [x] => (ob (keysOf S x) S).bind fun xs S => .ok (.loc S.length) (S ++ [.lst xs])
  | .sortedD, [x] => (ob (keysOf S x) S).bind fun xs S => if ltAll S xs then .ok (.loc S.length) (S ++ [.lst (sortBy (fun a b => (ltD S eqDepth a b).getD false) xs)]) else .no
  | _, _ => .no
def method (m : Mf) (o : D) (as : List D) (S : Store) : R D := match m, o, as with
  | .append, .loc n, [x] => (ob (lstAt S n) S).bind fun xs S => if xs.length < lim then .ok .non (S.set n (.lst (xs ++ [x]))) else .no
  | .extend, .loc n, [.loc k] => if n = k then .no else (ob (lstAt S n) S).bind fun xs S => (ob (lstAt S k) S).bind fun ys S => if xs.length + ys.length ≤ lim then .ok .non (S.set n (.lst (xs ++ ys))) else .no
  | .index, .loc n, [x] => (ob (lstAt S n) S).bind fun xs S => (ob (idxL S x xs 0) S).bind fun k S => .ok (.int k) S
  | _, _, _ => .no
/-- the thing is a list -/
def isLst (S : Store) : D → Bool
  | .loc n => (lstAt S n).isSome
  | _ => false
def rangeL (lo : Int) (n : Nat) : List D := (List.range n).map fun (k : Nat) => .int (lo + (k : Int))
def small (i : Int) : Bool := decide (-(2 ^ 62) ≤ i ∧ i < 2 ^ 62)
/-- names are given values: one name takes the value, several the items of a tuple -/
def fill : List Nat → List D → Lc → Option Lc
  | [], [], σ => some σ
  | i :: t, x :: xs, σ => fill t xs (σ.set i (some x))
  | _, _, _ => none
def assign (t : List Nat) (x : D) (S : Store) (σ : Lc) : Option Lc := match t with
  | [i] => some (σ.set i (some x))
  | t => match x with
    | .tup xs => fill t xs σ
    | _ => none

/-! ### runs -/
inductive Fl where | nx (σ : Lc) | ret (d : D) | brk (σ : Lc) | cnt (σ : Lc)
  deriving Repr
abbrev Calls := Nat → List D → Store → R D
/-- what a loop walks: its items; the lists that must not change meanwhile -/
structure Walk where
  items : List D
  kept : List (Nat × List D)
  deriving Repr
def Walk.still (w : Walk) (S : Store) : Bool := w.kept.all fun p => decide (S[p.1]? = some (.lst p.2))
def walkOf (S : Store) : D → Option Walk
  | .tup xs => some ⟨xs, []⟩
  | .loc n => match S[n]? with
    | some (.lst xs) => some ⟨xs, [(n, xs)]⟩
    | _ => none
  | _ => none
def forL (w : Walk) (body : D → Lc → Store → R Fl) : List D → Lc → Store → R Fl
  | [], σ, S => if w.still S then .ok (.nx σ) S else .no
  | x :: xs, σ, S => if w.still S then match body x σ S with
      | .ok (.nx σ') S' => forL w body xs σ' S'
      | .ok (.cnt σ') S' => forL w body xs σ' S'
      | .ok (.brk σ') S' => .ok (.nx σ') S'
      | .ok (.ret d) S' => .ok (.ret d) S'
      | .ex c S' => .ex c S'
      | .no => .no
    else .no
def whileL (test : Lc → Store → R Bool) (body : Lc → Store → R Fl) : Nat → Lc → Store → R Fl
  | 0, _, _ => .no
  | n + 1, σ, S => (test σ S).bind fun b S => if b then match body σ S with
      | .ok (.nx σ') S' => whileL test body n σ' S'
      | .ok (.cnt σ') S' => whileL test body n σ' S'
      | .ok (.brk σ') S' => .ok (.nx σ') S'
      | .ok (.ret d) S' => .ok (.ret d) S'
      | .ex c S' => .ex c S'
      | .no => .no
    else .ok (.nx σ) S
/-- a comprehension: its list stands at a place from the start; a turn gives its own names -/
def compL (w : Walk) (turn : D → Lc → Store → R Lc) : List D → Lc → Store → R Lc
  | [], σ, S => if w.still S then .ok σ S else .no
  | x :: xs, σ, S => if w.still S then (turn x σ S).bind fun σ S => compL w turn xs σ S else .no
def push (n : Nat) (y : D) (S : Store) : R Unit := match lstAt S n with
  | some ys => if ys.length < lim then .ok () (S.set n (.lst (ys ++ [y]))) else .no
  | none => .no
def caught (cap : List Nat) (nl : Nat) (σ : Lc) : Lc := List.replicate nl none ++ cap.map fun i => (σ[i]?).join
def maxTurns : Nat := 1000

mutual
def ev (C : Calls) : E → Lc → Store → R D
  | .c d, _, S => .ok d S
  | .v i, σ, S => ob (σ[i]?).join S
  | .tup es, σ, S => (evs C es σ S).bind fun xs S => if xs.length ≤ lim then .ok (.tup xs) S else .no
  | .lst es, σ, S => (evs C es σ S).bind fun xs S => if xs.length ≤ lim then .ok (.loc S.length) (S ++ [.lst xs]) else .no
  | .dnew, _, S => .ok (.loc S.length) (S ++ [.dt []])
  | .dput1 k v, σ, S => (ev C k σ S).bind fun x S => (ev C v σ S).bind fun y S => match x with
    | .tup k => (ob (keyOf k) S).bind fun k S => .ok (.loc S.length) (S ++ [.dt [(k, y)]])
    | _ => .no
  | .bin op a b, σ, S => (ev C a σ S).bind fun x S => (ev C b σ S).bind fun y S => binop op x y S
  | .neg a, σ, S => (ev C a σ S).bind fun x S => match x with
    | .int i => .ok (.int (-i)) S
    | _ => .no
  | .not a, σ, S => (ev C a σ S).bind fun x S => (ob (truth S x) S).bind fun b S => .ok (.bl !b) S
  | .and a b, σ, S => (ev C a σ S).bind fun x S => match x with
    | .bl c => if c then ev C b σ S else .ok (.bl false) S
    | _ => .no
  | .or a b, σ, S => (ev C a σ S).bind fun x S => match x with
    | .bl c => if c then .ok (.bl true) S else ev C b σ S
    | _ => .no
  | .ite t a b, σ, S => (ev C t σ S).bind fun x S => (ob (truth S x) S).bind fun c S => if c then ev C a σ S else ev C b σ S
  | .cmp op a b, σ, S => (ev C a σ S).bind fun x S => (ev C b σ S).bind fun y S => cmpop op x y S
  | .chain o p a b d, σ, S => (ev C a σ S).bind fun x S => (ev C b σ S).bind fun y S => (cmpop o x y S).bind fun z S => match z with
    | .bl c => if c then (ev C d σ S).bind fun w S => cmpop p y w S else .ok (.bl false) S
    | _ => .no
  | .ix a i, σ, S => (ev C a σ S).bind fun x S => (ev C i σ S).bind fun y S => getix x y S
  | .sl a lo hi, σ, S => (ev C a σ S).bind fun x S => (evo C lo σ S).bind fun l S => (evo C hi σ S).bind fun h S => slice x l h S
  | .rev a, σ, S => (ev C a σ S).bind fun x S => reversed x S
  | .call f as, σ, S => (evs C as σ S).bind fun xs S => C f xs S
  | .blt f as, σ, S => (evs C as σ S).bind fun xs S => bltin f xs S
  | .mt m o as, σ, S => (ev C o σ S).bind fun x S => if isLst S x = true then (evs C as σ S).bind fun xs S => method m x xs S else .no
  | .isi a ts, σ, S => (ev C a σ S).bind fun x S => (ob (isAny S x ts) S).bind fun b S => .ok (.bl b) S
  | .inT a tab, σ, S => (ev C a σ S).bind fun x S => match x with
    | .int i => .ok (.bl ((tab.map (·.1)).contains i)) S
    | _ => .no
  | .getT tab a, σ, S => (ev C a σ S).bind fun x S => match x with
    | .int i => (ob (tab.lookup i) S).bind fun j S => .ok (.int j) S
    | _ => .no
  | .comp1 cap nl t it ifs elt, σ, S => (evw C it σ S).bind fun w S =>
      (compL w (fun x σ S1 => (ob (assign t x S1 σ) S1).bind fun σ S1 => (evt C ifs σ S1).bind fun b S1 => if b then (ev C elt σ S1).bind fun y S1 => (push S.length y S1).bind fun _ S1 => .ok σ S1 else .ok σ S1) w.items (caught cap nl σ) (S ++ [.lst []])).bind
        fun _ S1 => .ok (.loc S.length) S1
  | .comp2 cap nl t it ifs u jt jfs elt, σ, S => (evw C it σ S).bind fun w S =>
      (compL w (fun x σ S1 => (ob (assign t x S1 σ) S1).bind fun σ S1 => (evt C ifs σ S1).bind fun b S1 => if b then
        (evw C jt σ S1).bind fun w2 S1 => compL w2 (fun x σ S1 => (ob (assign u x S1 σ) S1).bind fun σ S1 => (evt C jfs σ S1).bind fun b S1 => if b then (ev C elt σ S1).bind fun y S1 => (push S.length y S1).bind fun _ S1 => .ok σ S1 else .ok σ S1) w2.items σ S1
        else .ok σ S1) w.items (caught cap nl σ) (S ++ [.lst []])).bind
        fun _ S1 => .ok (.loc S.length) S1
  | .fstr, _, _ => .no
def evs (C : Calls) : List E → Lc → Store → R (List D)
  | [], _, S => .ok [] S
  | e :: es, σ, S => (ev C e σ S).bind fun x S => (evs C es σ S).bind fun xs S => .ok (x :: xs) S
def evo (C : Calls) : Option E → Lc → Store → R (Option Int)
  | none, _, S => .ok none S
  | some e, σ, S => (ev C e σ S).bind fun x S => match x with
    | .int i => .ok (some i) S
    | _ => .no
/-- all of the tests hold, from the left -/
def evt (C : Calls) : List E → Lc → Store → R Bool
  | [], _, S => .ok true S
  | e :: es, σ, S => (ev C e σ S).bind fun x S => (ob (truth S x) S).bind fun b S => if b then evt C es σ S else .ok false S
/-- what is walked -/
def evw (C : Calls) : W → Lc → Store → R Walk
  | .rng1 a, σ, S => (ev C a σ S).bind fun x S => match x with
    | .int i => if small i then .ok ⟨rangeL 0 i.toNat, []⟩ S else .no
    | _ => .no
  | .rng2 a b, σ, S => (ev C a σ S).bind fun x S => (ev C b σ S).bind fun y S => match x, y with
    | .int i, .int j => if (small i && small j) = true then .ok ⟨rangeL i (j - i).toNat, []⟩ S else .no
    | _, _ => .no
  | .rrng a b, σ, S => (ev C a σ S).bind fun x S => (ev C b σ S).bind fun y S => match x, y with
    | .int i, .int j => if (small i && small j) = true then .ok ⟨(rangeL i (j - i).toNat).reverse, []⟩ S else .no
    | _, _ => .no
  | .zip a b, σ, S => (ev C a σ S).bind fun x S => (ev C b σ S).bind fun y S => match walkOf S x, walkOf S y with
    | some v, some w => .ok ⟨(v.items.zip w.items).map fun p => .tup [p.1, p.2], v.kept ++ w.kept⟩ S
    | _, _ => .no
  | .enum a, σ, S => (ev C a σ S).bind fun x S => match walkOf S x with
    | some w => .ok ⟨(rangeL 0 w.items.length).zip w.items |>.map fun p => .tup [p.1, p.2], w.kept⟩ S
    | none => .no
  | .of e, σ, S => (ev C e σ S).bind fun x S => ob (walkOf S x) S
end
def tst (C : Calls) (e : E) (σ : Lc) (S : Store) : R Bool := (ev C e σ S).bind fun x S => ob (truth S x) S
mutual
def run (C : Calls) : Sm → Lc → Store → R Fl
  | .asg t e, σ, S => (ev C e σ S).bind fun x S => (ob (assign t x S σ) S).bind fun σ S => .ok (.nx σ) S
  | .par t es, σ, S => (evs C es σ S).bind fun xs S => (ob (fill t xs σ) S).bind fun σ S => .ok (.nx σ) S
  | .aug i op e, σ, S => (ob (σ[i]?).join S).bind fun x S => (ev C e σ S).bind fun y S => (augop op x y S).bind fun z S => .ok (.nx (σ.set i (some z))) S
  | .put o i e, σ, S => (ev C e σ S).bind fun v S => (ev C o σ S).bind fun x S => (ev C i σ S).bind fun y S => (setix x y v S).bind fun _ S => .ok (.nx σ) S
  | .dput o i e, σ, S => (ev C e σ S).bind fun v S => (ev C o σ S).bind fun x S => (ev C i σ S).bind fun y S => (setixD x y v S).bind fun _ S => .ok (.nx σ) S
  | .ret e, σ, S => (ev C e σ S).bind fun x S => .ok (.ret x) S
  | .ex e, σ, S => (ev C e σ S).bind fun _ S => .ok (.nx σ) S
  | .ite t a b, σ, S => (tst C t σ S).bind fun c S => if c then runs C a σ S else runs C b σ S
  | .forr t it b, σ, S => (evw C it σ S).bind fun w S => forL w (fun x σ S => (ob (assign t x S σ) S).bind fun σ S => runs C b σ S) w.items σ S
  | .whl t b, σ, S => whileL (tst C t) (runs C b) maxTurns σ S
  | .raise c as, σ, S => (evs C as σ S).bind fun _ S => .ex c S
  | .pas, σ, S => .ok (.nx σ) S
  | .brk, σ, S => .ok (.brk σ) S
  | .cnt, σ, S => .ok (.cnt σ) S
def runs (C : Calls) : List Sm → Lc → Store → R Fl
  | [], σ, S => .ok (.nx σ) S
  | s :: ss, σ, S => (run C s σ S).bind fun f S => match f with
    | .nx σ => runs C ss σ S
    | f => .ok f S
end
/-- a def: how many parameters, how many names, its body -/
structure Fn where
  ps : Nat
  ns : Nat
  body : List Sm
def start (n : Nat) (xs : List D) : Lc := xs.map some ++ List.replicate (n - xs.length) none
def calls (F : List Fn) : Nat → Calls
  | 0, _, _, _ => .no
  | d + 1, f, xs, S => match F[f]? with
    | some fn => if xs.length = fn.ps then (runs (calls F d) fn.body (start fn.ns xs) S).bind fun f S => match f with
        | .ret x => .ok x S
        | .nx _ => .ok .non S
        | _ => .no
      else .no
    | none => .no
end Ev

set_option Elab.async false
set_option linter.all false
set_option maxRecDepth 100000
/-! ### the small language stands for the text: how values, stores and runs are borne by the abstract heap -/
namespace Sd
open PySem PySem.Spec PyProof.Rows L2
open Ev (D Ob Store Lc R E Sm Calls Walk Fl Fn Bop Cop Ty Bf Mf ev evs evo evt evw tst run runs)

mutual
def Rep (ρ : List Addr) (H : Hp) : D → V → Prop
  | .non, v => v = .non
  | .bl b, v => v = .bl b
  | .int i, v => v = .int i
  | .str x, v => v = .str x
  | .tup ds, v => ∃ a xs, v = .ref a ∧ H a = some (.tup xs) ∧ Reps ρ H ds xs
  | .loc n, v => ∃ a, v = .ref a ∧ ρ[n]? = some a
  | .fn _, _ => False
  | .exc _ _, _ => False
def Reps (ρ : List Addr) (H : Hp) : List D → List V → Prop
  | [], xs => xs = []
  | d :: ds, xs => ∃ v vs, xs = v :: vs ∧ Rep ρ H d v ∧ Reps ρ H ds vs
end
/-- what comes later: more places, no tuple lost -/
structure Fut (ρ : List Addr) (H : Hp) (ρ' : List Addr) (H' : Hp) : Prop where
  pre : ∃ t, ρ' = ρ ++ t
  tup : ∀ a xs, H a = some (.tup xs) → H' a = some (.tup xs)
theorem Fut.refl (ρ : List Addr) (H : Hp) : Fut ρ H ρ H := ⟨⟨[], by simp⟩, fun _ _ h => h⟩
theorem Fut.trans {ρ ρ1 ρ2 : List Addr} {H H1 H2 : Hp} (a : Fut ρ H ρ1 H1) (b : Fut ρ1 H1 ρ2 H2) : Fut ρ H ρ2 H2 :=
  ⟨by obtain ⟨t, e⟩ := a.pre; obtain ⟨u, f⟩ := b.pre; exact ⟨t ++ u, by rw [f, e, List.append_assoc]⟩, fun c xs h => b.tup c xs (a.tup c xs h)⟩
theorem Fut.at {ρ ρ' : List Addr} {H H' : Hp} (f : Fut ρ H ρ' H') {n : Nat} {a : Addr} (h : ρ[n]? = some a) : ρ'[n]? = some a := by
  obtain ⟨t, rfl⟩ := f.pre
  have hn : n < ρ.length := (List.getElem?_eq_some_iff.mp h).1
  rw [List.getElem?_append_left hn]; exact h
mutual
theorem Rep.mono {ρ ρ' : List Addr} {H H' : Hp} (f : Fut ρ H ρ' H') : ∀ {d : D} {v : V}, Rep ρ H d v → Rep ρ' H' d v
  | .non, _, h | .bl _, _, h | .int _, _, h | .str _, _, h => by unfold Rep at h ⊢; exact h
  | .tup ds, v, h => by
    unfold Rep at h ⊢
    obtain ⟨a, xs, e, t, r⟩ := h
    exact ⟨a, xs, e, f.tup a xs t, Reps.mono f r⟩
  | .loc n, v, h => by
    unfold Rep at h ⊢
    obtain ⟨a, e, t⟩ := h
    exact ⟨a, e, f.at t⟩
  | .fn _, _, h | .exc _ _, _, h => by unfold Rep at h; exact h.elim
theorem Reps.mono {ρ ρ' : List Addr} {H H' : Hp} (f : Fut ρ H ρ' H') : ∀ {ds : List D} {xs : List V}, Reps ρ H ds xs → Reps ρ' H' ds xs
  | [], _, h => by unfold Reps at h ⊢; exact h
  | d :: ds, xs, h => by
    unfold Reps at h ⊢
    obtain ⟨v, vs, e, r, rs⟩ := h
    exact ⟨v, vs, e, Rep.mono f r, Reps.mono f rs⟩
end
theorem Reps.nil {ρ : List Addr} {H : Hp} : Reps ρ H [] [] := by unfold Reps; rfl
theorem Reps.cons {ρ : List Addr} {H : Hp} {d : D} {v : V} {ds : List D} {vs : List V} (r : Rep ρ H d v) (rs : Reps ρ H ds vs) : Reps ρ H (d :: ds) (v :: vs) := by
  unfold Reps; exact ⟨v, vs, rfl, r, rs⟩
theorem Reps.length {ρ : List Addr} {H : Hp} : ∀ {ds : List D} {xs : List V}, Reps ρ H ds xs → xs.length = ds.length
  | [], _, h => by unfold Reps at h; rw [h]; rfl
  | d :: ds, xs, h => by
    unfold Reps at h
    obtain ⟨v, vs, rfl, _, rs⟩ := h
    rw [List.length_cons, List.length_cons, Reps.length rs]
theorem Reps.append {ρ : List Addr} {H : Hp} : ∀ {ds es : List D} {xs ys : List V}, Reps ρ H ds xs → Reps ρ H es ys → Reps ρ H (ds ++ es) (xs ++ ys)
  | [], _, _, _, h, r => by unfold Reps at h; rw [h]; exact r
  | d :: ds, _, _, _, h, r => by
    unfold Reps at h
    obtain ⟨v, vs, rfl, a, rs⟩ := h
    exact Reps.cons a (Reps.append rs r)
theorem Reps.take {ρ : List Addr} {H : Hp} : ∀ {ds : List D} {xs : List V} (k : Nat), Reps ρ H ds xs → Reps ρ H (ds.take k) (xs.take k)
  | _, _, 0, _ => Reps.nil
  | [], _, k + 1, h => by unfold Reps at h; rw [h]; exact Reps.nil
  | d :: ds, _, k + 1, h => by
    unfold Reps at h
    obtain ⟨v, vs, rfl, a, rs⟩ := h
    exact Reps.cons a (Reps.take k rs)
theorem Reps.drop {ρ : List Addr} {H : Hp} : ∀ {ds : List D} {xs : List V} (k : Nat), Reps ρ H ds xs → Reps ρ H (ds.drop k) (xs.drop k)
  | _, _, 0, h => h
  | [], _, k + 1, h => by unfold Reps at h; rw [h]; exact Reps.nil
  | d :: ds, _, k + 1, h => by
    unfold Reps at h
    obtain ⟨v, vs, rfl, a, rs⟩ := h
    exact Reps.drop k rs
theorem Reps.get {ρ : List Addr} {H : Hp} : ∀ {ds : List D} {xs : List V} {i : Nat} {d : D}, Reps ρ H ds xs → ds[i]? = some d → ∃ v, xs[i]? = some v ∧ Rep ρ H d v
  | [], _, _, _, _, e => by simp at e
  | d :: ds, _, 0, _, h, e => by
    unfold Reps at h
    obtain ⟨v, vs, rfl, a, rs⟩ := h
    simp at e; subst e
    exact ⟨v, rfl, a⟩
  | d :: ds, _, i + 1, _, h, e => by
    unfold Reps at h
    obtain ⟨v, vs, rfl, a, rs⟩ := h
    obtain ⟨u, q, r⟩ := Reps.get (i := i) rs (by simpa using e)
    exact ⟨u, by simpa using q, r⟩
theorem Reps.set {ρ : List Addr} {H : Hp} {d : D} {v : V} (r : Rep ρ H d v) : ∀ {ds : List D} {xs : List V} (i : Nat), Reps ρ H ds xs → Reps ρ H (ds.set i d) (xs.set i v)
  | [], _, i, h => by unfold Reps at h; rw [h]; exact Reps.nil
  | _ :: _, _, 0, h => by
    unfold Reps at h
    obtain ⟨_, _, rfl, _, rs⟩ := h
    exact Reps.cons r rs
  | _ :: _, _, i + 1, h => by
    unfold Reps at h
    obtain ⟨_, _, rfl, a, rs⟩ := h
    exact Reps.cons a (Reps.set r i rs)
theorem Reps.reverse {ρ : List Addr} {H : Hp} : ∀ {ds : List D} {xs : List V}, Reps ρ H ds xs → Reps ρ H ds.reverse xs.reverse
  | [], _, h => by unfold Reps at h; rw [h]; exact Reps.nil
  | d :: ds, _, h => by
    unfold Reps at h
    obtain ⟨v, vs, rfl, a, rs⟩ := h
    rw [List.reverse_cons, List.reverse_cons]
    exact Reps.append (Reps.reverse rs) (Reps.cons a Reps.nil)
theorem Reps.rep {ρ : List Addr} {H : Hp} {ds : List D} {xs : List V} (h : Reps ρ H ds xs) : ∀ k : Nat, Reps ρ H (List.replicate k ds).flatten (List.replicate k xs).flatten
  | 0 => Reps.nil
  | k + 1 => by
    rw [List.replicate_succ, List.replicate_succ, List.flatten_cons, List.flatten_cons]
    exact Reps.append h (Reps.rep h k)
theorem Reps.ints {ρ : List Addr} {H : Hp} : ∀ ns : List Int, Reps ρ H (ns.map D.int) (ns.map V.int)
  | [] => Reps.nil
  | n :: ns => Reps.cons (by unfold Rep; rfl) (Reps.ints ns)

/-- the script: frozen, or an object of the module -/
def Scr (K : PySem.W.Frag) (H : Hp) (a : Addr) (ns : List Int) : Prop :=
  (∃ o, H a = some (.frz o (.lst (ns.map V.int)))) ∨
    ∃ (o : Obj) (its : Array Value) (n : Nat), K.lookup a = some o ∧ o.cls = .type "list" ∧ o.dict = none ∧ o.data = .seq its n ∧ its.size ≤ sizeLine ∧ Vals (ns.map V.int) its.toList
theorem Scr.sq {K : PySem.W.Frag} {H : Hp} {a : Addr} {ns : List Int} (h : Scr K H a ns) : SqL K H a (ns.map V.int) := by
  rcases h with ⟨o, h⟩ | h
  · exact .inl (.inr ⟨o, h⟩)
  · exact .inr h
/-- pairs of a dict by tuples of ints -/
def RepKV (ρ : List Addr) (H : Hp) (kvs : List (List Int × D)) (vs : List (List Key × V)) : Prop :=
  Paired (fun (p : List Int × D) (q : List Key × V) => q.1 = p.1.map Sum.inl ∧ Rep ρ H p.2 q.2) kvs vs
def RepKI (ρ : List Addr) (H : Hp) (kvs : List (Int × D)) (vs : List (Key × V)) : Prop :=
  Paired (fun (p : Int × D) (q : Key × V) => q.1 = Sum.inl p.1 ∧ Rep ρ H p.2 q.2) kvs vs
def ObRel (K : PySem.W.Frag) (ρ : List Addr) (H : Hp) (a : Addr) : Ob → Prop
  | .lst ds => ∃ xs, H a = some (.lst xs) ∧ Reps ρ H ds xs
  | .scr ns => Scr K H a ns
  | .dt kvs => ∃ vs, H a = some (.dT vs) ∧ RepKV ρ H kvs vs
  | .dk kvs => ∃ vs, H a = some (.dK vs) ∧ RepKI ρ H kvs vs
  | .st _ => False
structure St3 (K : PySem.W.Frag) (ρ : List Addr) (S : Store) (H : Hp) : Prop where
  len : ρ.length = S.length
  nd : ∀ (m n : Nat) (a : Addr), ρ[m]? = some a → ρ[n]? = some a → m ≠ n → (∃ ns, S[m]? = some (.scr ns)) ∨ (∃ ns, S[n]? = some (.scr ns))
  ob : ∀ (n : Nat) (o : Ob) (a : Addr), S[n]? = some o → ρ[n]? = some a → ObRel K ρ H a o
structure LocR (ρ : List Addr) (H : Hp) (l : Lc) (σ : L2.St) : Prop where
  len : l.length = σ.length
  val : ∀ (i : Nat) (d : D), l[i]? = some (some d) → ∃ v, σ[i]? = some (some v) ∧ Rep ρ H d v
theorem LocR.mono {ρ ρ' : List Addr} {H H' : Hp} {l : Lc} {σ : L2.St} (f : Fut ρ H ρ' H') (r : LocR ρ H l σ) : LocR ρ' H' l σ :=
  ⟨r.len, fun i d e => let ⟨v, q, h⟩ := r.val i d e; ⟨v, q, h.mono f⟩⟩
theorem LocR.set {ρ : List Addr} {H : Hp} {l : Lc} {σ : L2.St} {d : D} {v : V} (r : LocR ρ H l σ) (i : Nat) (h : Rep ρ H d v) : LocR ρ H (l.set i (some d)) (σ.set i (some v)) :=
  ⟨by rw [List.length_set, List.length_set]; exact r.len, fun j e q => by
    rw [List.getElem?_set] at q ⊢
    split at q
    · rename_i hij
      subst hij
      split at q
      · rename_i hl
        cases q
        rw [if_pos rfl, if_pos (by rw [← r.len]; exact hl)]
        exact ⟨v, rfl, h⟩
      · cases q
    · rename_i hij
      rw [if_neg hij]
      exact r.val j e q⟩

/-- how a run's end reaches what is wanted -/
def End {α β : Type} (K : PySem.W.Frag) (xw : Nat → Hp → Prop) (rep : List Addr → Hp → α → β → Prop) (ρ : List Addr) (H : Hp) (Q : β → Hp → Prop) : R α → Prop
  | .ok d S => ∀ ρ' H' v, Fut ρ H ρ' H' → St3 K ρ' S H' → rep ρ' H' d v → Q v H'
  | .ex c S => ∀ ρ' H', Fut ρ H ρ' H' → St3 K ρ' S H' → xw c H'
  | .no => False
section
variable {K : PySem.W.Frag} {xw : Nat → Hp → Prop} {ρ ρ' : List Addr} {H H' : Hp} {α β α' β' : Type} {rep : List Addr → Hp → α → β → Prop} {rep' : List Addr → Hp → α' → β' → Prop}
theorem End.mono {r : R α} {Q : β → Hp → Prop} (f : Fut ρ H ρ' H') (h : End K xw rep ρ H Q r) : End K xw rep ρ' H' Q r := by
  cases r with
  | ok d S => exact fun ρ2 H2 v g st r => h ρ2 H2 v (f.trans g) st r
  | ex c S => exact fun ρ2 H2 g st => h ρ2 H2 (f.trans g) st
  | no => exact h
theorem End.bind {r : R α} {f : α → Store → R α'} {Q : β' → Hp → Prop} {Q1 : β → Hp → Prop} (h : End K xw rep' ρ H Q (r.bind f))
    (k : ∀ d S ρ1 H1 v, Fut ρ H ρ1 H1 → St3 K ρ1 S H1 → rep ρ1 H1 d v → End K xw rep' ρ1 H1 Q (f d S) → Q1 v H1) : End K xw rep ρ H Q1 r := by
  cases r with
  | ok d S => exact fun ρ1 H1 v g st r => k d S ρ1 H1 v g st r (End.mono g h)
  | ex c S => exact h
  | no => exact h
theorem End.ok {a : α} {S : Store} {Q : β → Hp → Prop} {v : β} (h : End K xw rep ρ H Q (.ok a S)) (st : St3 K ρ S H) (r : rep ρ H a v) : Q v H := h ρ H v (Fut.refl ρ H) st r
theorem End.ob {o : Option α} {S : Store} {f : α → Store → R α'} {Q : β' → Hp → Prop} (h : End K xw rep' ρ H Q ((Ev.ob o S).bind f)) : ∃ a, o = some a ∧ End K xw rep' ρ H Q (f a S) := by
  cases o with
  | none => exact h.elim
  | some a => exact ⟨a, rfl, h⟩
theorem End.ite {c : Prop} [Decidable c] {a b : R α} {Q : β → Hp → Prop} (h : End K xw rep ρ H Q (if c then a else b)) : (c ∧ End K xw rep ρ H Q a) ∨ (¬ c ∧ End K xw rep ρ H Q b) := by
  split at h
  · exact .inl ⟨‹_›, h⟩
  · exact .inr ⟨‹_›, h⟩
theorem End.guard {c : Prop} [Decidable c] {a : R α} {Q : β → Hp → Prop} (h : End K xw rep ρ H Q (if c then a else .no)) : c ∧ End K xw rep ρ H Q a := by
  rcases h.ite with h | ⟨_, h⟩
  · exact h
  · exact h.elim
end
/-! ### readings -/
def repB (_ : List Addr) (_ : Hp) (a b : Bool) : Prop := a = b
def repI (_ : List Addr) (_ : Hp) (a b : Option Int) : Prop := a = b
section
variable (X : Cx) (xw : Nat → Hp → Prop)
def tE (f : Lc → Store → R D) : TE := fun σ H Q => ∃ ρ l S, St3 X.K ρ S H ∧ LocR ρ H l σ ∧ End X.K xw Rep ρ H Q (f l S)
def tA (f : Lc → Store → R (List D)) : TA := fun σ H Q => ∃ ρ l S, St3 X.K ρ S H ∧ LocR ρ H l σ ∧ End X.K xw Reps ρ H Q (f l S)
def tB3 (f : Lc → Store → R Bool) : TT := fun σ H Q => ∃ ρ l S, St3 X.K ρ S H ∧ LocR ρ H l σ ∧ End X.K xw repB ρ H Q (f l S)
def tO (f : Lc → Store → R (Option Int)) : TO := fun σ H Q => ∃ ρ l S, St3 X.K ρ S H ∧ LocR ρ H l σ ∧ End X.K xw repI ρ H Q (f l S)
variable (C : Calls)
/-- an expression, a test, arguments, a slice's part of the text stand for those of the small language -/
def CE (e : Expr) (i : E) : Prop := PE X e (tE X xw (ev C i))
def CT (e : Expr) (i : E) : Prop := PT X e (tB3 X xw (tst C i))
def CA (es : List Expr) (is : List E) : Prop := PA X es (tA X xw (evs C is))
def CO (e : Option Expr) (i : Option E) : Prop := PO X e (tO X xw (evo C i))
end
theorem PE.imp {X : Cx} {e : Expr} {t t' : TE} (h : PE X e t) (k : ∀ σ H Q, t' σ H Q → t σ H Q) : PE X e t' := fun pins s σ H Q I q => h pins s σ H Q I (k σ H Q q)
theorem PT.imp {X : Cx} {e : Expr} {t t' : TT} (h : PT X e t) (k : ∀ σ H Q, t' σ H Q → t σ H Q) : PT X e t' := fun pins s σ H Q I q => h pins s σ H Q I (k σ H Q q)
theorem PA.imp {X : Cx} {e : List Expr} {t t' : TA} (h : PA X e t) (k : ∀ σ H Q, t' σ H Q → t σ H Q) : PA X e t' := fun pos pins s σ H Q I q => h pos pins s σ H Q I (k σ H Q q)
theorem PO.imp {X : Cx} {e : Option Expr} {t t' : TO} (h : PO X e t) (k : ∀ σ H Q, t' σ H Q → t σ H Q) : PO X e t' := fun pins s σ H Q I q => h pins s σ H Q I (k σ H Q q)
end Sd

set_option Elab.async false
set_option linter.all false
set_option maxRecDepth 100000
namespace Sd
open PySem PySem.Spec PyProof.Rows L2
open Ev (D Ob Store Lc R E Sm Calls Walk Fl Fn Bop Cop Ty Bf Mf ev evs evo evt evw tst run runs)

/-! ### the store and the heap -/
section
variable {K : PySem.W.Frag} {ρ ρ' : List Addr} {S : Store} {H H' : Hp} {a p : Addr} {n : Nat}
theorem St3.at (st : St3 K ρ S H) {o : Ob} (h : S[n]? = some o) : ∃ a, ρ[n]? = some a ∧ ObRel K ρ H a o := by
  have hn : n < S.length := (List.getElem?_eq_some_iff.mp h).1
  have hr : n < ρ.length := by rw [st.len]; exact hn
  exact ⟨ρ[n], List.getElem?_eq_getElem hr, st.ob n o _ h (List.getElem?_eq_getElem hr)⟩
theorem Paired.map2 {α β : Type} {F G : α → β → Prop} : ∀ {l₁ : List α} {l₂ : List β}, Paired F l₁ l₂ → (∀ a b, F a b → G a b) → Paired G l₁ l₂
  | _, _, .nil, _ => .nil
  | _, _, .cons r t, f => .cons (f _ _ r) (Paired.map2 t f)
/-- an object that the heap keeps -/
theorem ObRel.keep {o : Ob} (f : Fut ρ H ρ' H') (k : ∀ u, H a = some u → H' a = some u) (h : ObRel K ρ H a o) : ObRel K ρ' H' a o := by
  cases o with
  | lst ds => obtain ⟨xs, e, r⟩ := h; exact ⟨xs, k _ e, r.mono f⟩
  | scr ns =>
    rcases h with ⟨o, e⟩ | h
    · exact .inl ⟨o, k _ e⟩
    · exact .inr h
  | dt kvs => obtain ⟨vs, e, r⟩ := h; exact ⟨vs, k _ e, Paired.map2 r fun p q z => ⟨z.1, z.2.mono f⟩⟩
  | dk kvs => obtain ⟨vs, e, r⟩ := h; exact ⟨vs, k _ e, Paired.map2 r fun p q z => ⟨z.1, z.2.mono f⟩⟩
  | st _ => exact h
theorem fut_fresh {o : HO} (hp : H p = none) : Fut ρ H ρ (upd H p o) := ⟨⟨[], by simp⟩, fun b xs h => by rw [upd_ne (ne_of_none h hp)]; exact h⟩
theorem fut_new {o : HO} (hp : H p = none) : Fut ρ H (ρ ++ [p]) (upd H p o) := ⟨⟨[p], rfl⟩, fun b xs h => by rw [upd_ne (ne_of_none h hp)]; exact h⟩
/-- a new thing that is no place of the store -/
theorem St3.fresh {o : HO} (st : St3 K ρ S H) (hp : H p = none) : St3 K ρ S (upd H p o) :=
  ⟨st.len, st.nd, fun n ob a h1 h2 => (st.ob n ob a h1 h2).keep (fut_fresh hp) fun u e => by rw [upd_ne (ne_of_none e hp)]; exact e⟩
/-- a new place -/
theorem St3.new {o : Ob} {ho : HO} (st : St3 K ρ S H) (hp : H p = none) (r : ObRel K (ρ ++ [p]) (upd H p ho) p o) : St3 K (ρ ++ [p]) (S ++ [o]) (upd H p ho) := by
  have old : ∀ (m : Nat), (ρ ++ [p])[m]? = some p → m ≠ S.length → ∃ ns, S[m]? = some (.scr ns) := fun m e hm => by
    have hml : m < S.length := by
      have := (List.getElem?_eq_some_iff.mp e).1
      rw [List.length_append, st.len, List.length_singleton] at this
      omega
    rw [List.getElem?_append_left (by rw [st.len]; exact hml)] at e
    have q := st.ob m S[m] p (List.getElem?_eq_getElem hml) e
    rw [List.getElem?_eq_getElem hml]
    generalize S[m] = ob at q
    cases ob with
    | lst ds => obtain ⟨xs, z, _⟩ := q; rw [hp] at z; cases z
    | scr ns => exact ⟨ns, rfl⟩
    | dt kvs => obtain ⟨xs, z, _⟩ := q; rw [hp] at z; cases z
    | dk kvs => obtain ⟨xs, z, _⟩ := q; rw [hp] at z; cases z
    | st _ => exact q.elim
  have lenE : (S ++ [o])[S.length]? = some o := by simp
  have up : ∀ {m : Nat} {ns : List Int}, S[m]? = some (.scr ns) → (S ++ [o])[m]? = some (.scr ns) := fun {m ns} e => by
    rw [List.getElem?_append_left (List.getElem?_eq_some_iff.mp e).1]; exact e
  refine ⟨by rw [List.length_append, List.length_append, st.len]; rfl, fun m n a h1 h2 ne => ?_, fun n ob a h1 h2 => ?_⟩
  · by_cases hm : m = S.length
    · have ha : a = p := by
        rw [hm, ← st.len, List.getElem?_append_right (Nat.le_refl _)] at h1
        simpa using h1.symm
      rw [ha] at h2
      obtain ⟨ns, e⟩ := old n h2 (by omega)
      exact .inr ⟨ns, up e⟩
    · by_cases hn : n = S.length
      · have ha : a = p := by
          rw [hn, ← st.len, List.getElem?_append_right (Nat.le_refl _)] at h2
          simpa using h2.symm
        rw [ha] at h1
        obtain ⟨ns, e⟩ := old m h1 hm
        exact .inl ⟨ns, up e⟩
      · have lt : ∀ {k : Nat}, (ρ ++ [p])[k]? = some a → k ≠ S.length → ρ[k]? = some a := fun {k} e hk => by
          have := (List.getElem?_eq_some_iff.mp e).1
          rw [List.length_append, st.len, List.length_singleton] at this
          rw [List.getElem?_append_left (by rw [st.len]; omega)] at e
          exact e
        rcases st.nd m n a (lt h1 hm) (lt h2 hn) ne with ⟨ns, e⟩ | ⟨ns, e⟩
        · exact .inl ⟨ns, up e⟩
        · exact .inr ⟨ns, up e⟩
  · by_cases hn : n = S.length
    · subst hn
      rw [lenE] at h1
      cases h1
      have ha : a = p := by
        rw [← st.len, List.getElem?_append_right (Nat.le_refl _)] at h2
        simpa using h2.symm
      subst ha
      exact r
    · have hl : n < S.length := by
        have := (List.getElem?_eq_some_iff.mp h1).1
        rw [List.length_append, List.length_singleton] at this
        omega
      rw [List.getElem?_append_left hl] at h1
      rw [List.getElem?_append_left (by rw [st.len]; exact hl)] at h2
      exact (st.ob n ob a h1 h2).keep (fut_new hp) fun u e => by rw [upd_ne (ne_of_none e hp)]; exact e
theorem fut_lst {xs ys : List V} (h : H a = some (.lst xs)) : Fut ρ H ρ (upd H a (.lst ys)) := ⟨⟨[], by simp⟩, fun b zs e => by
  rw [upd_ne (by intro z; rw [z, h] at e; cases e)]; exact e⟩
/-- a list is written -/
theorem St3.wr {xs ys : List V} {ds es : List D} (st : St3 K ρ S H) (hr : ρ[n]? = some a) (hS : S[n]? = some (.lst ds)) (h : H a = some (.lst xs)) (r : Reps ρ H es ys) : St3 K ρ (S.set n (.lst es)) (upd H a (.lst ys)) := by
  have f := fut_lst (ρ := ρ) (ys := ys) h
  refine ⟨by rw [List.length_set]; exact st.len, fun m k b h1 h2 ne => ?_, fun m ob b h1 h2 => ?_⟩
  · have keep : ∀ {j : Nat} {ns : List Int}, S[j]? = some (.scr ns) → (S.set n (.lst es))[j]? = some (.scr ns) := fun {j ns} e => by
      rw [List.getElem?_set]
      split
      · rename_i z; rw [← z, hS] at e; cases e
      · exact e
    rcases st.nd m k b h1 h2 ne with ⟨ns, e⟩ | ⟨ns, e⟩
    · exact .inl ⟨ns, keep e⟩
    · exact .inr ⟨ns, keep e⟩
  · by_cases hm : n = m
    · subst hm
      rw [hr] at h2
      cases h2
      rw [List.getElem?_set, if_pos rfl] at h1
      split at h1
      · cases h1
        exact ⟨ys, upd_same, r.mono f⟩
      · cases h1
    · rw [List.getElem?_set, if_neg hm] at h1
      have q := st.ob m ob b h1 h2
      by_cases hb : b = a
      · subst hb
        rcases st.nd n m b hr h2 hm with ⟨ns, e⟩ | ⟨ns, e⟩
        · rw [hS] at e; cases e
        · rw [h1] at e
          cases e
          rcases q with ⟨o, e⟩ | q
          · rw [h] at e; cases e
          · exact .inr q
      · exact q.keep f fun u e => by rw [upd_ne hb]; exact e
/-- a list that is read -/
theorem St3.lst (st : St3 K ρ S H) {ds : List D} (h : Ev.lstAt S n = some ds) : S[n]? = some (.lst ds) ∧ ∃ a xs, ρ[n]? = some a ∧ H a = some (.lst xs) ∧ Reps ρ H ds xs := by
  unfold Ev.lstAt at h
  split at h
  · rename_i zs e
    cases h
    obtain ⟨a, hr, xs, e2, r⟩ := st.at e
    exact ⟨e, a, xs, hr, e2, r⟩
  · cases h
theorem St3.seq (st : St3 K ρ S H) {ds : List D} (h : Ev.seqAt S n = some ds) : ∃ a xs, ρ[n]? = some a ∧ SqL K H a xs ∧ Reps ρ H ds xs := by
  unfold Ev.seqAt at h
  split at h
  · rename_i zs e
    cases h
    obtain ⟨a, hr, xs, e2, r⟩ := st.at e
    exact ⟨a, xs, hr, SqL.of e2, r⟩
  · rename_i ns e
    cases h
    obtain ⟨a, hr, q⟩ := st.at e
    exact ⟨a, _, hr, Scr.sq q, Reps.ints ns⟩
  · cases h
end
/-! ### values -/
section
variable {ρ : List Addr} {H : Hp} {v : V}
theorem Rep.int' {i : Int} (h : Rep ρ H (.int i) v) : v = .int i := by unfold Rep at h; exact h
theorem Rep.bl' {b : Bool} (h : Rep ρ H (.bl b) v) : v = .bl b := by unfold Rep at h; exact h
theorem Rep.non' (h : Rep ρ H .non v) : v = .non := by unfold Rep at h; exact h
theorem Rep.str' {x : Str} (h : Rep ρ H (.str x) v) : v = .str x := by unfold Rep at h; exact h
theorem Rep.tup' {ds : List D} (h : Rep ρ H (.tup ds) v) : ∃ a xs, v = .ref a ∧ H a = some (.tup xs) ∧ Reps ρ H ds xs := by unfold Rep at h; exact h
theorem Rep.loc' {n : Nat} (h : Rep ρ H (.loc n) v) : ∃ a, v = .ref a ∧ ρ[n]? = some a := by unfold Rep at h; exact h
theorem rep_int (i : Int) : Rep ρ H (.int i) (.int i) := by unfold Rep; rfl
theorem rep_bl (b : Bool) : Rep ρ H (.bl b) (.bl b) := by unfold Rep; rfl
theorem rep_non : Rep ρ H .non .non := by unfold Rep; rfl
theorem rep_str (x : Str) : Rep ρ H (.str x) (.str x) := by unfold Rep; rfl
theorem rep_tup {ds : List D} {a : Addr} {xs : List V} (h : H a = some (.tup xs)) (r : Reps ρ H ds xs) : Rep ρ H (.tup ds) (.ref a) := by unfold Rep; exact ⟨a, xs, rfl, h, r⟩
theorem rep_loc {n : Nat} {a : Addr} (h : ρ[n]? = some a) : Rep ρ H (.loc n) (.ref a) := by unfold Rep; exact ⟨a, rfl, h⟩
end
theorem lim_eq : Ev.lim = sizeLine := by rw [sizeLine_eq]; rfl
section
variable {K : PySem.W.Frag} {xw : Nat → Hp → Prop} {ρ : List Addr} {H : Hp} {S : Store} {Q : VK}
/-- the end is a new tuple -/
theorem End.newT {ds : List D} {xs : List V} (h : End K xw Rep ρ H Q (.ok (.tup ds) S)) (st : St3 K ρ S H) (r : Reps ρ H ds xs) : ∀ p, H p = none → Q (.ref p) (upd H p (.tup xs)) := fun p hp =>
  h ρ _ _ (fut_fresh hp) (st.fresh hp) (rep_tup upd_same (r.mono (fut_fresh hp)))
/-- the end is a new list -/
theorem End.newL {ds : List D} {xs : List V} (h : End K xw Rep ρ H Q (.ok (.loc S.length) (S ++ [.lst ds]))) (st : St3 K ρ S H) (r : Reps ρ H ds xs) : ∀ p, H p = none → Q (.ref p) (upd H p (.lst xs)) := fun p hp =>
  h (ρ ++ [p]) _ _ (fut_new hp) (st.new hp ⟨xs, upd_same, r.mono (fut_new hp)⟩) (rep_loc (by rw [← st.len]; simp))
end
/-! ### expressions -/
section
variable {X : Cx} {xw : Nat → Hp → Prop} {C : Calls} {e a b c : Expr} {i j k : E} {pos : Pos}
theorem ce_int {n : Int} {q} : CE X xw C (.Constant (.int n) q pos) (.c (.int n)) := PE.imp pe_int fun σ H Q ⟨ρ, l, S, st, lr, h⟩ => End.ok h st (rep_int n)
theorem ce_bl {n : Bool} {q} : CE X xw C (.Constant (.bool n) q pos) (.c (.bl n)) := PE.imp pe_bl fun σ H Q ⟨ρ, l, S, st, lr, h⟩ => End.ok h st (rep_bl n)
theorem ce_non {q} : CE X xw C (.Constant .none q pos) (.c .non) := PE.imp pe_non fun σ H Q ⟨ρ, l, S, st, lr, h⟩ => End.ok h st rep_non
theorem ce_str {x : Str} {q} : CE X xw C (.Constant (.str x) q pos) (.c (.str x)) := PE.imp pe_str fun σ H Q ⟨ρ, l, S, st, lr, h⟩ => End.ok h st (rep_str x)
theorem ce_v (n : Nat) {x : Str} (hN : X.N[n]? = some x := by rfl) (hv : Vis X.env.scope x := by first | exact Or.inl rfl | exact Or.inr (Or.inl rfl) | exact Or.inr (Or.inr rfl)) (hd : (x == ("__debug__" : Str)) = false := by decide)
    (hcd : (x == ("__classdict__" : Str)) = false := by decide) : CE X xw C (.Name x pos) (.v n) := PE.imp (pe_var hN hv hd hcd) fun σ H Q ⟨ρ, l, S, st, lr, h⟩ => by
  rw [ev] at h
  cases q : l[n]? with
  | none => rw [q] at h; exact h.elim
  | some o =>
    cases o with
    | none => rw [q] at h; exact h.elim
    | some d =>
      rw [q] at h
      obtain ⟨v, q2, r⟩ := lr.val n d q
      exact ⟨v, q2, End.ok h st r⟩
theorem ca_nil : CA X xw C [] [] := PA.imp pa_nil fun σ H Q ⟨ρ, l, S, st, lr, h⟩ => by
  rw [evs] at h
  exact End.ok h st Reps.nil
theorem ca_cons {es : List Expr} {is : List E} (ha : CE X xw C e i) (hr : CA X xw C es is) (hs : starEach (e :: es) X.env = (false, eval e X.env) :: starEach es X.env := by rfl) : CA X xw C (e :: es) (i :: is) :=
  PA.imp (pa_cons ha hr hs) fun σ H Q ⟨ρ, l, S, st, lr, h⟩ => by
    rw [evs] at h
    exact ⟨ρ, l, S, st, lr, h.bind fun x S1 ρ1 H1 v f1 st1 r1 h1 => ⟨ρ1, l, S1, st1, lr.mono f1, h1.bind fun xs S2 ρ2 H2 vs f2 st2 r2 h2 => h2.ok st2 (Reps.cons (r1.mono f2) r2)⟩⟩
theorem ce_tup {es : List Expr} {is : List E} {q} (h : CA X xw C es is) : CE X xw C (.Tuple es q pos) (.tup is) := PE.imp (pe_tup h) fun σ H Q ⟨ρ, l, S, st, lr, h⟩ => by
  rw [ev] at h
  refine ⟨ρ, l, S, st, lr, h.bind fun xs S1 ρ1 H1 vs f1 st1 r1 h1 => ?_⟩
  obtain ⟨hl, h1⟩ := h1.guard
  exact ⟨by rw [r1.length, ← lim_eq]; exact hl, h1.newT st1 r1⟩
theorem ce_lst {es : List Expr} {is : List E} (h : CA X xw C es is) : CE X xw C (.List es pos) (.lst is) := PE.imp (pe_lst h) fun σ H Q ⟨ρ, l, S, st, lr, h⟩ => by
  rw [ev] at h
  refine ⟨ρ, l, S, st, lr, h.bind fun xs S1 ρ1 H1 vs f1 st1 r1 h1 => ?_⟩
  obtain ⟨hl, h1⟩ := h1.guard
  exact ⟨by rw [r1.length, ← lim_eq]; exact hl, h1.newL st1 r1⟩
/-- two values and a rule -/
theorem two_of {r : R2} {g : D → D → Store → R D} (hg : ∀ {ρ H S x y v u Q}, St3 X.K ρ S H → Rep ρ H x v → Rep ρ H y u → End X.K xw Rep ρ H Q (g x y S) → r v u H Q) :
    ∀ σ H Q, tE X xw (fun l S => (ev C i l S).bind fun x S => (ev C j l S).bind fun y S => g x y S) σ H Q → tOp r (tE X xw (ev C i)) (tE X xw (ev C j)) σ H Q := fun σ H Q ⟨ρ, l, S, st, lr, h⟩ =>
  ⟨ρ, l, S, st, lr, h.bind fun x S1 ρ1 H1 v f1 st1 r1 h1 => ⟨ρ1, l, S1, st1, lr.mono f1, h1.bind fun y S2 ρ2 H2 u f2 st2 r2 h2 => hg st2 (r1.mono f2) r2 h2⟩⟩
def rAdd3 (K : PySem.W.Frag) (rT : R2) : R2 := fun x y H Q => (∃ i j, x = .int i ∧ y = .int j ∧ Q (.int (i + j)) H) ∨ rT x y H Q ∨ rCat x y H Q
end
end Sd

set_option Elab.async false
set_option linter.all false
set_option maxRecDepth 100000
namespace Sd
open PySem PySem.Spec PyProof.Rows L2
open Ev (D Ob Store Lc R E Sm Calls Walk Fl Fn Bop Cop Ty Bf Mf ev evs evo evt evw tst run runs)

/-! ### rules that the layer lacks -/
section
variable {X : Cx}
/-- () + t is t -/
def rCatT0 (K : PySem.W.Frag) : R2 := fun x y H Q => ∃ a b ys, x = .ref a ∧ y = .ref b ∧ SqT K H a [] ∧ SqT K H b ys ∧ Q (.ref b) H
theorem op_catT0 : OpR X (binaryOp .Add) (rCatT0 X.K) := by
  intro pins s σ H x y v u Q I rx ry h
  obtain ⟨a, b, ys, rfl, rfl, ha, hb, q⟩ := h
  cases rx
  cases ry
  obtain ⟨its, r1, p1, _⟩ := I.tuple ha
  obtain ⟨its2, r2, p2, _⟩ := I.tuple hb
  have e0 : its = [] := r1.nil_iff.mpr rfl
  obtain ⟨⟨cls, dd, data, sl⟩, ho, hc, n, hd⟩ := id p1
  obtain ⟨⟨cls2, dd2, data2, sl2⟩, ho2, hc2, n2, hd2⟩ := id p2
  simp only at hc hd hc2 hd2
  subst hc hd hc2 hd2
  exact concat_meets ⟨_, ho, rfl⟩ ⟨_, ho2, rfl⟩ noFill_tuple_add seq_tuple_add PySem.F.slot_tuple_add PySem.F.entry_tuple_add (PySem.F.args_tuple_add_2 _ _)
      (tuple_addW0 a b its.toArray its2.toArray n n2 dd dd2 sl sl2 (by rw [e0]; rfl)) ⟨ho, ho2, ⟨.ref b, H, I, rfl, q⟩⟩
/-- t[lo:hi], the whole of it -/
def rSlW (K : PySem.W.Frag) : V → Option Int → Option Int → Hp → VK → Prop := fun x lo hi H Q => ∃ a xs, x = .ref a ∧ SqT K H a xs ∧
  (HT.sIx xs.length 0 lo = 0 ∧ HT.sIx xs.length xs.length hi = xs.length) ∧ Q (.ref a) H
theorem getItem_tuple_whole {prog : Program} {w : World} {A : Around} {E : Value → Shared → Prop} {s : Shared} {t sl : Addr} {items : Array Value} {vl vu : Value} {lo hi : Option Int} {Q : Value → Shared → Prop} (ht : IsTup s.heap t items) (hs : s.heap.IsSliceOf sl vl vu .none) (pl : IsPart vl lo) (pu : IsPart vu hi)
    (hw : HT.sIx items.size 0 lo = 0 ∧ HT.sIx items.size items.size hi = items.size) (h : Q (.ref t) s) : wpAny (model prog w) A (getItem (.ref t) (.ref sl)) Q E s := by
  obtain ⟨os, hos, hcs, hds⟩ := id hs
  have hTs : s.TypeIs (.ref sl) "slice" := ⟨os, hos, hcs⟩
  unfold getItem
  try with_reducible refine wpAny_holding ?_
  first | refine wpAny_bind (wpAny_pure ?_) | skip
  refine wpAny_bind (wpAny_sequenceKey ht.typeIs (by decide) ?_)
  refine wpAny_bind (wpAny_callSpecial?_slot (name := Str.ofString "__getitem__") ht.typeIs PyProof.Rows.slot_tuple_getitem
    (wpAny_call_entry PyProof.Rows.slot_tuple_getitem ht.typeIs entry_tuple_getitem ?_ (args_tuple_getitem _ _)))
  show wpAny _ _ (Builtin.Tuple.tupleItemsOf (.ref t) >>= _) _ _ s
  refine wpAny_bind (tupleItemsOf_ ht ?_)
  refine wpAny_bind (wpAny_typeOf hTs ?_)
  rw [if_pos (by decide)]
  refine wpAny_bind (HT.sliceApplied_gen hs pl pu ?_)
  have hyes : ((((HT.sIx items.size 0 lo : Nat) : Int) == 0 && (1 : Int) == 1 && (HT.sIx items.size items.size hi - HT.sIx items.size 0 lo) == items.size) = true) := by
    rw [hw.1, hw.2]; simp
  show wpAny _ _ (if (((HT.sIx items.size 0 lo : Nat) : Int) == 0 && (1 : Int) == 1 && (HT.sIx items.size items.size hi - HT.sIx items.size 0 lo) == items.size) = true then _ else _) _ _ s
  rw [if_pos hyes]
  refine wpAny_bind (wpAny_bind (wpAny_typeOf ht.typeIs (wpAny_pure ?_)))
  rw [if_pos (by decide)]
  exact wpAny_bind (wpAny_rule (wpAny_pure ⟨_, rfl, wpAny_pure h⟩))
theorem sl_whole : SlR X (rSlW X.K) := by
  intro pins s σ H x v vl vu lo hi sl Q I rx hs pl pu h
  obtain ⟨a, xs, rfl, hx, hw, q⟩ := h
  cases rx
  obtain ⟨its, r, ht, hz⟩ := I.tuple hx
  have hlen : its.toArray.size = xs.length := by rw [List.size_toArray]; exact r.length.symm
  refine ⟨"tuple", _, PyProof.Rows.slot_tuple_getitem.lookup, ht.typeIs, ?_⟩
  exact getItem_tuple_whole ht hs pl pu (by rw [hlen]; exact hw) ⟨.ref a, H, I, rfl, q⟩
theorem bits_of {i : Int} (h : Ev.fits i = true) : Builtin.Int.intBits i ≤ 2 ^ 20 := by
  have h1 : i.natAbs < 2 ^ 1000 := of_decide_eq_true h
  unfold Builtin.Int.intBits
  split
  · exact Nat.zero_le _
  · rename_i hz
    have hne : i.natAbs ≠ 0 := by intro z; exact hz (by simp [Int.natAbs_eq_zero.mp z])
    have := (Nat.log2_lt hne).mpr h1
    have e : (2 : Nat) ^ 20 = 1048576 := by decide
    omega
theorem op_mulF : OpR X (binaryOp .Mult) (rI (fun i j => Ev.fits i = true ∧ Ev.fits j = true) fun i j => .int (i * j)) := opI fun _ _ _ _ _ _ _ hc q => mul_int q (IntMulOk.of_bits (bits_of hc.1) (bits_of hc.2))
theorem iop_mulF : OpR X (inplaceOp .Mult) (rI (fun i j => Ev.fits i = true ∧ Ev.fits j = true) fun i j => .int (i * j)) := opI fun _ _ _ _ _ _ _ hc q => imul_int q (IntMulOk.of_bits (bits_of hc.1) (bits_of hc.2))
/-- is of two bools -/
theorem op_isB : OpR X (compareOp .Is) (fun x y H Q => ∃ a b, x = .bl a ∧ y = .bl b ∧ Q (.bl (decide (a = b))) H) := by
  intro pins s σ H x y v u Q I rx ry h
  obtain ⟨a, b, rfl, rfl, q⟩ := h
  cases rx
  cases ry
  cases a <;> cases b <;> exact wpAny_pure ⟨.bl _, H, I, rfl, q⟩
theorem op_isnB : OpR X (compareOp .IsNot) (fun x y H Q => ∃ a b, x = .bl a ∧ y = .bl b ∧ Q (.bl (decide (a ≠ b))) H) := by
  intro pins s σ H x y v u Q I rx ry h
  obtain ⟨a, b, rfl, rfl, q⟩ := h
  cases rx
  cases ry
  cases a <;> cases b <;> exact wpAny_pure ⟨.bl _, H, I, rfl, q⟩
end
end Sd

set_option Elab.async false
set_option maxRecDepth 100000
namespace Sd
open PySem PySem.Spec PyProof.Rows L2
theorem noR_tuple_mul : fillsNumberSlot (.type "tuple") "mul" = pure false :=
  PySem.fillsNumberSlot_seq (id := "tuple.__mul__") (r := some (.builtin "tuple.__rmul__")) F.slot_tuple_mul.lookup (by decide +kernel) F.slot_tuple_rmul.lookup (by decide +kernel)
theorem repeat_tuple : seqRepeat? (.type "tuple") = pure (some (.builtin "tuple.__mul__")) := by
  unfold seqRepeat?
  rw [PySem.seqSlot_of (T := "tuple") (name := "__mul__") (id := "tuple.__mul__") F.slot_tuple_mul.lookup (by decide +kernel), PySem.seqSlot_of (T := "tuple") (name := "__rmul__") (id := "tuple.__rmul__") F.slot_tuple_rmul.lookup (by decide +kernel)]
  rfl
theorem int_rmul_tuple (a : Int) (t : Tok) (l : Addr) (items : Array Value) (n : Nat) (dd : Option Addr) (sl : Array (Option Value)) :
    Meets (Builtin.«int.__rmul__» ⟨[.int a t, .ref l], []⟩) (fun _ R s => s.heap.get? l = some { cls := .type "tuple", dict := dd, data := .seq items n, slots := sl } ∧ R (.ok (.ret Value.notImplemented)) s) :=
  .of_wp fun prog w A R s h => by obtain ⟨hp, g, d, tk, os⟩ := s; obtain ⟨hl, h⟩ := h; wp_walk; exact ⟨_, rfl, h⟩
theorem tup_mul_same (l : Addr) (items : Array Value) (n : Nat) (dd : Option Addr) (sl : Array (Option Value)) (x : Int) (u : Tok) (h0 : ¬ (x < -(2 ^ 63) || x ≥ 2 ^ 63) = true) (hc : (items.isEmpty || x == 1) = true) :
    Meets (Builtin.«tuple.__mul__» ⟨[.ref l, .int x u], []⟩) (fun _ R s => s.heap.get? l = some { cls := .type "tuple", dict := dd, data := .seq items n, slots := sl } ∧ R (.ok (.ret (Value.ref l))) { s with heap := s.heap, toks := s.toks }) :=
  .of_wp fun prog w A R s h => by obtain ⟨hp, g, d, tk, os⟩ := s; obtain ⟨hl, h⟩ := h; have f1 := AutoSeq1.idx_int; have f2 := AutoSeq1.sub_tuple_tuple; wp_walk; rw [if_neg h0]; wp_walk using PySem.AutoSeq1.wpAny_loadPart' hl; exact ⟨_, rfl, h⟩
theorem tup_mul_zero (l : Addr) (items : Array Value) (n : Nat) (dd : Option Addr) (sl : Array (Option Value)) (x : Int) (u : Tok) (h0 : ¬ (x < -(2 ^ 63) || x ≥ 2 ^ 63) = true) (hc : ¬ (items.isEmpty || x == 1) = true) (h1 : (x ≤ 0 || items.isEmpty) = true) :
    Meets (Builtin.«tuple.__mul__» ⟨[.ref l, .int x u], []⟩) (fun _ R s => s.heap.get? l = some { cls := .type "tuple", dict := dd, data := .seq items n, slots := sl } ∧ R (.ok (.ret (Value.ref s.heap.objs.size))) { s with heap := s.heap.push { cls := .type "tuple", data := .seq #[] }, toks := s.toks }) :=
  .of_wp fun prog w A R s h => by obtain ⟨hp, g, d, tk, os⟩ := s; obtain ⟨hl, h⟩ := h; have f1 := AutoSeq1.idx_int; have f2 := AutoSeq1.sub_tuple_tuple; wp_walk; rw [if_neg h0]; wp_walk using PySem.AutoSeq1.wpAny_loadPart' hl; exact ⟨_, rfl, h⟩
theorem tup_mul_new (l : Addr) (items : Array Value) (n : Nat) (dd : Option Addr) (sl : Array (Option Value)) (x : Int) (u : Tok) (h0 : ¬ (x < -(2 ^ 63) || x ≥ 2 ^ 63) = true) (hc : ¬ (items.isEmpty || x == 1) = true) (h1 : ¬ (x ≤ 0 || items.isEmpty) = true)
    (h2 : ¬ (items.size * x > (2 ^ 63 - 1) / 8)) (h3 : ¬ Builtin.Tuple.tupleTooMany (items.size * x) = true) (hsz : ((List.replicate x.toNat items).foldl (· ++ ·) #[]).size ≤ sizeLine) :
    Meets (Builtin.«tuple.__mul__» ⟨[.ref l, .int x u], []⟩) (fun _ R s => s.heap.get? l = some { cls := .type "tuple", dict := dd, data := .seq items n, slots := sl } ∧ R (.ok (.ret (Value.ref s.heap.objs.size))) { s with heap := s.heap.push { cls := .type "tuple", data := .seq ((List.replicate x.toNat items).foldl (· ++ ·) #[]) }, toks := s.toks }) :=
  .of_wp fun prog w A R s h => by obtain ⟨hp, g, d, tk, os⟩ := s; obtain ⟨hl, h⟩ := h; have f1 := AutoSeq1.idx_int; have f2 := AutoSeq1.sub_tuple_tuple; wp_walk; rw [if_neg h0]; wp_walk using PySem.AutoSeq1.wpAny_loadPart' hl; rw [if_neg h2]; wp_walk using PySem.AutoSeq1.wpAny_loadPart' hl; exact ⟨_, rfl, h⟩

/-- a tuple times a small int -/
def rRepT (K : PySem.W.Frag) : R2 := fun x y H Q => ∃ a k xs, x = .ref a ∧ y = .int k ∧ SqT K H a xs ∧ (0 ≤ k ∧ k < 1000 ∧ xs.length ≤ 1000) ∧
  ((xs = [] ∨ k = 1) → Q (.ref a) H) ∧ (¬ (xs = [] ∨ k = 1) → ∀ p, H p = none → Q (.ref p) (upd H p (.tup (List.replicate k.toNat xs).flatten)))
theorem op_repT {X : Cx} : OpR X (binaryOp .Mult) (rRepT X.K) := by
  intro pins s σ H x y v u Q I rx ry h
  obtain ⟨a, k, xs, rfl, rfl, hx, ⟨k0, k1, hz⟩, q1, q2⟩ := h
  cases rx
  obtain ⟨t, rfl⟩ := ry
  obtain ⟨its, r, pt, _⟩ := I.tuple hx
  have hl := r.length
  obtain ⟨⟨cls, dd, data, sl⟩, ho, hc, n, hd⟩ := id pt
  simp only at hc hd
  subst hc hd
  have h0 : ¬ (decide (k < -(2 ^ 63)) || decide (k ≥ 2 ^ 63)) = true := by
    rw [decide_eq_false (by omega), decide_eq_false (by omega)]; exact Bool.false_ne_true
  refine wpAny_binaryOp_repeat_ref (T := "tuple") (U := "int") (by decide) ⟨_, ho, rfl⟩ (fun s' => typeIs_int s' k t) noR_tuple_mul F.fills_int_mul F.slot_int_rmul repeat_tuple F.slot_int_index.lookup
    (call_meets F.slot_int_rmul (typeIs_int s k t) F.entry_int_rmul (F.args_int_rmul_2 _ _) (int_rmul_tuple k t a its.toArray n dd sl) ⟨ho, rfl, ⟨_, ho, rfl⟩, ?_⟩)
  have hnil : its = [] ↔ xs = [] := r.nil_iff
  by_cases c : xs = [] ∨ k = 1
  · have c' : (its.toArray.isEmpty || k == 1) = true := by
      rcases c with c | c
      · rw [hnil.mpr c]; rfl
      · rw [c]; simp
    exact call_meets F.slot_tuple_mul ⟨_, ho, rfl⟩ F.entry_tuple_mul (F.args_tuple_mul_2 _ _) (tup_mul_same a its.toArray n dd sl k t h0 c') ⟨ho, ⟨.ref a, H, I, rfl, q1 c⟩⟩
  · have ne : its ≠ [] := fun z => c (.inl (hnil.mp z))
    have k1 : k ≠ 1 := fun z => c (.inr z)
    have c' : ¬ (its.toArray.isEmpty || k == 1) = true := by
      rw [beq_eq_false_iff_ne.mpr k1, Bool.or_false, List.isEmpty_toArray]
      cases its with
      | nil => exact absurd rfl ne
      | cons _ _ => exact Bool.false_ne_true
    have fin : ∀ arr : List Value, arr = (List.replicate k.toNat its).flatten → EP X pins σ Q (Value.ref s.heap.objs.size) { s with heap := s.heap.push { cls := .type "tuple", data := .seq arr.toArray } } := fun arr e => by
      subst e
      refine ⟨.ref s.heap.objs.size, _, I.laid (t' := s.toks) (o := .tup (List.replicate k.toNat xs).flatten) (fun b ob q => Heap.get?_push_of_some _ q) (Nat.le_refl _) ?_, rfl, q2 c _ (I.hok.fresh (Nat.le_refl _))⟩
      refine ⟨?_, _, r.rep k.toNat, IsTup.new _ _⟩
      rw [len_rep, sizeLine_eq]
      have : k.toNat * xs.length ≤ 1000 * 1000 := Nat.mul_le_mul (by omega) hz
      omega
    by_cases z : k = 0
    · have h1 : (decide (k ≤ 0) || its.toArray.isEmpty) = true := by rw [z]; rfl
      refine call_meets F.slot_tuple_mul ⟨_, ho, rfl⟩ F.entry_tuple_mul (F.args_tuple_mul_2 _ _) (tup_mul_zero a its.toArray n dd sl k t h0 c' h1) ⟨ho, ?_⟩
      exact fin [] (by rw [z]; rfl)
    · have h1 : ¬ (decide (k ≤ 0) || its.toArray.isEmpty) = true := by
        rw [decide_eq_false (by omega), Bool.false_or, List.isEmpty_toArray]
        cases its with
        | nil => exact absurd rfl ne
        | cons _ _ => exact Bool.false_ne_true
      have hm : (its.toArray.size : Int) * k ≤ 1000 * 1000 := by
        rw [List.size_toArray, ← hl]
        exact Int.mul_le_mul (by omega) (by omega) k0 (by omega)
      have joined : (List.replicate k.toNat its.toArray).foldl (· ++ ·) #[] = (List.replicate k.toNat its).flatten.toArray := by
        have := foldl_rep its k.toNat []
        rw [List.nil_append] at this
        exact this
      have hsz : ((List.replicate k.toNat its.toArray).foldl (· ++ ·) #[]).size ≤ sizeLine := by
        rw [joined, List.size_toArray, len_rep, sizeLine_eq, ← hl]
        have : k.toNat * xs.length ≤ 1000 * 1000 := Nat.mul_le_mul (by omega) hz
        omega
      refine call_meets F.slot_tuple_mul ⟨_, ho, rfl⟩ F.entry_tuple_mul (F.args_tuple_mul_2 _ _) (tup_mul_new a its.toArray n dd sl k t h0 c' h1 (by omega) (by
        unfold Builtin.Tuple.tupleTooMany
        rw [decide_eq_false (by rw [sizeLine_eq]; omega)]
        exact Bool.false_ne_true) hsz) ⟨ho, ?_⟩
      rw [joined]
      exact fin _ rfl
end Sd

set_option Elab.async false
set_option linter.all false
set_option maxRecDepth 100000
namespace Sd
open PySem PySem.Spec PyProof.Rows L2
open Ev (D Ob Store Lc R E Sm Calls Walk Fl Fn Bop Cop Ty Bf Mf ev evs evo evt evw tst run runs)
section
variable {X : Cx} {xw : Nat → Hp → Prop} {C : Calls} {e a b c : Expr} {i j k : E} {pos : Pos}
variable {ρ : List Addr} {H : Hp} {S : Store} {x y : D} {v u : V} {Q : VK} {K : PySem.W.Frag}

/-! ### operators -/
def rAddA (K : PySem.W.Frag) : R2 := fun x y H Q => rI0 (fun i j => .int (i + j)) x y H Q ∨ (rCatT K x y H Q ∨ (rCatT0 K x y H Q ∨ rCat x y H Q))
theorem op_addA : OpR X (binaryOp .Add) (rAddA X.K) := op_add.or (op_catT.or (op_catT0.or op_cat))
theorem add_ok (st : St3 K ρ S H) (rx : Rep ρ H x v) (ry : Rep ρ H y u) (h : End K xw Rep ρ H Q (Ev.binop .add x y S)) : rAddA K v u H Q := by
  cases x with
  | int i => cases y with
    | int j => exact .inl ⟨i, j, rx.int', ry.int', End.ok h st (rep_int _)⟩
    | _ => exact False.elim h
  | tup ds => cases y with
    | tup es =>
      obtain ⟨hl, h⟩ := End.guard h
      obtain ⟨p, xs, rfl, hp, r1⟩ := rx.tup'
      obtain ⟨q, ys, rfl, hq, r2⟩ := ry.tup'
      have l1 := r1.length
      have l2 := r2.length
      by_cases z : xs = []
      · subst z
        have e1 : ds = [] := List.length_eq_zero_iff.mp l1.symm
        subst e1
        exact .inr (.inr (.inl ⟨p, q, ys, rfl, rfl, SqT.of hp, SqT.of hq, End.ok h st (rep_tup hq r2)⟩))
      · refine .inr (.inl ⟨p, q, xs, ys, rfl, rfl, SqT.of hp, SqT.of hq, z, by rw [l1, l2, ← lim_eq]; exact hl, fun z2 => ?_, fun _ => h.newT st (r1.append r2)⟩)
        subst z2
        have e2 : es = [] := List.length_eq_zero_iff.mp l2.symm
        subst e2
        refine End.ok h st ?_
        rw [List.append_nil]
        exact rep_tup hp r1
    | _ => exact False.elim h
  | loc m => cases y with
    | loc n =>
      have h' : End K xw Rep ρ H Q (match Ev.lstAt S m, Ev.lstAt S n with
        | some a, some b => if a.length + b.length ≤ Ev.lim then .ok (.loc S.length) (S ++ [.lst (a ++ b)]) else .no
        | _, _ => .no) := h
      cases e1 : Ev.lstAt S m with
      | none => rw [e1] at h'; exact False.elim h'
      | some ds =>
        cases e2 : Ev.lstAt S n with
        | none => rw [e1, e2] at h'; exact False.elim h'
        | some es =>
          rw [e1, e2] at h'
          obtain ⟨hl, h⟩ := End.guard h'
          obtain ⟨_, p, xs, q1, hp, r1⟩ := st.lst e1
          obtain ⟨_, q, ys, q2, hq, r2⟩ := st.lst e2
          obtain ⟨p', rfl, t1⟩ := rx.loc'
          obtain ⟨q', rfl, t2⟩ := ry.loc'
          rw [q1] at t1; cases t1
          rw [q2] at t2; cases t2
          exact .inr (.inr (.inr ⟨p, q, xs, ys, rfl, rfl, hp, hq, by rw [r1.length, r2.length, ← lim_eq]; exact hl, h.newL st (r1.append r2)⟩))
    | _ => exact False.elim h
  | _ => cases y <;> exact False.elim h
theorem sub_ok (st : St3 K ρ S H) (rx : Rep ρ H x v) (ry : Rep ρ H y u) (h : End K xw Rep ρ H Q (Ev.binop .sub x y S)) : rI0 (fun i j => .int (i - j)) v u H Q := by
  cases x with
  | int i => cases y with
    | int j => exact ⟨i, j, rx.int', ry.int', End.ok h st (rep_int _)⟩
    | _ => exact False.elim h
  | _ => cases y <;> exact False.elim h
def rMulA (K : PySem.W.Frag) : R2 := fun x y H Q => rI (fun i j => Ev.fits i = true ∧ Ev.fits j = true) (fun i j => .int (i * j)) x y H Q ∨ rRepT K x y H Q
theorem op_mulA : OpR X (binaryOp .Mult) (rMulA X.K) := op_mulF.or op_repT
theorem mul_ok (st : St3 K ρ S H) (rx : Rep ρ H x v) (ry : Rep ρ H y u) (h : End K xw Rep ρ H Q (Ev.binop .mul x y S)) : rMulA K v u H Q := by
  cases x with
  | int i => cases y with
    | int j =>
      obtain ⟨hc, h⟩ := End.guard h
      exact .inl ⟨i, j, rx.int', ry.int', (Bool.and_eq_true _ _).mp hc, End.ok h st (rep_int _)⟩
    | _ => exact False.elim h
  | tup ds => cases y with
    | int k =>
      obtain ⟨⟨h0, h1, h2⟩, h⟩ := End.guard h
      obtain ⟨p, xs, rfl, hp, r1⟩ := rx.tup'
      have l1 := r1.length
      refine .inr ⟨p, k, xs, rfl, ry.int', SqT.of hp, ⟨h0, h1, by rw [l1]; exact h2⟩, fun z => ?_, fun _ => h.newT st (r1.rep k.toNat)⟩
      refine End.ok h st (rep_tup hp ?_)
      rcases z with z | z
      · subst z
        have e1 : ds = [] := List.length_eq_zero_iff.mp l1.symm
        subst e1
        have : ∀ m : Nat, (List.replicate m ([] : List D)).flatten = [] := fun m => by induction m with | zero => rfl | succ m ih => rw [List.replicate_succ, List.flatten_cons, ih]; rfl
        rw [this]
        exact Reps.nil
      · subst z
        show Reps ρ H (List.replicate 1 ds).flatten xs
        rw [List.replicate_succ, List.replicate_zero, List.flatten_cons, List.flatten_nil, List.append_nil]
        exact r1
    | _ => exact False.elim h
  | _ => cases y <;> exact False.elim h
theorem fdiv_ok (st : St3 K ρ S H) (rx : Rep ρ H x v) (ry : Rep ρ H y u) (h : End K xw Rep ρ H Q (Ev.binop .fdiv x y S)) : rI CDiv (fun i j => .int (i / j)) v u H Q := by
  cases x with
  | int i => cases y with
    | int j =>
      obtain ⟨hc, h⟩ := End.guard h
      exact ⟨i, j, rx.int', ry.int', hc, End.ok h st (rep_int _)⟩
    | _ => exact False.elim h
  | _ => cases y <;> exact False.elim h
theorem mod_ok (st : St3 K ρ S H) (rx : Rep ρ H x v) (ry : Rep ρ H y u) (h : End K xw Rep ρ H Q (Ev.binop .mod x y S)) : rI (fun _ j => 0 < j) (fun i j => .int (i % j)) v u H Q := by
  cases x with
  | int i => cases y with
    | int j =>
      obtain ⟨hc, h⟩ := End.guard h
      exact ⟨i, j, rx.int', ry.int', hc, End.ok h st (rep_int _)⟩
    | _ => exact False.elim h
  | _ => cases y <;> exact False.elim h
theorem pow_ok (st : St3 K ρ S H) (rx : Rep ρ H x v) (ry : Rep ρ H y u) (h : End K xw Rep ρ H Q (Ev.binop .pow x y S)) : rI CPow (fun i j => .int (i ^ j.toNat)) v u H Q := by
  cases x with
  | int i => cases y with
    | int j =>
      obtain ⟨hc, h⟩ := End.guard h
      exact ⟨i, j, rx.int', ry.int', ⟨hc.1, by omega, hc.2.2⟩, End.ok h st (rep_int _)⟩
    | _ => exact False.elim h
  | _ => cases y <;> exact False.elim h
theorem ce_add (ha : CE X xw C a i) (hb : CE X xw C b j) : CE X xw C (.BinOp a .Add b pos) (.bin .add i j) := PE.imp (pe_op op_addA ha hb) (two_of fun st rx ry h => add_ok st rx ry h)
theorem ce_sub (ha : CE X xw C a i) (hb : CE X xw C b j) : CE X xw C (.BinOp a .Sub b pos) (.bin .sub i j) := PE.imp (pe_op op_sub ha hb) (two_of fun st rx ry h => sub_ok st rx ry h)
theorem ce_mul (ha : CE X xw C a i) (hb : CE X xw C b j) : CE X xw C (.BinOp a .Mult b pos) (.bin .mul i j) := PE.imp (pe_op op_mulA ha hb) (two_of fun st rx ry h => mul_ok st rx ry h)
theorem ce_fdiv (ha : CE X xw C a i) (hb : CE X xw C b j) : CE X xw C (.BinOp a .FloorDiv b pos) (.bin .fdiv i j) := PE.imp (pe_op op_fdiv ha hb) (two_of fun st rx ry h => fdiv_ok st rx ry h)
theorem ce_mod (ha : CE X xw C a i) (hb : CE X xw C b j) : CE X xw C (.BinOp a .Mod b pos) (.bin .mod i j) := PE.imp (pe_op op_mod ha hb) (two_of fun st rx ry h => mod_ok st rx ry h)
theorem ce_pow (ha : CE X xw C a i) (hb : CE X xw C b j) : CE X xw C (.BinOp a .Pow b pos) (.bin .pow i j) := PE.imp (pe_op op_pow ha hb) (two_of fun st rx ry h => pow_ok st rx ry h)
theorem ce_neg (ha : CE X xw C a i) : CE X xw C (.UnaryOp .USub a pos) (.neg i) := PE.imp (pe_un un_neg ha) fun σ H Q ⟨ρ, l, S, st, lr, h⟩ => by
  refine ⟨ρ, l, S, st, lr, End.bind (show End X.K xw Rep ρ H Q ((ev C i l S).bind _) from h) fun x S1 ρ1 H1 v f1 st1 r1 h1 => ?_⟩
  cases x with
  | int n => exact ⟨n, r1.int', End.ok h1 st1 (rep_int _)⟩
  | _ => exact False.elim h1
/-! ### truth and tests -/
theorem truth_ok {n : Bool} (st : St3 K ρ S H) (rx : Rep ρ H x v) (h : Ev.truth S x = some n) : TruV K v H n := by
  cases x with
  | non => rw [rx.non']; exact (Option.some.inj h).symm
  | bl b => rw [rx.bl']; exact (Option.some.inj h).symm
  | int i =>
    rw [rx.int']
    have h' := Option.some.inj h
    show n = (i != 0)
    rw [← h']
    by_cases z : i = 0
    · subst z; rfl
    · rw [decide_eq_true z]; exact (bne_iff_ne.mpr z).symm
  | tup ds =>
    obtain ⟨p, xs, rfl, hp, r⟩ := rx.tup'
    have h' := Option.some.inj h
    refine .inr (.inl ⟨xs, SqT.of hp, ?_⟩)
    rw [← h']
    have := r.length
    cases ds <;> cases xs <;> first | rfl | (simp at this)
  | loc m =>
    have h2 : (Ev.seqAt S m).map (fun xs => !xs.isEmpty) = some n := h
    cases e : Ev.seqAt S m with
    | none => rw [e] at h2; cases h2
    | some ds =>
      rw [e] at h2
      obtain ⟨p, xs, q, hp, r⟩ := st.seq e
      obtain ⟨p', rfl, t⟩ := rx.loc'
      rw [q] at t; cases t
      refine .inl ⟨xs, hp, ?_⟩
      have h' := Option.some.inj h2
      rw [← h']
      have := r.length
      cases ds <;> cases xs <;> first | rfl | (simp at this)
  | _ => cases h
/-- a test that is the truth of its value -/
theorem ct_val (ha : CE X xw C a i) (he : ∀ whole, isTrue a X.env whole = (do let v ← whole; standAt a.pos; holding [v] (truthy v)) := by intro _; rfl) : CT X xw C a i :=
  PT.imp (pt_truth ha he) fun σ H Q ⟨ρ, l, S, st, lr, h⟩ => by
    refine ⟨ρ, l, S, st, lr, End.bind (show End X.K xw repB ρ H Q ((ev C i l S).bind fun x S => Ev.ob (Ev.truth S x) S) from h) fun x S1 ρ1 H1 v f1 st1 r1 h1 => ?_⟩
    cases q : Ev.truth S1 x with
    | none => rw [q] at h1; exact False.elim h1
    | some n => rw [q] at h1; exact ⟨n, truth_ok st1 r1 q, End.ok h1 st1 rfl⟩
theorem ct_not (ha : CT X xw C a i) : CT X xw C (.UnaryOp .Not a pos) (.not i) := PT.imp (pt_not ha) fun σ H Q ⟨ρ, l, S, st, lr, h⟩ => by
  refine ⟨ρ, l, S, st, lr, ?_⟩
  have h' : End X.K xw repB ρ H Q (((ev C i l S).bind fun x S => (Ev.ob (Ev.truth S x) S).bind fun b S => .ok (.bl !b) S).bind fun x S => Ev.ob (Ev.truth S x) S) := h
  show End X.K xw repB ρ H (fun c H1 => Q (!c) H1) ((ev C i l S).bind fun x S => Ev.ob (Ev.truth S x) S)
  cases q : ev C i l S with
  | no => rw [q] at h'; exact h'
  | ex c S1 => rw [q] at h'; exact h'
  | ok x S1 =>
    rw [q] at h'
    show End X.K xw repB ρ H _ (Ev.ob (Ev.truth S1 x) S1)
    have h2 : End X.K xw repB ρ H Q (((Ev.ob (Ev.truth S1 x) S1).bind fun b S => .ok (.bl !b) S).bind fun x S => Ev.ob (Ev.truth S x) S) := h'
    cases t : Ev.truth S1 x with
    | none => rw [t] at h2; exact h2
    | some n =>
      rw [t] at h2
      intro ρ1 H1 w f1 st1 e
      exact h2 ρ1 H1 (!w) f1 st1 (by rw [← (show n = w from e)]; rfl)
theorem ce_not (ha : CE X xw C a i) : CE X xw C (.UnaryOp .Not a pos) (.not i) := by
  intro pins s σ H Q I hq
  obtain ⟨ρ, l, S, st, lr, h⟩ := hq
  have h' : End X.K xw Rep ρ H Q ((ev C i l S).bind fun x S => (Ev.ob (Ev.truth S x) S).bind fun b S => .ok (.bl !b) S) := h
  refine UnaryOp_ (thn (ha pins s σ H (fun v H1 => ∃ k, TruV X.K v H1 k ∧ Q (.bl !k) H1) I ⟨ρ, l, S, st, lr, End.bind h' fun x S1 ρ1 H1 v f1 st1 r1 h1 => ?_⟩) fun v s1 ⟨x, H1, I1, r1, q1⟩ => ?_)
  · cases q : Ev.truth S1 x with
    | none => rw [q] at h1; exact False.elim h1
    | some n => rw [q] at h1; exact ⟨n, truth_ok st1 r1 q, End.ok h1 st1 (rep_bl _)⟩
  · obtain ⟨k, tk, q2⟩ := q1
    refine not_of (thn (tru_ok pins s1 σ H1 x v (fun k' H' => Q (.bl !k') H') I1 r1 ⟨k, tk, q2⟩) fun k' s2 ⟨H2, I2, q3⟩ => ?_)
    exact ⟨.bl (!k'), H2, I2, rfl, q3⟩
theorem ce_and {rest : List Expr} (ha : CE X xw C a i) (hb : CE X xw C (.BoolOp .And (b :: rest) pos) j) : CE X xw C (.BoolOp .And (a :: b :: rest) pos) (.and i j) := PE.imp (pe_and ha hb) fun σ H Q ⟨ρ, l, S, st, lr, h⟩ => by
  refine ⟨ρ, l, S, st, lr, End.bind (show End X.K xw Rep ρ H Q ((ev C i l S).bind _) from h) fun x S1 ρ1 H1 v f1 st1 r1 h1 => ?_⟩
  cases x with
  | bl c =>
    refine ⟨c, r1.bl', ?_⟩
    cases c with
    | true => exact ⟨ρ1, l, S1, st1, lr.mono f1, h1⟩
    | false => exact End.ok h1 st1 (rep_bl _)
  | _ => exact False.elim h1
theorem ce_or {rest : List Expr} (ha : CE X xw C a i) (hb : CE X xw C (.BoolOp .Or (b :: rest) pos) j) : CE X xw C (.BoolOp .Or (a :: b :: rest) pos) (.or i j) := PE.imp (pe_or ha hb) fun σ H Q ⟨ρ, l, S, st, lr, h⟩ => by
  refine ⟨ρ, l, S, st, lr, End.bind (show End X.K xw Rep ρ H Q ((ev C i l S).bind _) from h) fun x S1 ρ1 H1 v f1 st1 r1 h1 => ?_⟩
  cases x with
  | bl c =>
    refine ⟨c, r1.bl', ?_⟩
    cases c with
    | false => exact ⟨ρ1, l, S1, st1, lr.mono f1, h1⟩
    | true => exact End.ok h1 st1 (rep_bl _)
  | _ => exact False.elim h1
theorem ce_one {op} (ha : CE X xw C a i) : CE X xw C (.BoolOp op [a] pos) i := pe_one ha
theorem ce_ite (hc : CT X xw C c k) (ha : CE X xw C a i) (hb : CE X xw C b j) : CE X xw C (.IfExp c a b pos) (.ite k i j) := PE.imp (pe_ifExp hc ha hb) fun σ H Q ⟨ρ, l, S, st, lr, h⟩ => by
  have h' : End X.K xw Rep ρ H Q ((ev C k l S).bind fun x S => (Ev.ob (Ev.truth S x) S).bind fun c S => if c then ev C i l S else ev C j l S) := h
  refine ⟨ρ, l, S, st, lr, ?_⟩
  show End X.K xw repB ρ H _ ((ev C k l S).bind fun x S => Ev.ob (Ev.truth S x) S)
  cases q : ev C k l S with
  | no => rw [q] at h'; exact h'
  | ex c S1 => rw [q] at h'; exact h'
  | ok x S1 =>
    rw [q] at h'
    have h2 : End X.K xw Rep ρ H Q ((Ev.ob (Ev.truth S1 x) S1).bind fun c S => if c then ev C i l S else ev C j l S) := h'
    show End X.K xw repB ρ H _ (Ev.ob (Ev.truth S1 x) S1)
    cases t : Ev.truth S1 x with
    | none => rw [t] at h2; exact h2
    | some n =>
      rw [t] at h2
      have h3 : End X.K xw Rep ρ H Q (if n then ev C i l S1 else ev C j l S1) := h2
      intro ρ1 H1 w f1 st1 e
      have e' : n = w := e
      subst e'
      cases n with
      | true => exact ⟨ρ1, l, S1, st1, lr.mono f1, h3.mono f1⟩
      | false => exact ⟨ρ1, l, S1, st1, lr.mono f1, h3.mono f1⟩
/-- tests of and, or -/
def CWh (X : Cx) (xw : Nat → Hp → Prop) (C : Calls) (e : Expr) (i : E) : Prop := PW X e (tB3 X xw (tst C i))
theorem CWh.ct (h : CWh X xw C e i) : CT X xw C e i := PW.pt h
theorem PW.imp {X : Cx} {e : Expr} {t t' : TT} (h : PW X e t) (k : ∀ σ H Q, t' σ H Q → t σ H Q) : PW X e t' := fun wh pins s σ H Q I q => h wh pins s σ H Q I (k σ H Q q)
theorem cw_and1 (ha : CT X xw C a i) : CWh X xw C (.BoolOp .And [a] pos) i := pw_and1 ha
theorem cw_or1 (ha : CT X xw C a i) : CWh X xw C (.BoolOp .Or [a] pos) i := pw_or1 ha
theorem cw_and {rest : List Expr} (ha : CT X xw C a i) (hb : CWh X xw C (.BoolOp .And (b :: rest) pos) j) : CWh X xw C (.BoolOp .And (a :: b :: rest) pos) (.and i j) := PW.imp (pw_and ha hb) fun σ H Q ⟨ρ, l, S, st, lr, h⟩ => by
  have h' : End X.K xw repB ρ H Q (((ev C i l S).bind fun x S => match x with | .bl c => if c then ev C j l S else .ok (.bl false) S | _ => .no).bind fun x S => Ev.ob (Ev.truth S x) S) := h
  refine ⟨ρ, l, S, st, lr, ?_⟩
  show End X.K xw repB ρ H _ ((ev C i l S).bind fun x S => Ev.ob (Ev.truth S x) S)
  cases q : ev C i l S with
  | no => rw [q] at h'; exact h'
  | ex c S1 => rw [q] at h'; exact h'
  | ok x S1 =>
    rw [q] at h'
    cases x with
    | bl n =>
      intro ρ1 H1 w f1 st1 e
      have e' : n = w := e
      subst e'
      cases n with
      | true => exact ⟨ρ1, l, S1, st1, lr.mono f1, End.mono f1 (show End X.K xw repB ρ H Q ((ev C j l S1).bind fun x S => Ev.ob (Ev.truth S x) S) from h')⟩
      | false => exact (show End X.K xw repB ρ H Q (.ok false S1) from h') ρ1 H1 false f1 st1 rfl
    | _ => exact False.elim h'
theorem cw_or {rest : List Expr} (ha : CT X xw C a i) (hb : CWh X xw C (.BoolOp .Or (b :: rest) pos) j) : CWh X xw C (.BoolOp .Or (a :: b :: rest) pos) (.or i j) := PW.imp (pw_or ha hb) fun σ H Q ⟨ρ, l, S, st, lr, h⟩ => by
  have h' : End X.K xw repB ρ H Q (((ev C i l S).bind fun x S => match x with | .bl c => if c then .ok (.bl true) S else ev C j l S | _ => .no).bind fun x S => Ev.ob (Ev.truth S x) S) := h
  refine ⟨ρ, l, S, st, lr, ?_⟩
  show End X.K xw repB ρ H _ ((ev C i l S).bind fun x S => Ev.ob (Ev.truth S x) S)
  cases q : ev C i l S with
  | no => rw [q] at h'; exact h'
  | ex c S1 => rw [q] at h'; exact h'
  | ok x S1 =>
    rw [q] at h'
    cases x with
    | bl n =>
      intro ρ1 H1 w f1 st1 e
      have e' : n = w := e
      subst e'
      cases n with
      | false => exact ⟨ρ1, l, S1, st1, lr.mono f1, End.mono f1 (show End X.K xw repB ρ H Q ((ev C j l S1).bind fun x S => Ev.ob (Ev.truth S x) S) from h')⟩
      | true => exact (show End X.K xw repB ρ H Q (.ok true S1) from h') ρ1 H1 true f1 st1 rfl
    | _ => exact False.elim h'
end
end Sd

set_option Elab.async false
set_option linter.all false
set_option maxRecDepth 100000
namespace Sd
open PySem PySem.Spec PyProof.Rows L2
open Ev (D Ob Store Lc R E Sm Calls Walk Fl Fn Bop Cop Ty Bf Mf ev evs evo evt evw tst run runs)
/-! ### == to any depth -/
section
variable {K : PySem.W.Frag} {ρ : List Addr} {H : Hp} {S : Store}
theorem eqL_same {f : D → D → Option Bool} (hf : ∀ x y v b, Rep ρ H x v → Rep ρ H y v → f x y = some b → b = true) : ∀ {ds es : List D} {xs : List V} {b : Bool}, Reps ρ H ds xs → Reps ρ H es xs → Ev.eqL f ds es = some b → b = true
  | [], [], _, b, _, _, h => (Option.some.inj h).symm
  | d :: ds, e :: es, _, b, r1, r2, h => by
    unfold Reps at r1 r2
    obtain ⟨v, vs, rfl, a1, b1⟩ := r1
    obtain ⟨v', vs', e', a2, b2⟩ := r2
    cases e'
    unfold Ev.eqL at h
    cases q1 : f d e with
    | none => rw [q1] at h; cases h
    | some p =>
      cases q2 : Ev.eqL f ds es with
      | none => rw [q1, q2] at h; cases h
      | some q =>
        rw [q1, q2] at h
        have h' : (p && q) = b := Option.some.inj h
        rw [← h', hf d e v p a1 a2 q1, eqL_same hf b1 b2 q2]
        rfl
  | [], _ :: _, _, b, r1, r2, h => by
    have l1 := r1.length
    have l2 := r2.length
    rw [l1] at l2
    simp at l2
  | _ :: _, [], _, b, r1, r2, h => by
    have l1 := r1.length
    have l2 := r2.length
    rw [l1] at l2
    simp at l2
theorem eqD_same (st : St3 K ρ S H) : ∀ (k : Nat) (x y : D) (v : V) (b : Bool), Rep ρ H x v → Rep ρ H y v → Ev.eqD S k x y = some b → b = true
  | 0, _, _, _, _, _, _, h => by cases h
  | k + 1, x, y, v, b, r1, r2, h => by
    cases x with
    | non =>
      cases r1.non'
      cases y with
      | non => exact (Option.some.inj h).symm
      | bl _ => cases r2.bl'
      | int _ => cases r2.int'
      | str _ => cases r2.str'
      | tup _ => obtain ⟨_, _, z, _⟩ := r2.tup'; cases z
      | loc _ => obtain ⟨_, z, _⟩ := r2.loc'; cases z
      | fn _ => unfold Rep at r2; exact r2.elim
      | exc _ _ => unfold Rep at r2; exact r2.elim
    | bl i =>
      cases r1.bl'
      cases y with
      | bl j => cases r2.bl'; have := Option.some.inj h; rw [← this]; exact decide_eq_true rfl
      | non => cases r2.non'
      | int _ => cases r2.int'
      | str _ => cases r2.str'
      | tup _ => obtain ⟨_, _, z, _⟩ := r2.tup'; cases z
      | loc _ => obtain ⟨_, z, _⟩ := r2.loc'; cases z
      | fn _ => unfold Rep at r2; exact r2.elim
      | exc _ _ => unfold Rep at r2; exact r2.elim
    | int i =>
      cases r1.int'
      cases y with
      | int j => cases r2.int'; have := Option.some.inj h; rw [← this]; exact decide_eq_true rfl
      | non => cases r2.non'
      | bl _ => cases r2.bl'
      | str _ => cases r2.str'
      | tup _ => obtain ⟨_, _, z, _⟩ := r2.tup'; cases z
      | loc _ => obtain ⟨_, z, _⟩ := r2.loc'; cases z
      | fn _ => unfold Rep at r2; exact r2.elim
      | exc _ _ => unfold Rep at r2; exact r2.elim
    | str i =>
      cases r1.str'
      cases y with
      | str j => cases r2.str'; have := Option.some.inj h; rw [← this]; exact decide_eq_true rfl
      | non => cases r2.non'
      | bl _ => cases r2.bl'
      | int _ => cases r2.int'
      | tup _ => obtain ⟨_, _, z, _⟩ := r2.tup'; cases z
      | loc _ => obtain ⟨_, z, _⟩ := r2.loc'; cases z
      | fn _ => unfold Rep at r2; exact r2.elim
      | exc _ _ => unfold Rep at r2; exact r2.elim
    | tup ds =>
      obtain ⟨p, xs, rfl, hp, q1⟩ := r1.tup'
      cases y with
      | tup es =>
        obtain ⟨p', xs', z, hp', q2⟩ := r2.tup'
        cases z
        rw [hp] at hp'
        cases hp'
        exact eqL_same (fun x y v b => eqD_same st k x y v b) q1 q2 h
      | non => cases r2.non'
      | bl _ => cases r2.bl'
      | int _ => cases r2.int'
      | str _ => cases r2.str'
      | loc _ => cases h
      | fn _ => unfold Rep at r2; exact r2.elim
      | exc _ _ => unfold Rep at r2; exact r2.elim
    | loc m =>
      obtain ⟨p, rfl, hp⟩ := r1.loc'
      cases y with
      | loc n =>
        obtain ⟨p', z, hp'⟩ := r2.loc'
        cases z
        have h' : (match Ev.lstAt S m, Ev.lstAt S n with
          | some xs, some ys => if xs.length = ys.length then Ev.eqL (Ev.eqD S k) xs ys else some false
          | _, _ => none) = some b := h
        cases e1 : Ev.lstAt S m with
        | none => rw [e1] at h'; cases h'
        | some ds =>
          cases e2 : Ev.lstAt S n with
          | none => rw [e1, e2] at h'; cases h'
          | some es =>
            rw [e1, e2] at h'
            obtain ⟨s1, a1, xs, t1, u1, q1⟩ := st.lst e1
            obtain ⟨s2, a2, ys, t2, u2, q2⟩ := st.lst e2
            by_cases hmn : m = n
            · subst hmn
              rw [e1] at e2
              cases e2
              have h2 : (if ds.length = ds.length then Ev.eqL (Ev.eqD S k) ds ds else some false) = some b := h'
              rw [if_pos rfl] at h2
              exact eqL_same (fun x y v b => eqD_same st k x y v b) q1 q1 h2
            · rcases st.nd m n p hp hp' hmn with ⟨ns, z⟩ | ⟨ns, z⟩
              · rw [s1] at z; cases z
              · rw [s2] at z; cases z
      | non => cases r2.non'
      | bl _ => cases r2.bl'
      | int _ => cases r2.int'
      | str _ => cases r2.str'
      | tup _ => cases h
      | fn _ => unfold Rep at r2; exact r2.elim
      | exc _ _ => unfold Rep at r2; exact r2.elim
    | fn _ => unfold Rep at r1; exact r1.elim
    | exc _ _ => unfold Rep at r1; exact r1.elim
/-- the answer at one place -/
def eAt (f : D → D → Option Bool) (ds es : List D) (j : Nat) : Bool := match ds[j]?, es[j]? with
  | some x, some y => (f x y).getD false
  | _, _ => false
theorem eqL_val {f : D → D → Option Bool} : ∀ {ds es : List D} {b : Bool}, Ev.eqL f ds es = some b →
    ((List.range (min ds.length es.length)).all (eAt f ds es) && ds.length == es.length) = b ∧ ∀ j x y, ds[j]? = some x → es[j]? = some y → f x y = some (eAt f ds es j)
  | [], [], b, h => ⟨Option.some.inj h, fun j x y e => by simp at e⟩
  | [], _ :: es, b, h => ⟨by rw [← Option.some.inj h]; simp, fun j x y e => by simp at e⟩
  | _ :: ds, [], b, h => ⟨by rw [← Option.some.inj h]; simp, fun j x y _ e => by simp at e⟩
  | d :: ds, e :: es, b, h => by
    unfold Ev.eqL at h
    cases q1 : f d e with
    | none => rw [q1] at h; cases h
    | some p =>
      cases q2 : Ev.eqL f ds es with
      | none => rw [q1, q2] at h; cases h
      | some q =>
        rw [q1, q2] at h
        obtain ⟨ih, ih2⟩ := eqL_val q2
        have h' : (p && q) = b := Option.some.inj h
        have e0 : eAt f (d :: ds) (e :: es) 0 = p := by simp [eAt, q1]
        have es' : ∀ j, eAt f (d :: ds) (e :: es) (j + 1) = eAt f ds es j := fun j => by simp [eAt]
        refine ⟨?_, fun j x y hx hy => ?_⟩
        · rw [← h', ← ih, List.length_cons, List.length_cons, Nat.succ_min_succ, List.range_succ_eq_map, List.all_cons, e0, List.all_map]
          have : ((List.range (min ds.length es.length)).all (eAt f (d :: ds) (e :: es) ∘ Nat.succ)) = (List.range (min ds.length es.length)).all (eAt f ds es) := by
            exact congrArg (fun g => (List.range (min ds.length es.length)).all g) (funext fun j => es' j)
          rw [this, Bool.and_assoc]
          congr 2
          simp
        · cases j with
          | zero =>
            simp at hx hy
            subst hx hy
            rw [e0]; exact q1
          | succ j =>
            rw [es' j]
            exact ih2 j x y (by simpa using hx) (by simpa using hy)
end
section
variable {X : Cx} {pins : List (Addr × Obj)} {σ : L2.St} {H : Hp} {s : Shared} {ρ : List Addr} {S : Store}
theorem in1_units {A : Around} {k : Nat} (h : A.units + (k + 1) < cLine) : A.in1.units + k < cLine := by
  have e : A.in1.units ≤ A.units + 1 := by
    first | exact Nat.le_refl _ | (simp [Around.in1, Around.units] <;> omega)
  omega
theorem eqAt_D (I : Inv X pins σ H s) (st : St3 X.K ρ S H) : ∀ (k : Nat) (A : Around) (x y : D) (v u : V) (vv uu : Value) (b : Bool), A.units + k < cLine → Rep ρ H x v → Rep ρ H y u → RelV v vv → RelV u uu → Ev.eqD S k x y = some b → SeqAt.EqAt A s vv uu b
  | 0, _, _, _, _, _, _, _, _, _, _, _, _, _, h => by cases h
  | k + 1, A, x, y, v, u, vv, uu, b, hu, r1, r2, e1, e2, h => by
    have flat : flatV v = true → flatV u = true → eqV v u = b → SeqAt.EqAt A s vv uu b := fun f1 f2 e => by rw [← e]; exact eqAt_V e1 e2 f1 f2
    have bb : ∀ {a c : Bool}, (a == c) = decide (a = c) := fun {a c} => by cases a <;> cases c <;> rfl
    have ii : ∀ {a c : Int}, (a == c) = decide (a = c) := fun {a c} => by rw [Bool.eq_iff_iff]; simp
    have ss : ∀ {a c : Str}, (a == c) = decide (a = c) := fun {a c} => by rw [Bool.eq_iff_iff]; simp
    cases x with
    | non =>
      cases r1.non'
      cases y with
      | non => cases r2.non'; exact flat rfl rfl (Option.some.inj h)
      | bl _ => cases r2.bl'; exact flat rfl rfl (Option.some.inj h)
      | int _ => cases r2.int'; exact flat rfl rfl (Option.some.inj h)
      | str _ => cases r2.str'; exact flat rfl rfl (Option.some.inj h)
      | _ => cases h
    | bl i =>
      cases r1.bl'
      cases y with
      | non => cases r2.non'; exact flat rfl rfl (Option.some.inj h)
      | bl _ => cases r2.bl'; exact flat rfl rfl (bb.trans (Option.some.inj h))
      | int _ => cases r2.int'; exact flat rfl rfl (ii.trans (Option.some.inj h))
      | str _ => cases r2.str'; exact flat rfl rfl (Option.some.inj h)
      | _ => cases h
    | int i =>
      cases r1.int'
      cases y with
      | non => cases r2.non'; exact flat rfl rfl (Option.some.inj h)
      | bl _ => cases r2.bl'; exact flat rfl rfl (ii.trans (Option.some.inj h))
      | int _ => cases r2.int'; exact flat rfl rfl (ii.trans (Option.some.inj h))
      | str _ => cases r2.str'; exact flat rfl rfl (Option.some.inj h)
      | _ => cases h
    | str i =>
      cases r1.str'
      cases y with
      | non => cases r2.non'; exact flat rfl rfl (Option.some.inj h)
      | bl _ => cases r2.bl'; exact flat rfl rfl (Option.some.inj h)
      | int _ => cases r2.int'; exact flat rfl rfl (Option.some.inj h)
      | str _ => cases r2.str'; exact flat rfl rfl (ss.trans (Option.some.inj h))
      | _ => cases h
    | tup ds =>
      obtain ⟨p, xs, rfl, hp, q1⟩ := r1.tup'
      cases e1
      cases y with
      | tup es =>
        obtain ⟨p', ys, rfl, hp', q2⟩ := r2.tup'
        cases e2
        by_cases hpp : p = p'
        · subst hpp
          rw [eqD_same st (k + 1) (.tup ds) (.tup es) (.ref p) b r1 r2 h]
          exact SeqAt.EqAt.same _
        · obtain ⟨its, v1, t1, _⟩ := I.tuple (SqT.of hp)
          obtain ⟨its2, v2, t2, _⟩ := I.tuple (SqT.of hp')
          have h' : Ev.eqL (Ev.eqD S k) ds es = some b := h
          obtain ⟨ev, ea⟩ := eqL_val h'
          have n1 : its.toArray.size = ds.length := by rw [List.size_toArray, ← v1.length, q1.length]
          have n2 : its2.toArray.size = es.length := by rw [List.size_toArray, ← v2.length, q2.length]
          refine SeqAt.EqAt.of_refs hpp ?_
          rw [← ev, ← n1, ← n2]
          refine SeqAt.RcAt.tuples t1 t2 (by omega) fun j j1 j2 => ?_
          have d1 : ds[j]? = some ds[j] := List.getElem?_eq_getElem (by omega)
          have d2 : es[j]? = some es[j] := List.getElem?_eq_getElem (by omega)
          obtain ⟨w1, g1, z1⟩ := q1.get d1
          obtain ⟨w2, g2, z2⟩ := q2.get d2
          obtain ⟨m1, k1, y1⟩ := v1.get g1
          obtain ⟨m2, k2, y2⟩ := v2.get g2
          have o1 : its.toArray[j] = m1 := by
            have := List.getElem?_eq_some_iff.mp k1
            simpa using this.2
          have o2 : its2.toArray[j] = m2 := by
            have := List.getElem?_eq_some_iff.mp k2
            simpa using this.2
          rw [o1, o2]
          exact eqAt_D I st k A.in1 ds[j] es[j] w1 w2 m1 m2 _ (in1_units hu) z1 z2 y1 y2 (ea j _ _ d1 d2)
      | _ => cases h
    | loc m =>
      obtain ⟨p, rfl, hp⟩ := r1.loc'
      cases e1
      cases y with
      | loc n =>
        obtain ⟨p', rfl, hp'⟩ := r2.loc'
        cases e2
        by_cases hpp : p = p'
        · subst hpp
          rw [eqD_same st (k + 1) (.loc m) (.loc n) (.ref p) b r1 r2 h]
          exact SeqAt.EqAt.same _
        · have h' : (match Ev.lstAt S m, Ev.lstAt S n with
            | some xs, some ys => if xs.length = ys.length then Ev.eqL (Ev.eqD S k) xs ys else some false
            | _, _ => none) = some b := h
          cases a1 : Ev.lstAt S m with
          | none => rw [a1] at h'; cases h'
          | some ds =>
            cases a2 : Ev.lstAt S n with
            | none => rw [a1, a2] at h'; cases h'
            | some es =>
              rw [a1, a2] at h'
              obtain ⟨s1, c1, xs, t1, u1, q1⟩ := st.lst a1
              obtain ⟨s2, c2, ys, t2, u2, q2⟩ := st.lst a2
              rw [hp] at t1; cases t1
              rw [hp'] at t2; cases t2
              obtain ⟨its, v1, p1, _⟩ := I.list (SqL.of u1)
              obtain ⟨its2, v2, p2, _⟩ := I.list (SqL.of u2)
              have n1 : its.toArray.size = ds.length := by rw [List.size_toArray, ← v1.length, q1.length]
              have n2 : its2.toArray.size = es.length := by rw [List.size_toArray, ← v2.length, q2.length]
              refine SeqAt.EqAt.of_refs hpp ?_
              have h2 : (if ds.length = es.length then Ev.eqL (Ev.eqD S k) ds es else some false) = some b := h'
              by_cases hl : ds.length = es.length
              · rw [if_pos hl] at h2
                obtain ⟨ev, ea⟩ := eqL_val h2
                have ev' : (List.range ds.length).all (eAt (Ev.eqD S k) ds es) = b := by
                  rw [← ev, ← hl, Nat.min_self]; simp
                rw [← ev', ← n1]
                refine SeqAt.RcAt.lists p1.isList p2.isList (by omega) (by omega) fun j j1 j2 => ?_
                have d1 : ds[j]? = some ds[j] := List.getElem?_eq_getElem (by omega)
                have d2 : es[j]? = some es[j] := List.getElem?_eq_getElem (by omega)
                obtain ⟨w1, g1, z1⟩ := q1.get d1
                obtain ⟨w2, g2, z2⟩ := q2.get d2
                obtain ⟨m1, k1, y1⟩ := v1.get g1
                obtain ⟨m2, k2, y2⟩ := v2.get g2
                have o1 : its.toArray[j] = m1 := by
                  have := List.getElem?_eq_some_iff.mp k1
                  simpa using this.2
                have o2 : its2.toArray[j] = m2 := by
                  have := List.getElem?_eq_some_iff.mp k2
                  simpa using this.2
                rw [o1, o2]
                exact eqAt_D I st k A.in1 ds[j] es[j] w1 w2 m1 m2 _ (in1_units hu) z1 z2 y1 y2 (ea j _ _ d1 d2)
              · rw [if_neg hl] at h2
                rw [← Option.some.inj h2]
                exact SeqAt.RcAt.lists_lengths p1.isList p2.isList (bne_iff_ne.mpr (by omega)) (by omega)
      | _ => cases h
    | _ => cases h
end
end Sd

set_option Elab.async false
set_option linter.all false
set_option maxRecDepth 100000
namespace Sd
open PySem PySem.Spec PyProof.Rows L2
open Ev (D Ob Store Lc R E Sm Calls Walk Fl Fn Bop Cop Ty Bf Mf ev evs evo evt evw tst run runs)
section
variable {X : Cx} {pins : List (Addr × Obj)} {σ : L2.St} {H : Hp} {s : Shared} {ρ : List Addr} {S : Store}
/-- the items' answers -/
theorem elems_eq (I : Inv X pins σ H s) (st : St3 X.K ρ S H) {k : Nat} {A : Around} {ds es : List D} {xs ys : List V} {its its2 : List Value} {b : Bool} (hu : A.units + (k + 1) < cLine)
    (q1 : Reps ρ H ds xs) (q2 : Reps ρ H es ys) (v1 : Vals xs its) (v2 : Vals ys its2) (h : Ev.eqL (Ev.eqD S k) ds es = some b) :
    ∀ j (h1 : j < its.toArray.size) (h2 : j < its2.toArray.size), SeqAt.EqAt A.in1 s its.toArray[j] its2.toArray[j] (eAt (Ev.eqD S k) ds es j) := fun j j1 j2 => by
  obtain ⟨_, ea⟩ := eqL_val h
  have n1 : its.toArray.size = ds.length := by rw [List.size_toArray, ← v1.length, q1.length]
  have n2 : its2.toArray.size = es.length := by rw [List.size_toArray, ← v2.length, q2.length]
  have d1 : ds[j]? = some ds[j] := List.getElem?_eq_getElem (by omega)
  have d2 : es[j]? = some es[j] := List.getElem?_eq_getElem (by omega)
  obtain ⟨w1, g1, z1⟩ := q1.get d1
  obtain ⟨w2, g2, z2⟩ := q2.get d2
  obtain ⟨m1, k1, y1⟩ := v1.get g1
  obtain ⟨m2, k2, y2⟩ := v2.get g2
  have o1 : its.toArray[j] = m1 := by
    have := List.getElem?_eq_some_iff.mp k1
    simpa using this.2
  have o2 : its2.toArray[j] = m2 := by
    have := List.getElem?_eq_some_iff.mp k2
    simpa using this.2
  rw [o1, o2]
  exact eqAt_D I st k A.in1 ds[j] es[j] w1 w2 m1 m2 _ (in1_units hu) z1 z2 y1 y2 (ea j _ _ d1 d2)
end
section
variable {X : Cx} {xw : Nat → Hp → Prop} {C : Calls} {e a b c : Expr} {i j k : E} {pos p p' : Pos}
/-! ### comparisons: a rule by data -/
/-- the answer as the small language has it -/
def rCmp (K : PySem.W.Frag) (xw : Nat → Hp → Prop) (op : Cop) : R2 := fun v u H Q => ∃ ρ S x y, St3 K ρ S H ∧ Rep ρ H x v ∧ Rep ρ H y u ∧ End K xw Rep ρ H Q (Ev.cmpop op x y S)
theorem cmp_of {op : Cop} : ∀ σ H Q, tE X xw (ev C (.cmp op i j)) σ H Q → tOp (rCmp X.K xw op) (tE X xw (ev C i)) (tE X xw (ev C j)) σ H Q := fun σ H Q h =>
  two_of (r := rCmp X.K xw op) (g := Ev.cmpop op) (fun {ρ H S x y v u Q} st rx ry h => ⟨ρ, S, x, y, st, rx, ry, h⟩) σ H Q h
theorem units_of {A : Around} {n : Nat} (hr : Room n A) : A.units + 6 < cLine := by have := hr.units; omega
theorem dI {a c : Int} : (a == c) = decide (a = c) := by rw [Bool.eq_iff_iff]; simp
theorem op_eqA (hu : X.A.units + 6 < cLine) : OpR X (compareOp .Eq) (rCmp X.K xw .eq) := by
  intro pins s σ H v u vv uu Q I e1 e2 h
  obtain ⟨ρ, S, x, y, st, rx, ry, h⟩ := h
  have h0 : End X.K xw Rep ρ H Q ((Ev.ob (Ev.eqD S Ev.eqDepth x y) S).bind fun b S => .ok (.bl b) S) := h
  obtain ⟨b, hb, h1⟩ := End.ob h0
  have q : Q (.bl b) H := End.ok h1 st (rep_bl b)
  have flat : scal v u = true → decide (v = u) = b → wpAny (model X.prog X.w) X.A (compareOp .Eq vv uu) (EP X pins σ Q) X.xe s := fun hs e => op_eq pins s σ H v u vv uu Q I e1 e2 ⟨hs, by rw [e]; exact q⟩
  cases x with
  | non =>
    cases rx.non'
    cases y with
    | non => cases ry.non'; exact flat rfl (Option.some.inj hb ▸ by simp)
    | bl _ => cases ry.bl'; exact flat rfl (Option.some.inj hb ▸ by simp)
    | int _ => cases ry.int'; exact flat rfl (Option.some.inj hb ▸ by simp)
    | str _ => cases ry.str'; exact flat rfl (Option.some.inj hb ▸ by simp)
    | _ => cases hb
  | bl i =>
    cases rx.bl'
    cases y with
    | non => cases ry.non'; exact flat rfl (Option.some.inj hb ▸ by simp)
    | bl j => cases ry.bl'; exact flat rfl (Option.some.inj hb ▸ by simp)
    | int j =>
      cases ry.int'
      cases e1
      obtain ⟨t, rfl⟩ := e2
      refine EqBoolInt.eq_bool_int ⟨.bl b, H, I, ?_, q⟩
      show Value.bool ((if i then 1 else 0) == j) = Value.bool b
      rw [dI]
      exact congrArg Value.bool (Option.some.inj hb)
    | str _ => cases ry.str'; exact flat rfl (Option.some.inj hb ▸ by simp)
    | _ => cases hb
  | int i =>
    cases rx.int'
    cases y with
    | non => cases ry.non'; exact flat rfl (Option.some.inj hb ▸ by simp)
    | bl j =>
      cases ry.bl'
      cases e2
      obtain ⟨t, rfl⟩ := e1
      refine EqBoolInt.eq_int_bool ⟨.bl b, H, I, ?_, q⟩
      show Value.bool (i == (if j then 1 else 0)) = Value.bool b
      rw [dI]
      exact congrArg Value.bool (Option.some.inj hb)
    | int _ => cases ry.int'; exact flat rfl (Option.some.inj hb ▸ by simp)
    | str _ => cases ry.str'; exact flat rfl (Option.some.inj hb ▸ by simp)
    | _ => cases hb
  | str i =>
    cases rx.str'
    cases y with
    | non => cases ry.non'; exact flat rfl (Option.some.inj hb ▸ by simp)
    | bl _ => cases ry.bl'; exact flat rfl (Option.some.inj hb ▸ by simp)
    | int _ => cases ry.int'; exact flat rfl (Option.some.inj hb ▸ by simp)
    | str _ => cases ry.str'; exact flat rfl (Option.some.inj hb ▸ by simp)
    | _ => cases hb
  | tup ds =>
    obtain ⟨p, xs, rfl, hp, q1⟩ := rx.tup'
    cases e1
    cases y with
    | tup es =>
      obtain ⟨p', ys, rfl, hp', q2⟩ := ry.tup'
      cases e2
      obtain ⟨its, v1, t1, _⟩ := I.tuple (SqT.of hp)
      obtain ⟨its2, v2, t2, _⟩ := I.tuple (SqT.of hp')
      have hb' : Ev.eqL (Ev.eqD S 5) ds es = some b := hb
      obtain ⟨ev, _⟩ := eqL_val hb'
      have n1 : its.toArray.size = ds.length := by rw [List.size_toArray, ← v1.length, q1.length]
      have n2 : its2.toArray.size = es.length := by rw [List.size_toArray, ← v2.length, q2.length]
      refine SeqAt.RcAt.tuples t1 t2 (by omega) (elems_eq I st hu q1 q2 v1 v2 hb') X.prog X.w X.xe _ ?_
      rw [n1, n2, ev]
      exact ⟨.bl b, H, I, rfl, q⟩
    | _ => cases hb
  | loc m =>
    obtain ⟨p, rfl, hp⟩ := rx.loc'
    cases e1
    cases y with
    | loc n =>
      obtain ⟨p', rfl, hp'⟩ := ry.loc'
      cases e2
      have h' : (match Ev.lstAt S m, Ev.lstAt S n with
        | some xs, some ys => if xs.length = ys.length then Ev.eqL (Ev.eqD S 5) xs ys else some false
        | _, _ => none) = some b := hb
      cases a1 : Ev.lstAt S m with
      | none => rw [a1] at h'; cases h'
      | some ds =>
        cases a2 : Ev.lstAt S n with
        | none => rw [a1, a2] at h'; cases h'
        | some es =>
          rw [a1, a2] at h'
          obtain ⟨s1, c1, xs, t1, u1, q1⟩ := st.lst a1
          obtain ⟨s2, c2, ys, t2, u2, q2⟩ := st.lst a2
          rw [hp] at t1; cases t1
          rw [hp'] at t2; cases t2
          obtain ⟨its, v1, p1, _⟩ := I.list (SqL.of u1)
          obtain ⟨its2, v2, p2, _⟩ := I.list (SqL.of u2)
          have n1 : its.toArray.size = ds.length := by rw [List.size_toArray, ← v1.length, q1.length]
          have n2 : its2.toArray.size = es.length := by rw [List.size_toArray, ← v2.length, q2.length]
          have h2 : (if ds.length = es.length then Ev.eqL (Ev.eqD S 5) ds es else some false) = some b := h'
          by_cases hl : ds.length = es.length
          · rw [if_pos hl] at h2
            obtain ⟨ev, _⟩ := eqL_val h2
            have ev' : (List.range ds.length).all (eAt (Ev.eqD S 5) ds es) = b := by
              rw [← ev, ← hl, Nat.min_self]; simp
            refine SeqAt.RcAt.lists p1.isList p2.isList (by omega) (by omega) (elems_eq I st hu q1 q2 v1 v2 h2) X.prog X.w X.xe _ ?_
            rw [n1, ev']
            exact ⟨.bl b, H, I, rfl, q⟩
          · rw [if_neg hl] at h2
            refine SeqAt.RcAt.lists_lengths p1.isList p2.isList (bne_iff_ne.mpr (by omega)) (by omega) X.prog X.w X.xe _ ?_
            exact ⟨.bl b, H, I, congrArg Value.bool (Option.some.inj h2), q⟩
    | _ => cases hb
  | _ => cases hb
theorem op_neA (hu : X.A.units + 6 < cLine) : OpR X (compareOp .NotEq) (rCmp X.K xw .ne) := by
  intro pins s σ H v u vv uu Q I e1 e2 h
  obtain ⟨ρ, S, x, y, st, rx, ry, h⟩ := h
  have h0 : End X.K xw Rep ρ H Q ((Ev.ob (Ev.eqD S Ev.eqDepth x y) S).bind fun b S => .ok (.bl !b) S) := h
  obtain ⟨b, hb, h1⟩ := End.ob h0
  have q : Q (.bl !b) H := End.ok h1 st (rep_bl _)
  have flat : scal v u = true → decide (v = u) = b → wpAny (model X.prog X.w) X.A (compareOp .NotEq vv uu) (EP X pins σ Q) X.xe s := fun hs e => op_ne pins s σ H v u vv uu Q I e1 e2 ⟨hs, by rw [e]; exact q⟩
  cases x with
  | non =>
    cases rx.non'
    cases y with
    | non => cases ry.non'; exact flat rfl (Option.some.inj hb ▸ by simp)
    | bl _ => cases ry.bl'; exact flat rfl (Option.some.inj hb ▸ by simp)
    | int _ => cases ry.int'; exact flat rfl (Option.some.inj hb ▸ by simp)
    | str _ => cases ry.str'; exact flat rfl (Option.some.inj hb ▸ by simp)
    | _ => cases hb
  | bl i =>
    cases rx.bl'
    cases y with
    | non => cases ry.non'; exact flat rfl (Option.some.inj hb ▸ by simp)
    | bl j => cases ry.bl'; exact flat rfl (Option.some.inj hb ▸ by simp)
    | int j =>
      cases ry.int'
      cases e1
      obtain ⟨t, rfl⟩ := e2
      refine EqBoolInt.ne_bool_int ⟨.bl !b, H, I, ?_, q⟩
      show Value.bool (!((if i then 1 else 0) == j)) = Value.bool !b
      rw [dI]
      exact congrArg (fun z => Value.bool !z) (Option.some.inj hb)
    | str _ => cases ry.str'; exact flat rfl (Option.some.inj hb ▸ by simp)
    | _ => cases hb
  | int i =>
    cases rx.int'
    cases y with
    | non => cases ry.non'; exact flat rfl (Option.some.inj hb ▸ by simp)
    | bl j =>
      cases ry.bl'
      cases e2
      obtain ⟨t, rfl⟩ := e1
      refine EqBoolInt.ne_int_bool ⟨.bl !b, H, I, ?_, q⟩
      show Value.bool (!(i == (if j then 1 else 0))) = Value.bool !b
      rw [dI]
      exact congrArg (fun z => Value.bool !z) (Option.some.inj hb)
    | int _ => cases ry.int'; exact flat rfl (Option.some.inj hb ▸ by simp)
    | str _ => cases ry.str'; exact flat rfl (Option.some.inj hb ▸ by simp)
    | _ => cases hb
  | str i =>
    cases rx.str'
    cases y with
    | non => cases ry.non'; exact flat rfl (Option.some.inj hb ▸ by simp)
    | bl _ => cases ry.bl'; exact flat rfl (Option.some.inj hb ▸ by simp)
    | int _ => cases ry.int'; exact flat rfl (Option.some.inj hb ▸ by simp)
    | str _ => cases ry.str'; exact flat rfl (Option.some.inj hb ▸ by simp)
    | _ => cases hb
  | tup ds =>
    obtain ⟨p, xs, rfl, hp, q1⟩ := rx.tup'
    cases e1
    cases y with
    | tup es =>
      obtain ⟨p', ys, rfl, hp', q2⟩ := ry.tup'
      cases e2
      obtain ⟨its, v1, t1, _⟩ := I.tuple (SqT.of hp)
      obtain ⟨its2, v2, t2, _⟩ := I.tuple (SqT.of hp')
      have hb' : Ev.eqL (Ev.eqD S 5) ds es = some b := hb
      obtain ⟨ev, _⟩ := eqL_val hb'
      have n1 : its.toArray.size = ds.length := by rw [List.size_toArray, ← v1.length, q1.length]
      have n2 : its2.toArray.size = es.length := by rw [List.size_toArray, ← v2.length, q2.length]
      refine SeqAt.RcNeAt.tuples t1 t2 (by omega) (elems_eq I st hu q1 q2 v1 v2 hb') X.prog X.w X.xe _ ?_
      rw [n1, n2, ev]
      exact ⟨.bl !b, H, I, rfl, q⟩
    | _ => cases hb
  | loc m =>
    obtain ⟨p, rfl, hp⟩ := rx.loc'
    cases e1
    cases y with
    | loc n =>
      obtain ⟨p', rfl, hp'⟩ := ry.loc'
      cases e2
      have h' : (match Ev.lstAt S m, Ev.lstAt S n with
        | some xs, some ys => if xs.length = ys.length then Ev.eqL (Ev.eqD S 5) xs ys else some false
        | _, _ => none) = some b := hb
      cases a1 : Ev.lstAt S m with
      | none => rw [a1] at h'; cases h'
      | some ds =>
        cases a2 : Ev.lstAt S n with
        | none => rw [a1, a2] at h'; cases h'
        | some es =>
          rw [a1, a2] at h'
          obtain ⟨s1, c1, xs, t1, u1, q1⟩ := st.lst a1
          obtain ⟨s2, c2, ys, t2, u2, q2⟩ := st.lst a2
          rw [hp] at t1; cases t1
          rw [hp'] at t2; cases t2
          obtain ⟨its, v1, p1, _⟩ := I.list (SqL.of u1)
          obtain ⟨its2, v2, p2, _⟩ := I.list (SqL.of u2)
          have n1 : its.toArray.size = ds.length := by rw [List.size_toArray, ← v1.length, q1.length]
          have n2 : its2.toArray.size = es.length := by rw [List.size_toArray, ← v2.length, q2.length]
          have h2 : (if ds.length = es.length then Ev.eqL (Ev.eqD S 5) ds es else some false) = some b := h'
          by_cases hl : ds.length = es.length
          · rw [if_pos hl] at h2
            obtain ⟨ev, _⟩ := eqL_val h2
            have ev' : (List.range ds.length).all (eAt (Ev.eqD S 5) ds es) = b := by
              rw [← ev, ← hl, Nat.min_self]; simp
            refine SeqAt.RcNeAt.lists p1.isList p2.isList (by omega) (by omega) (elems_eq I st hu q1 q2 v1 v2 h2) X.prog X.w X.xe _ ?_
            rw [n1, ev']
            exact ⟨.bl !b, H, I, rfl, q⟩
          · rw [if_neg hl] at h2
            refine SeqAt.RcNeAt.lists_lengths p1.isList p2.isList (bne_iff_ne.mpr (by omega)) (by omega) X.prog X.w X.xe _ ?_
            exact ⟨.bl !b, H, I, congrArg (fun z => Value.bool !z) (Option.some.inj h2), q⟩
    | _ => cases hb
  | _ => cases hb
end
end Sd

set_option Elab.async false
set_option linter.all false
set_option maxRecDepth 100000
namespace Sd
open PySem PySem.Spec PyProof.Rows L2
open Ev (D Ob Store Lc R E Sm Calls Walk Fl Fn Bop Cop Ty Bf Mf ev evs evo evt evw tst run runs)
section
variable {K : PySem.W.Frag} {ρ : List Addr} {H : Hp} {S : Store}
theorem eqL_det {f : D → D → Option Bool} (hf : ∀ x x' y v b b', Rep ρ H x v → Rep ρ H x' v → f x y = some b → f x' y = some b' → b = b') :
    ∀ {ds ds' es : List D} {xs : List V} {b b' : Bool}, Reps ρ H ds xs → Reps ρ H ds' xs → Ev.eqL f ds es = some b → Ev.eqL f ds' es = some b' → b = b'
  | [], [], [], _, b, b', _, _, h, h' => (Option.some.inj h).symm.trans (Option.some.inj h')
  | [], [], _ :: _, _, b, b', _, _, h, h' => (Option.some.inj h).symm.trans (Option.some.inj h')
  | _ :: _, _ :: _, [], _, b, b', _, _, h, h' => (Option.some.inj h).symm.trans (Option.some.inj h')
  | d :: ds, d' :: ds', e :: es, _, b, b', r1, r2, h, h' => by
    unfold Reps at r1 r2
    obtain ⟨v, vs, rfl, a1, b1⟩ := r1
    obtain ⟨v', vs', e', a2, b2⟩ := r2
    cases e'
    unfold Ev.eqL at h h'
    cases q1 : f d e with
    | none => rw [q1] at h; cases h
    | some p =>
      cases q2 : Ev.eqL f ds es with
      | none => rw [q1, q2] at h; cases h
      | some q =>
        cases q3 : f d' e with
        | none => rw [q3] at h'; cases h'
        | some p' =>
          cases q4 : Ev.eqL f ds' es with
          | none => rw [q3, q4] at h'; cases h'
          | some q' =>
            rw [q1, q2] at h
            rw [q3, q4] at h'
            have z1 : (p && q) = b := Option.some.inj h
            have z2 : (p' && q') = b' := Option.some.inj h'
            rw [← z1, ← z2, hf d d' e v p p' a1 a2 q1 q3, eqL_det hf b1 b2 q2 q4]
  | [], _ :: _, _, _, b, b', r1, r2, _, _ => by
    have l1 := r1.length
    have l2 := r2.length
    rw [l1] at l2
    simp at l2
  | _ :: _, [], _, _, b, b', r1, r2, _, _ => by
    have l1 := r1.length
    have l2 := r2.length
    rw [l1] at l2
    simp at l2
theorem eqD_det (st : St3 K ρ S H) : ∀ (k : Nat) (x x' y : D) (v : V) (b b' : Bool), Rep ρ H x v → Rep ρ H x' v → Ev.eqD S k x y = some b → Ev.eqD S k x' y = some b' → b = b'
  | 0, _, _, _, _, _, _, _, _, h, _ => by cases h
  | k + 1, x, x', y, v, b, b', r1, r2, h, h' => by
    cases x with
    | non =>
      cases r1.non'
      cases x' with
      | non => exact Option.some.inj (h.symm.trans h')
      | bl _ => cases r2.bl'
      | int _ => cases r2.int'
      | str _ => cases r2.str'
      | tup _ => obtain ⟨_, _, z, _⟩ := r2.tup'; cases z
      | loc _ => obtain ⟨_, z, _⟩ := r2.loc'; cases z
      | fn _ => unfold Rep at r2; exact r2.elim
      | exc _ _ => unfold Rep at r2; exact r2.elim
    | bl i =>
      cases r1.bl'
      cases x' with
      | bl j => cases r2.bl'; exact Option.some.inj (h.symm.trans h')
      | non => cases r2.non'
      | int _ => cases r2.int'
      | str _ => cases r2.str'
      | tup _ => obtain ⟨_, _, z, _⟩ := r2.tup'; cases z
      | loc _ => obtain ⟨_, z, _⟩ := r2.loc'; cases z
      | fn _ => unfold Rep at r2; exact r2.elim
      | exc _ _ => unfold Rep at r2; exact r2.elim
    | int i =>
      cases r1.int'
      cases x' with
      | int j => cases r2.int'; exact Option.some.inj (h.symm.trans h')
      | non => cases r2.non'
      | bl _ => cases r2.bl'
      | str _ => cases r2.str'
      | tup _ => obtain ⟨_, _, z, _⟩ := r2.tup'; cases z
      | loc _ => obtain ⟨_, z, _⟩ := r2.loc'; cases z
      | fn _ => unfold Rep at r2; exact r2.elim
      | exc _ _ => unfold Rep at r2; exact r2.elim
    | str i =>
      cases r1.str'
      cases x' with
      | str j => cases r2.str'; exact Option.some.inj (h.symm.trans h')
      | non => cases r2.non'
      | bl _ => cases r2.bl'
      | int _ => cases r2.int'
      | tup _ => obtain ⟨_, _, z, _⟩ := r2.tup'; cases z
      | loc _ => obtain ⟨_, z, _⟩ := r2.loc'; cases z
      | fn _ => unfold Rep at r2; exact r2.elim
      | exc _ _ => unfold Rep at r2; exact r2.elim
    | tup ds =>
      obtain ⟨p, xs, rfl, hp, q1⟩ := r1.tup'
      cases y with
      | tup es =>
        cases x' with
        | tup ds' =>
          obtain ⟨p', xs', z, hp', q2⟩ := r2.tup'
          cases z
          rw [hp] at hp'
          cases hp'
          exact eqL_det (fun x x' y v b b' => eqD_det st k x x' y v b b') q1 q2 h h'
        | non => cases r2.non'
        | bl _ => cases r2.bl'
        | int _ => cases r2.int'
        | str _ => cases r2.str'
        | loc _ => cases h'
        | fn _ => unfold Rep at r2; exact r2.elim
        | exc _ _ => unfold Rep at r2; exact r2.elim
      | _ => cases h
    | loc m =>
      obtain ⟨p, rfl, hp⟩ := r1.loc'
      cases y with
      | loc n =>
        cases x' with
        | loc m' =>
          obtain ⟨p', z, hp'⟩ := r2.loc'
          cases z
          by_cases hm : m = m'
          · subst hm
            exact Option.some.inj (h.symm.trans h')
          · have one : ∀ {q : Nat} {b : Bool}, Ev.eqD S (k + 1) (.loc q) (.loc n) = some b → ∃ ds, Ev.lstAt S q = some ds := fun {q b} h => by
              have h2 : (match Ev.lstAt S q, Ev.lstAt S n with
                | some xs, some ys => if xs.length = ys.length then Ev.eqL (Ev.eqD S k) xs ys else some false
                | _, _ => none) = some b := h
              cases e1 : Ev.lstAt S q with
              | none => rw [e1] at h2; cases h2
              | some ds => exact ⟨ds, rfl⟩
            obtain ⟨ds, e1⟩ := one h
            obtain ⟨ds', e2⟩ := one h'
            rcases st.nd m m' p hp hp' hm with ⟨ns, z⟩ | ⟨ns, z⟩
            · rw [(st.lst e1).1] at z; cases z
            · rw [(st.lst e2).1] at z; cases z
        | non => cases r2.non'
        | bl _ => cases r2.bl'
        | int _ => cases r2.int'
        | str _ => cases r2.str'
        | tup _ => cases h'
        | fn _ => unfold Rep at r2; exact r2.elim
        | exc _ _ => unfold Rep at r2; exact r2.elim
      | _ => cases h
    | fn _ => unfold Rep at r1; exact r1.elim
    | exc _ _ => unfold Rep at r1; exact r1.elim
theorem inL_all {x : D} : ∀ {ds : List D} {b : Bool}, Ev.inL S x ds = some b → ∀ d ∈ ds, ∃ c, Ev.eqD S Ev.eqDepth d x = some c
  | [], _, _, d, hd => by cases hd
  | y :: ys, b, h, d, hd => by
    unfold Ev.inL at h
    cases q1 : Ev.eqD S Ev.eqDepth y x with
    | none => rw [q1] at h; cases h
    | some p =>
      cases q2 : Ev.inL S x ys with
      | none => rw [q1, q2] at h; cases h
      | some q =>
        rcases List.mem_cons.mp hd with rfl | hd
        · exact ⟨p, q1⟩
        · exact inL_all q2 d hd
theorem inL_val {x : D} : ∀ {ds : List D} {b : Bool}, Ev.inL S x ds = some b → (ds.any fun d => (Ev.eqD S Ev.eqDepth d x).getD false) = b
  | [], _, h => Option.some.inj h
  | y :: ys, b, h => by
    unfold Ev.inL at h
    cases q1 : Ev.eqD S Ev.eqDepth y x with
    | none => rw [q1] at h; cases h
    | some p =>
      cases q2 : Ev.inL S x ys with
      | none => rw [q1, q2] at h; cases h
      | some q =>
        rw [q1, q2] at h
        rw [List.any_cons, inL_val q2, q1, ← Option.some.inj h]
        rfl
end
section
variable {X : Cx} {pins : List (Addr × Obj)} {σ : L2.St} {H : Hp} {s : Shared} {ρ : List Addr} {S : Store}
open Classical in
/-- the answers of a list's things, read off the values -/
theorem in_items (I : Inv X pins σ H s) (st : St3 X.K ρ S H) {A : Around} {x : D} {ds : List D} {xs : List V} {its : List Value} {b : Bool} {v : V} {vv : Value} (hu : A.units + 6 < cLine) (rx : Rep ρ H x v) (ex : RelV v vv)
    (q : Reps ρ H ds xs) (vs : Vals xs its) (h : Ev.inL S x ds = some b) : ∃ e : Value → Bool, (∀ u, u ∈ its.toArray → SeqAt.EqAt A s u vv (e u)) ∧ its.toArray.any e = b := by
  refine ⟨fun u => decide (∃ d ∈ ds, ∃ w, Rep ρ H d w ∧ RelV w u ∧ Ev.eqD S Ev.eqDepth d x = some true), fun u hu' => ?_, ?_⟩
  · have hu2 : u ∈ its := by simpa using hu'
    obtain ⟨j, hj, e⟩ := List.getElem_of_mem hu2
    have hl : j < ds.length := by rw [← q.length, vs.length]; exact hj
    obtain ⟨w, g, r⟩ := q.get (List.getElem?_eq_getElem hl)
    obtain ⟨u', g', r'⟩ := vs.get g
    have eu : u' = u := by
      rw [List.getElem?_eq_getElem hj] at g'
      exact (Option.some.inj g').symm.trans e
    subst eu
    obtain ⟨c, hc⟩ := inL_all h ds[j] (List.getElem_mem hl)
    have ec : decide (∃ d ∈ ds, ∃ w, Rep ρ H d w ∧ RelV w u' ∧ Ev.eqD S Ev.eqDepth d x = some true) = c := by
      cases c with
      | true => exact decide_eq_true ⟨ds[j], List.getElem_mem hl, w, r, r', hc⟩
      | false =>
        refine decide_eq_false ?_
        rintro ⟨d, hd, w', a1, a2, a3⟩
        cases a2.inj r'
        exact absurd (eqD_det st 6 d ds[j] x w true false a1 r a3 hc) (by decide)
    dsimp only
    rw [ec]
    exact eqAt_D I st 6 A ds[j] x w v u' vv c hu r rx r' ex hc
  · rw [← inL_val h, List.any_toArray, Bool.eq_iff_iff, List.any_eq_true, List.any_eq_true]
    constructor
    · rintro ⟨u, hu1, h1⟩
      obtain ⟨d, hd, w, a1, a2, a3⟩ := of_decide_eq_true h1
      exact ⟨d, hd, by rw [a3]; rfl⟩
    · rintro ⟨d, hd, h1⟩
      obtain ⟨j, hj, e⟩ := List.getElem_of_mem hd
      subst e
      obtain ⟨w, g, r⟩ := q.get (List.getElem?_eq_getElem hj)
      obtain ⟨u, g', r'⟩ := vs.get g
      refine ⟨u, List.mem_of_getElem? g', decide_eq_true ⟨ds[j], hd, w, r, r', ?_⟩⟩
      obtain ⟨c, hc⟩ := inL_all h ds[j] hd
      rw [hc] at h1 ⊢
      exact congrArg some h1
end
section
variable {X : Cx} {xw : Nat → Hp → Prop} {C : Calls} {e a b c : Expr} {i j k : E} {pos p p' : Pos}
theorem op_inA (hu : X.A.units + 7 < cLine) : OpR X (compareOp .In) (fun v u H Q => ∃ ρ S x ds b, St3 X.K ρ S H ∧ Rep ρ H x v ∧ (Rep ρ H (.tup ds) u ∨ ∃ n, Rep ρ H (.loc n) u ∧ S[n]? = some (.lst ds)) ∧ Ev.inL S x ds = some b ∧ Q (.bl b) H) := by
  intro pins s σ H v u vv uu Q I e1 e2 h
  obtain ⟨ρ, S, x, ds, b, st, rx, ry, hb, q⟩ := h
  rcases ry with ry | ⟨n, ry, hn⟩
  · obtain ⟨p, xs, rfl, hp, q1⟩ := ry.tup'
    cases e2
    obtain ⟨its, v1, t1, _⟩ := I.tuple (SqT.of hp)
    obtain ⟨f, h1, h2⟩ := in_items I st (A := X.A.in1) (in1_units hu) rx e1 q1 v1 hb
    exact SeqAt.in_tupleAt f t1 h1 (by rw [h2]; exact ⟨.bl b, H, I, rfl, q⟩)
  · obtain ⟨p, rfl, hp⟩ := ry.loc'
    cases e2
    obtain ⟨p', hp', xs, hx, q1⟩ := st.at hn
    rw [hp] at hp'; cases hp'
    obtain ⟨its, v1, t1, _⟩ := I.list (SqL.of hx)
    obtain ⟨f, h1, h2⟩ := in_items I st (A := X.A.in1) (in1_units hu) rx e1 q1 v1 hb
    exact SeqAt.in_listAt f t1.isList h1 (by rw [h2]; exact ⟨.bl b, H, I, rfl, q⟩)
theorem op_ninA (hu : X.A.units + 7 < cLine) : OpR X (compareOp .NotIn) (fun v u H Q => ∃ ρ S x ds b, St3 X.K ρ S H ∧ Rep ρ H x v ∧ (Rep ρ H (.tup ds) u ∨ ∃ n, Rep ρ H (.loc n) u ∧ S[n]? = some (.lst ds)) ∧ Ev.inL S x ds = some b ∧ Q (.bl !b) H) := by
  intro pins s σ H v u vv uu Q I e1 e2 h
  obtain ⟨ρ, S, x, ds, b, st, rx, ry, hb, q⟩ := h
  rcases ry with ry | ⟨n, ry, hn⟩
  · obtain ⟨p, xs, rfl, hp, q1⟩ := ry.tup'
    cases e2
    obtain ⟨its, v1, t1, _⟩ := I.tuple (SqT.of hp)
    obtain ⟨f, h1, h2⟩ := in_items I st (A := X.A.in1) (in1_units hu) rx e1 q1 v1 hb
    exact SeqAt.notIn_tupleAt f t1 h1 (by rw [h2]; exact ⟨.bl !b, H, I, rfl, q⟩)
  · obtain ⟨p, rfl, hp⟩ := ry.loc'
    cases e2
    obtain ⟨p', hp', xs, hx, q1⟩ := st.at hn
    rw [hp] at hp'; cases hp'
    obtain ⟨its, v1, t1, _⟩ := I.list (SqL.of hx)
    obtain ⟨f, h1, h2⟩ := in_items I st (A := X.A.in1) (in1_units hu) rx e1 q1 v1 hb
    exact SeqAt.notIn_listAt f t1.isList h1 (by rw [h2]; exact ⟨.bl !b, H, I, rfl, q⟩)
/-! ### the rest of the comparisons -/
variable {ρ : List Addr} {H : Hp} {S : Store} {x y : D} {v u : V} {Q : VK} {K : PySem.W.Frag}
theorem lt_ok (st : St3 K ρ S H) (rx : Rep ρ H x v) (ry : Rep ρ H y u) (h : End K xw Rep ρ H Q (Ev.cmpop .lt x y S)) : rI0 (fun i j => .bl (decide (i < j))) v u H Q := by
  cases x with
  | int i => cases y with
    | int j => exact ⟨i, j, rx.int', ry.int', End.ok h st (rep_bl _)⟩
    | _ => exact False.elim h
  | _ => cases y <;> exact False.elim h
theorem le_ok (st : St3 K ρ S H) (rx : Rep ρ H x v) (ry : Rep ρ H y u) (h : End K xw Rep ρ H Q (Ev.cmpop .le x y S)) : rI0 (fun i j => .bl (decide (i ≤ j))) v u H Q := by
  cases x with
  | int i => cases y with
    | int j => exact ⟨i, j, rx.int', ry.int', End.ok h st (rep_bl _)⟩
    | _ => exact False.elim h
  | _ => cases y <;> exact False.elim h
theorem gt_ok (st : St3 K ρ S H) (rx : Rep ρ H x v) (ry : Rep ρ H y u) (h : End K xw Rep ρ H Q (Ev.cmpop .gt x y S)) : rI0 (fun i j => .bl (decide (j < i))) v u H Q := by
  cases x with
  | int i => cases y with
    | int j => exact ⟨i, j, rx.int', ry.int', End.ok h st (rep_bl _)⟩
    | _ => exact False.elim h
  | _ => cases y <;> exact False.elim h
theorem ge_ok (st : St3 K ρ S H) (rx : Rep ρ H x v) (ry : Rep ρ H y u) (h : End K xw Rep ρ H Q (Ev.cmpop .ge x y S)) : rI0 (fun i j => .bl (decide (j ≤ i))) v u H Q := by
  cases x with
  | int i => cases y with
    | int j => exact ⟨i, j, rx.int', ry.int', End.ok h st (rep_bl _)⟩
    | _ => exact False.elim h
  | _ => cases y <;> exact False.elim h
end
end Sd

set_option Elab.async false
set_option linter.all false
set_option maxRecDepth 100000
namespace Sd
open PySem PySem.Spec PyProof.Rows L2
open Ev (D Ob Store Lc R E Sm Calls Walk Fl Fn Bop Cop Ty Bf Mf ev evs evo evt evw tst run runs)
section
variable {X : Cx} {xw : Nat → Hp → Prop} {C : Calls} {e a b c : Expr} {i j k : E} {pos p p' : Pos}
theorem bind_assoc3 {α β γ : Type} (r : R α) (f : α → Store → R β) (g : β → Store → R γ) : (r.bind f).bind g = r.bind fun a S => (f a S).bind g := by cases r <;> rfl
theorem ob_bind {α β : Type} {o : Option α} {S S' : Store} {f : α → Store → R β} {z : β} (h : (Ev.ob o S).bind f = .ok z S') : ∃ a, o = some a ∧ f a S = .ok z S' := by
  cases o with
  | none => cases h
  | some a => exact ⟨a, rfl, h⟩
theorem cmpop_bl {o : Cop} {x y : D} {S S' : Store} {z : D} (h : Ev.cmpop o x y S = .ok z S') : ∃ b, z = .bl b := by
  have fin : ∀ {n : Bool}, R.ok (D.bl n) S = .ok z S' → ∃ b, z = .bl b := fun {n} e => by cases e; exact ⟨n, rfl⟩
  cases o with
  | eq => obtain ⟨_, _, e⟩ := ob_bind h; exact fin e
  | ne => obtain ⟨_, _, e⟩ := ob_bind h; exact fin e
  | lt => cases x <;> cases y <;> first | exact fin h | cases h
  | gt => cases x <;> cases y <;> first | exact fin h | cases h
  | le => cases x <;> cases y <;> first | exact fin h | cases h
  | ge => cases x <;> cases y <;> first | exact fin h | cases h
  | is => cases x <;> cases y <;> first | exact fin h | cases h
  | isn => cases x <;> cases y <;> first | exact fin h | cases h
  | inn => cases q : Ev.isIn S x y with
    | ok b S1 => have h' : ((Ev.isIn S x y).bind fun b S => R.ok (D.bl b) S) = .ok z S' := h; rw [q] at h'; cases h'; exact ⟨b, rfl⟩
    | ex _ _ => have h' : ((Ev.isIn S x y).bind fun b S => R.ok (D.bl b) S) = .ok z S' := h; rw [q] at h'; cases h'
    | no => have h' : ((Ev.isIn S x y).bind fun b S => R.ok (D.bl b) S) = .ok z S' := h; rw [q] at h'; cases h'
  | nin => cases q : Ev.isIn S x y with
    | ok b S1 => have h' : ((Ev.isIn S x y).bind fun b S => R.ok (D.bl !b) S) = .ok z S' := h; rw [q] at h'; cases h'; exact ⟨!b, rfl⟩
    | ex _ _ => have h' : ((Ev.isIn S x y).bind fun b S => R.ok (D.bl !b) S) = .ok z S' := h; rw [q] at h'; cases h'
    | no => have h' : ((Ev.isIn S x y).bind fun b S => R.ok (D.bl !b) S) = .ok z S' := h; rw [q] at h'; cases h'
/-- a comparison's rule, by data: op and the small language's op -/
def CmpOk (X : Cx) (xw : Nat → Hp → Prop) (op : CmpOp) (o : Cop) : Prop := OpR X (compareOp op) (rCmp X.K xw o)
theorem OpR.imp {X : Cx} {f : Value → Value → Sem Value} {r r' : R2} (h : OpR X f r) (k : ∀ v u H Q, r' v u H Q → r v u H Q) : OpR X f r' := fun pins s σ H x y v u Q I e1 e2 q => h pins s σ H x y v u Q I e1 e2 (k x y H Q q)
theorem cm_eq (hu : X.A.units + 7 < cLine) : CmpOk X xw .Eq .eq := op_eqA (by omega)
theorem cm_ne (hu : X.A.units + 7 < cLine) : CmpOk X xw .NotEq .ne := op_neA (by omega)
theorem cm_lt (hu : X.A.units + 7 < cLine) : CmpOk X xw .Lt .lt := OpR.imp op_lt fun v u H Q ⟨ρ, S, x, y, st, rx, ry, h⟩ => lt_ok st rx ry h
theorem cm_le (hu : X.A.units + 7 < cLine) : CmpOk X xw .LtE .le := OpR.imp op_le fun v u H Q ⟨ρ, S, x, y, st, rx, ry, h⟩ => le_ok st rx ry h
theorem cm_gt (hu : X.A.units + 7 < cLine) : CmpOk X xw .Gt .gt := OpR.imp op_gt fun v u H Q ⟨ρ, S, x, y, st, rx, ry, h⟩ => gt_ok st rx ry h
theorem cm_ge (hu : X.A.units + 7 < cLine) : CmpOk X xw .GtE .ge := OpR.imp op_ge fun v u H Q ⟨ρ, S, x, y, st, rx, ry, h⟩ => ge_ok st rx ry h
theorem cm_is (hu : X.A.units + 7 < cLine) : CmpOk X xw .Is .is := OpR.imp (op_isN.or op_isB) fun v u H Q ⟨ρ, S, x, y, st, rx, ry, h⟩ => by
  cases y with
  | non =>
    refine .inl ⟨ry.non', ?_⟩
    have e : decide (x = D.non) = decide (v = V.non) := by
      cases x with
      | non => rw [rx.non']; simp
      | bl _ => rw [rx.bl']; simp
      | int _ => rw [rx.int']; simp
      | str _ => rw [rx.str']; simp
      | tup _ => obtain ⟨_, _, z, _⟩ := rx.tup'; rw [z]; simp
      | loc _ => obtain ⟨_, z, _⟩ := rx.loc'; rw [z]; simp
      | fn _ => unfold Rep at rx; exact rx.elim
      | exc _ _ => unfold Rep at rx; exact rx.elim
    rw [← e]
    have h' : End X.K xw Rep ρ H Q (.ok (.bl (decide (x = .non))) S) := by cases x <;> exact h
    exact End.ok h' st (rep_bl _)
  | bl j => cases x with
    | bl i => exact .inr ⟨i, j, rx.bl', ry.bl', End.ok h st (rep_bl _)⟩
    | _ => exact False.elim h
  | _ => cases x <;> exact False.elim h
theorem cm_isn (hu : X.A.units + 7 < cLine) : CmpOk X xw .IsNot .isn := OpR.imp (op_notN.or op_isnB) fun v u H Q ⟨ρ, S, x, y, st, rx, ry, h⟩ => by
  cases y with
  | non =>
    refine .inl ⟨ry.non', ?_⟩
    have e : decide (x ≠ D.non) = !decide (v = V.non) := by
      cases x with
      | non => rw [rx.non']; simp
      | bl _ => rw [rx.bl']; simp
      | int _ => rw [rx.int']; simp
      | str _ => rw [rx.str']; simp
      | tup _ => obtain ⟨_, _, z, _⟩ := rx.tup'; rw [z]; simp
      | loc _ => obtain ⟨_, z, _⟩ := rx.loc'; rw [z]; simp
      | fn _ => unfold Rep at rx; exact rx.elim
      | exc _ _ => unfold Rep at rx; exact rx.elim
    rw [← e]
    have h' : End X.K xw Rep ρ H Q (.ok (.bl (decide (x ≠ .non))) S) := by cases x <;> exact h
    exact End.ok h' st (rep_bl _)
  | bl j => cases x with
    | bl i => exact .inr ⟨i, j, rx.bl', ry.bl', End.ok h st (rep_bl _)⟩
    | _ => exact False.elim h
  | _ => cases x <;> exact False.elim h
/-- in, over lists and tuples, and over dicts by another rule -/
theorem in_cases {ρ : List Addr} {S : Store} {H : Hp} {x y : D} {u : V} (st : St3 X.K ρ S H) (ry : Rep ρ H y u) {f : Bool → Store → R D} {Q : VK} (h : End X.K xw Rep ρ H Q ((Ev.isIn S x y).bind f)) :
    (∃ ds b, (Rep ρ H (.tup ds) u ∨ ∃ n, Rep ρ H (.loc n) u ∧ S[n]? = some (.lst ds)) ∧ Ev.inL S x ds = some b ∧ End X.K xw Rep ρ H Q (f b S)) ∨
    (∃ n kvs k ks, Rep ρ H (.loc n) u ∧ S[n]? = some (.dt kvs) ∧ x = .tup k ∧ Ev.keyOf k = some ks ∧ End X.K xw Rep ρ H Q (f ((kvs.map (·.1)).contains ks) S)) := by
  cases y with
  | tup ys =>
    obtain ⟨b, hb, h1⟩ := End.ob (show End X.K xw Rep ρ H Q ((Ev.ob (Ev.inL S x ys) S).bind f) from h)
    exact .inl ⟨ys, b, .inl ry, hb, h1⟩
  | loc n =>
    have h' : End X.K xw Rep ρ H Q ((Ev.inOb S x S[n]?).bind f) := h
    cases q : S[n]? with
    | none => rw [q] at h'; exact False.elim h'
    | some o =>
      rw [q] at h'
      cases o with
      | lst ys =>
        obtain ⟨b, hb, h1⟩ := End.ob (show End X.K xw Rep ρ H Q ((Ev.ob (Ev.inL S x ys) S).bind f) from h')
        exact .inl ⟨ys, b, .inr ⟨n, ry, q⟩, hb, h1⟩
      | dt kvs =>
        cases x with
        | tup k =>
          have h2 : End X.K xw Rep ρ H Q (((Ev.ob (Ev.keyOf k) S).bind fun k S => R.ok ((kvs.map (·.1)).contains k) S).bind f) := h'
          cases e : Ev.keyOf k with
          | none => rw [e] at h2; exact False.elim h2
          | some ks => rw [e] at h2; exact .inr ⟨n, kvs, k, ks, ry, q, rfl, e, h2⟩
        | _ => exact False.elim h'
      | _ => exact False.elim h'
  | _ => exact False.elim h
theorem ce_cmp {op : CmpOp} {o : Cop} (hc : CmpOk X xw op o) (ha : CE X xw C a i) (hb : CE X xw C b j) (hm : behindInMarks op b = false := by first | exact nomark _ | rfl | (with_unfolding_all rfl)) : CE X xw C (.Compare a [op] [b] pos) (.cmp o i j) :=
  PE.imp (pe_cmpR hc ha hb hm) (cmp_of)
theorem ct_cmp {op : CmpOp} {o : Cop} (hc : CmpOk X xw op o) (ha : CE X xw C a i) (hb : CE X xw C b j) (hm : behindInMarks op b = false := by first | exact nomark _ | rfl | (with_unfolding_all rfl)) : CT X xw C (.Compare a [op] [b] pos) (.cmp o i j) :=
  PT.imp (pt_cmpR hc ha hb hm) fun σ H Q ⟨ρ, l, S, st, lr, h⟩ => by
    have h' : End X.K xw repB ρ H Q (((ev C i l S).bind fun x S => (ev C j l S).bind fun y S => Ev.cmpop o x y S).bind fun x S => Ev.ob (Ev.truth S x) S) := h
    simp only [bind_assoc3] at h'
    refine ⟨ρ, l, S, st, lr, h'.bind fun x S1 ρ1 H1 v f1 st1 r1 h1 => ⟨ρ1, l, S1, st1, lr.mono f1, h1.bind fun y S2 ρ2 H2 u f2 st2 r2 h2 => ⟨ρ2, S2, x, y, st2, r1.mono f2, r2, ?_⟩⟩⟩
    have h3 : ∀ {r : R D}, (∀ z S', r = .ok z S' → ∃ b, z = .bl b) → End X.K xw repB ρ2 H2 Q (r.bind fun x S => Ev.ob (Ev.truth S x) S) → End X.K xw Rep ρ2 H2 (fun x H' => ∃ k, x = V.bl k ∧ Q k H') r := fun {r} hr h => by
      cases r with
      | no => exact h
      | ex _ _ => exact h
      | ok z S3 =>
        obtain ⟨b, rfl⟩ := hr z S3 rfl
        exact fun ρ3 H3 w f3 st3 r3 => ⟨b, r3.bl', h ρ3 H3 b f3 st3 rfl⟩
    exact h3 (fun z S' e => cmpop_bl e) h2
theorem ce_chain {op op' : CmpOp} {o o' : Cop} {d : Expr} {k : E} (hc : CmpOk X xw op o) (hc' : CmpOk X xw op' o') (ha : CE X xw C a i) (hb : CE X xw C b j) (hd : CE X xw C d k)
    (hm : lastMarks [op, op'] [b, d] = false := by with_unfolding_all rfl) : CE X xw C (.Compare a [op, op'] [b, d] pos) (.chain o o' i j k) :=
  PE.imp (pe_chain hc hc' ha hb hd hm) fun σ H Q ⟨ρ, l, S, st, lr, h⟩ => by
    refine ⟨ρ, l, S, st, lr, End.bind (show End X.K xw Rep ρ H Q ((ev C i l S).bind _) from h) fun x S1 ρ1 H1 v f1 st1 r1 h1 => ⟨ρ1, l, S1, st1, lr.mono f1, h1.bind fun y S2 ρ2 H2 u f2 st2 r2 h2 => ⟨ρ2, S2, x, y, st2, r1.mono f2, r2, h2.bind fun z S3 ρ3 H3 w f3 st3 r3 h3 => ?_⟩⟩⟩
    cases z with
    | bl n =>
      refine ⟨n, r3.bl', ?_⟩
      cases n with
      | true => exact ⟨ρ3, l, S3, st3, ((lr.mono f1).mono f2).mono f3, End.bind (show End X.K xw Rep ρ3 H3 Q ((ev C k l S3).bind _) from h3) fun t S4 ρ4 H4 t' f4 st4 r4 h4 => ⟨ρ4, S4, y, t, st4, (r2.mono f3).mono f4, r4, h4⟩⟩
      | false => exact End.ok h3 st3 (rep_bl _)
    | _ => exact False.elim h3
end
end Sd

set_option Elab.async false
set_option linter.all false
set_option maxRecDepth 100000
namespace Sd
open PySem PySem.Spec PyProof.Rows L2
open Ev (D Ob Store Lc R E Sm Calls Walk Fl Fn Bop Cop Ty Bf Mf ev evs evo evt evw tst run runs)
section
variable {X : Cx} {xw : Nat → Hp → Prop} {C : Calls} {e a b c : Expr} {i j k : E} {pos p p' p2 : Pos}
variable {ρ : List Addr} {H : Hp} {S : Store} {x y : D} {v u : V} {Q : VK} {K : PySem.W.Frag}
/-! ### in -/
theorem keyOf_rep : ∀ {ks : List D} {k : List Int} {xs : List V}, Ev.keyOf ks = some k → Reps ρ H ks xs → xs = (k.map (Sum.inl : Int → Key)).map kV
  | [], k, xs, h, r => by unfold Reps at r; cases h; rw [r]; rfl
  | .int n :: ks, k, xs, h, r => by
    unfold Reps at r
    obtain ⟨v, vs, rfl, a1, b1⟩ := r
    have h' : (Ev.keyOf ks).map (n :: ·) = some k := h
    cases q : Ev.keyOf ks with
    | none => rw [q] at h'; cases h'
    | some k' =>
      rw [q] at h'
      have e : n :: k' = k := Option.some.inj h'
      rw [← e, a1.int', keyOf_rep q b1]
      rfl
  | .non :: ks, k, xs, h, r => by cases h
  | .bl _ :: ks, k, xs, h, r => by cases h
  | .str _ :: ks, k, xs, h, r => by cases h
  | .tup _ :: ks, k, xs, h, r => by cases h
  | .loc _ :: ks, k, xs, h, r => by cases h
  | .fn _ :: ks, k, xs, h, r => by cases h
  | .exc _ _ :: ks, k, xs, h, r => by cases h
theorem inl_inj : ∀ {k k' : List Int}, k.map (Sum.inl : Int → Key) = k'.map Sum.inl → k = k'
  | [], [], _ => rfl
  | [], _ :: _, h => by simp at h
  | _ :: _, [], h => by simp at h
  | a :: k, b :: k', h => by
    rw [List.map_cons, List.map_cons] at h
    injection h with h1 h2
    rw [Sum.inl.inj h1, inl_inj h2]
theorem valV_contains {k : List Int} : ∀ {kvs : List (List Int × D)} {vs : List (List Key × V)}, RepKV ρ H kvs vs → (valV vs (k.map (Sum.inl : Int → Key))).isSome = (kvs.map (·.1)).contains k
  | _, _, .nil => rfl
  | _, _, .cons (a := p) (b := q) r t => by
    have ih := valV_contains (k := k) t
    rw [List.map_cons, List.contains_cons, ← ih]
    unfold valV
    rw [List.find?_cons]
    by_cases z : p.1 = k
    · have z' : q.1 = k.map Sum.inl := by rw [r.1, z]
      rw [decide_eq_true z', z]
      simp
    · have z' : ¬ q.1 = k.map Sum.inl := fun w => z (inl_inj (r.1.symm.trans w))
      rw [decide_eq_false z']
      have : (k == p.1) = false := beq_eq_false_iff_ne.mpr (Ne.symm z)
      rw [this, Bool.false_or]
theorem op_inD (hu : X.A.units + 7 < cLine) : OpR X (compareOp .In) (fun v u H Q => ∃ a y o, u = .ref a ∧ v = y ∧ DGet H a y o ∧ Q (.bl o.isSome) H) := by
  intro pins s σ H v u vv uu Q I e1 e2 h
  obtain ⟨a, y, o, rfl, rfl, g, q⟩ := h
  cases e2
  exact d_in (by omega) I g e1 fun s' I' => ⟨.bl o.isSome, H, I', rfl, q⟩
theorem op_ninD (hu : X.A.units + 7 < cLine) : OpR X (compareOp .NotIn) (fun v u H Q => ∃ a y o, u = .ref a ∧ v = y ∧ DGet H a y o ∧ Q (.bl !o.isSome) H) := by
  intro pins s σ H v u vv uu Q I e1 e2 h
  obtain ⟨a, y, o, rfl, rfl, g, q⟩ := h
  cases e2
  exact d_notIn (by omega) I g e1 fun s' I' => ⟨.bl !o.isSome, H, I', rfl, q⟩
theorem cm_in (hu : X.A.units + 7 < cLine) : CmpOk X xw .In .inn := OpR.imp ((op_inA hu).or (op_inD hu)) fun v u H Q ⟨ρ, S, x, y, st, rx, ry, h⟩ => by
  rcases in_cases st ry (show End X.K xw Rep ρ H Q ((Ev.isIn S x y).bind fun b S => .ok (.bl b) S) from h) with ⟨ds, b, hy, hb, h1⟩ | ⟨n, kvs, k, ks, hy, hn, rfl, hk, h1⟩
  · exact .inl ⟨ρ, S, x, ds, b, st, rx, hy, hb, End.ok h1 st (rep_bl _)⟩
  · obtain ⟨p, rfl, hp⟩ := hy.loc'
    obtain ⟨p', hp', vs, hx, r⟩ := st.at hn
    rw [hp] at hp'; cases hp'
    obtain ⟨q, xs, rfl, hq, r2⟩ := rx.tup'
    refine .inr ⟨p, .ref q, valV vs (ks.map Sum.inl), rfl, rfl, DGet.t hx (by rw [hq, keyOf_rep hk r2]), ?_⟩
    rw [valV_contains r]
    exact End.ok h1 st (rep_bl _)
theorem cm_nin (hu : X.A.units + 7 < cLine) : CmpOk X xw .NotIn .nin := OpR.imp ((op_ninA hu).or (op_ninD hu)) fun v u H Q ⟨ρ, S, x, y, st, rx, ry, h⟩ => by
  rcases in_cases st ry (show End X.K xw Rep ρ H Q ((Ev.isIn S x y).bind fun b S => .ok (.bl !b) S) from h) with ⟨ds, b, hy, hb, h1⟩ | ⟨n, kvs, k, ks, hy, hn, rfl, hk, h1⟩
  · exact .inl ⟨ρ, S, x, ds, b, st, rx, hy, hb, End.ok h1 st (rep_bl _)⟩
  · obtain ⟨p, rfl, hp⟩ := hy.loc'
    obtain ⟨p', hp', vs, hx, r⟩ := st.at hn
    rw [hp] at hp'; cases hp'
    obtain ⟨q, xs, rfl, hq, r2⟩ := rx.tup'
    refine .inr ⟨p, .ref q, valV vs (ks.map Sum.inl), rfl, rfl, DGet.t hx (by rw [hq, keyOf_rep hk r2]), ?_⟩
    rw [valV_contains r]
    exact End.ok h1 st (rep_bl _)
/-! ### items and slices -/
theorem ce_ix (ha : CE X xw C a i) (hb : CE X xw C b j) (hs : PlainIx b := by intro _ _; with_unfolding_all rfl) : CE X xw C (.Subscript a b pos) (.ix i j) := PE.imp (pe_ix (ix_list.or ix_tup) ha hb hs) (two_of fun {ρ H S x y v u Q} st rx ry h => by
  cases x with
  | tup ds => cases y with
    | int n =>
      obtain ⟨p, xs, rfl, hp, r⟩ := rx.tup'
      have h' : End X.K xw Rep ρ H Q (Ev.ob (Ev.at' ds n) S) := h
      cases q : Ev.at' ds n with
      | none => rw [q] at h'; exact False.elim h'
      | some d =>
        rw [q] at h'
        unfold Ev.at' at q
        cases q2 : Ev.ixN ds.length n with
        | none => rw [q2] at q; cases q
        | some m =>
          rw [q2] at q
          obtain ⟨w, g, rw'⟩ := r.get (show ds[m]? = some d from q)
          refine .inr ⟨p, xs, n, w, rfl, ry.int', SqT.of hp, ?_, End.ok h' st rw'⟩
          unfold atI
          rw [r.length, show ixN ds.length n = some m from q2]
          exact g
    | _ => exact False.elim h
  | loc m => cases y with
    | int n =>
      have h' : End X.K xw Rep ρ H Q (match Ev.seqAt S m with
        | some xs => Ev.ob (Ev.at' xs n) S
        | none => .no) := h
      cases e1 : Ev.seqAt S m with
      | none => rw [e1] at h'; exact False.elim h'
      | some ds =>
        rw [e1] at h'
        obtain ⟨p, xs, q1, hp, r⟩ := st.seq e1
        obtain ⟨p', rfl, t⟩ := rx.loc'
        rw [q1] at t; cases t
        have h2 : End X.K xw Rep ρ H Q (Ev.ob (Ev.at' ds n) S) := h'
        cases q : Ev.at' ds n with
        | none => rw [q] at h2; exact False.elim h2
        | some d =>
          rw [q] at h2
          unfold Ev.at' at q
          cases q2 : Ev.ixN ds.length n with
          | none => rw [q2] at q; cases q
          | some k =>
            rw [q2] at q
            obtain ⟨w, g, rw'⟩ := r.get (show ds[k]? = some d from q)
            refine .inl ⟨p, xs, n, w, rfl, ry.int', hp, ?_, End.ok h2 st rw'⟩
            unfold atI
            rw [r.length, show ixN ds.length n = some k from q2]
            exact g
    | _ => exact False.elim h
  | _ => cases y <;> exact False.elim h)
theorem co_none : CO X xw C none none := PO.imp po_none fun σ H Q ⟨ρ, l, S, st, lr, h⟩ => End.ok (rep := repI) h st rfl
theorem co_some (h : CE X xw C e i) : CO X xw C (some e) (some i) := PO.imp (po_some h) fun σ H Q ⟨ρ, l, S, st, lr, h⟩ => by
  refine ⟨ρ, l, S, st, lr, End.bind (show End X.K xw repI ρ H Q ((ev C i l S).bind _) from h) fun x S1 ρ1 H1 v f1 st1 r1 h1 => ?_⟩
  cases x with
  | int n => exact ⟨n, r1.int', End.ok (rep := repI) h1 st1 rfl⟩
  | _ => exact False.elim h1
theorem sIx_eq (n d : Nat) (o : Option Int) : Ev.sIx n d o = HT.sIx n d o := by
  cases o with
  | none => rfl
  | some i => first | rfl | (unfold Ev.sIx HT.sIx; rfl)
theorem cut_rep {ds : List D} {xs : List V} (r : Reps ρ H ds xs) (lo hi : Option Int) : Reps ρ H (Ev.cut ds lo hi) (cutV xs lo hi) := by
  unfold Ev.cut cutV
  rw [sIx_eq, sIx_eq, r.length]
  exact (r.drop _).take _
theorem ce_sl {lo hi : Option Expr} {il ih : Option E} (ha : CE X xw C a i) (hl : CO X xw C lo il) (hh : CO X xw C hi ih) : CE X xw C (.Subscript a (.Slice lo hi none p2) pos) (.sl i il ih) :=
  PE.imp (pe_slice (sl_tup.or (sl_whole.or sl_list)) ha hl hh) fun σ H Q ⟨ρ, l, S, st, lr, h⟩ => by
    refine ⟨ρ, l, S, st, lr, End.bind (show End X.K xw Rep ρ H Q ((ev C i l S).bind _) from h) fun x S1 ρ1 H1 v f1 st1 r1 h1 => ⟨ρ1, l, S1, st1, lr.mono f1, h1.bind fun y S2 ρ2 H2 u f2 st2 r2 h2 => ⟨ρ2, l, S2, st2, (lr.mono f1).mono f2, h2.bind fun z S3 ρ3 H3 w f3 st3 r3 h3 => ?_⟩⟩⟩
    have e1 : y = u := r2
    have e2 : z = w := r3
    subst e1 e2
    have r0 := (r1.mono f2).mono f3
    cases x with
    | tup ds =>
      obtain ⟨p, xs, rfl, hp, r⟩ := r0.tup'
      have h' : End X.K xw Rep ρ3 H3 Q (.ok (.tup (Ev.cut ds y z)) S3) := h3
      by_cases hw : HT.sIx xs.length 0 y = 0 ∧ HT.sIx xs.length xs.length z = xs.length
      · refine .inr (.inl ⟨p, xs, rfl, SqT.of hp, hw, End.ok h' st3 ?_⟩)
        have ew : Ev.cut ds y z = ds := by
          unfold Ev.cut
          rw [sIx_eq, sIx_eq, ← r.length, hw.1, hw.2, List.drop_zero, Nat.sub_zero, r.length, List.take_length]
        rw [ew]
        exact rep_tup hp r
      · exact .inl ⟨p, xs, rfl, SqT.of hp, hw, h'.newT st3 (cut_rep r y z)⟩
    | loc n =>
      have h' : End X.K xw Rep ρ3 H3 Q (match Ev.lstAt S3 n with
        | some xs => .ok (.loc S3.length) (S3 ++ [.lst (Ev.cut xs y z)])
        | none => .no) := h3
      cases e1 : Ev.lstAt S3 n with
      | none => rw [e1] at h'; exact False.elim h'
      | some ds =>
        rw [e1] at h'
        obtain ⟨_, p, xs, q1, hp, r⟩ := st3.lst e1
        obtain ⟨p', rfl, t⟩ := r0.loc'
        rw [q1] at t; cases t
        exact .inr (.inr ⟨p, xs, rfl, SqL.of hp, End.newL h' st3 (cut_rep r y z)⟩)
    | _ => exact False.elim h3
/-! ### Python's own functions -/
/-- a rule for a call, by data -/
def rBlt (K : PySem.W.Frag) (xw : Nat → Hp → Prop) (f : Bf) : List V → Hp → VK → Prop := fun vs H Q => ∃ ρ S ds, St3 K ρ S H ∧ Reps ρ H ds vs ∧ End K xw Rep ρ H Q (Ev.bltin f ds S)
theorem CallR.imp {X : Cx} {f : Value} {r r' : List V → Hp → VK → Prop} (h : CallR X f r) (k : ∀ vs H Q, r' vs H Q → r vs H Q) : CallR X f r' := fun pins s σ H xs us Q I e q => h pins s σ H xs us Q I e (k xs H Q q)
theorem blt_of {f : Bf} {is : List E} : ∀ σ H Q, tE X xw (ev C (.blt f is)) σ H Q → tCB (rBlt X.K xw f) (tA X xw (evs C is)) σ H Q := fun σ H Q ⟨ρ, l, S, st, lr, h⟩ =>
  ⟨ρ, l, S, st, lr, End.bind (show End X.K xw Rep ρ H Q ((evs C is l S).bind _) from h) fun xs S1 ρ1 H1 vs f1 st1 r1 h1 => ⟨ρ1, S1, xs, st1, r1, h1⟩⟩
theorem reps1 {d : D} {vs : List V} (r : Reps ρ H [d] vs) : ∃ v, vs = [v] ∧ Rep ρ H d v := by
  unfold Reps at r
  obtain ⟨v, ws, rfl, a1, b1⟩ := r
  unfold Reps at b1
  exact ⟨v, by rw [b1], a1⟩
theorem reps2 {d e : D} {vs : List V} (r : Reps ρ H [d, e] vs) : ∃ v w, vs = [v, w] ∧ Rep ρ H d v ∧ Rep ρ H e w := by
  unfold Reps at r
  obtain ⟨v, ws, rfl, a1, b1⟩ := r
  obtain ⟨w, rfl, b2⟩ := reps1 b1
  exact ⟨v, w, rfl, a1, b2⟩
/-- what a list or tuple holds -/
theorem items_seq (st : St3 K ρ S H) (rx : Rep ρ H x v) {ds : List D} (h : Ev.seqOf S x = some ds) : ∃ p xs, v = .ref p ∧ (SqL K H p xs ∨ SqT K H p xs) ∧ Reps ρ H ds xs := by
  cases x with
  | tup es =>
    cases h
    obtain ⟨p, xs, rfl, hp, r⟩ := rx.tup'
    exact ⟨p, xs, rfl, .inr (SqT.of hp), r⟩
  | loc n =>
    obtain ⟨p, rfl, hp⟩ := rx.loc'
    obtain ⟨p', xs, q1, hx, r⟩ := st.seq (show Ev.seqAt S n = some ds from h)
    rw [hp] at q1; cases q1
    exact ⟨p, xs, rfl, .inl hx, r⟩
  | _ => cases h
theorem blt_len : CallR X (.builtin "len") (rBlt X.K xw .len) := CallR.imp call_len_seq fun vs H Q ⟨ρ, S, ds, st, r, h⟩ => by
  cases ds with
  | nil => exact False.elim h
  | cons d ds => cases ds with
    | cons _ _ => exact False.elim h
    | nil =>
      obtain ⟨v, rfl, rv⟩ := reps1 r
      obtain ⟨xs, hx, h1⟩ := End.ob (show End X.K xw Rep ρ H Q ((Ev.ob (Ev.seqOf S d) S).bind fun xs S => .ok (.int xs.length) S) from h)
      obtain ⟨p, ys, rfl, hq, r2⟩ := items_seq st rv hx
      refine ⟨p, ys, rfl, hq, ?_⟩
      rw [r2.length]
      exact End.ok h1 st (rep_int _)
theorem blt_max (hc : X.calm = true) : CallR X (.builtin "max") (rBlt X.K xw .max2) := CallR.imp (call_max2 hc) fun vs H Q ⟨ρ, S, ds, st, r, h⟩ => by
  match ds, r, h with
  | [.int m, .int n], r, h =>
    obtain ⟨v, w, rfl, r1, r2⟩ := reps2 r
    exact ⟨m, n, by rw [r1.int', r2.int'], End.ok h st (rep_int _)⟩
theorem blt_min (hc : X.calm = true) : CallR X (.builtin "min") (rBlt X.K xw .min2) := CallR.imp (call_min2 hc) fun vs H Q ⟨ρ, S, ds, st, r, h⟩ => by
  match ds, r, h with
  | [.int m, .int n], r, h =>
    obtain ⟨v, w, rfl, r1, r2⟩ := reps2 r
    exact ⟨m, n, by rw [r1.int', r2.int'], End.ok h st (rep_int _)⟩
theorem blt_int : CallR X (.type "int") (rBlt X.K xw .toInt) := CallR.imp call_int1 fun vs H Q ⟨ρ, S, ds, st, r, h⟩ => by
  match ds, r, h with
  | [.int m], r, h =>
    obtain ⟨v, rfl, r1⟩ := reps1 r
    exact .inl ⟨m, by rw [r1.int'], End.ok h st (rep_int _)⟩
  | [.bl m], r, h =>
    obtain ⟨v, rfl, r1⟩ := reps1 r
    exact .inr ⟨m, by rw [r1.bl'], End.ok h st (rep_int _)⟩
theorem blt_tuple : CallR X (.type "tuple") (rBlt X.K xw .tuple) := CallR.imp call_tuple_of fun vs H Q ⟨ρ, S, ds, st, r, h⟩ => by
  match ds, r, h with
  | [.tup es], r, h =>
    obtain ⟨v, rfl, r1⟩ := reps1 r
    obtain ⟨p, xs, rfl, hp, r2⟩ := r1.tup'
    exact ⟨p, xs, rfl, .inr ⟨SqT.of hp, End.ok h st r1⟩⟩
  | [.loc n], r, h =>
    obtain ⟨v, rfl, r1⟩ := reps1 r
    obtain ⟨xs, hx, h1⟩ := End.ob (show End X.K xw Rep ρ H Q ((Ev.ob (Ev.lstAt S n) S).bind fun xs S => .ok (.tup xs) S) from h)
    obtain ⟨_, p, ys, q1, hp, r2⟩ := st.lst hx
    obtain ⟨p', rfl, t⟩ := r1.loc'
    rw [q1] at t; cases t
    exact ⟨p, ys, rfl, .inl ⟨SqL.of hp, h1.newT st r2⟩⟩
theorem blt_list : CallR X (.type "list") (rBlt X.K xw .list) := CallR.imp call_list_of fun vs H Q ⟨ρ, S, ds, st, r, h⟩ => by
  match ds, r, h with
  | [d], r, h =>
    obtain ⟨v, rfl, r1⟩ := reps1 r
    obtain ⟨xs, hx, h1⟩ := End.ob (show End X.K xw Rep ρ H Q ((Ev.ob (Ev.seqOf S d) S).bind fun xs S => .ok (.loc S.length) (S ++ [.lst xs])) from h)
    obtain ⟨p, ys, rfl, hq, r2⟩ := items_seq st r1 hx
    exact ⟨p, ys, rfl, hq, h1.newL st r2⟩
/-- f(..), f a built-in function; T(..), T a built-in type -/
theorem ce_bltB {f : Bf} {id : String} {x : Str} {es : List Expr} {is : List E} (hc : CallR X (.builtin id) (rBlt X.K xw f)) (hm : X.mg x = none) (ha : CA X xw C (e :: es) is) (hg : Gl X x := by rfl) (hv : bootBuiltins x = some (.builtin id) := by rfl) (hn : x ≠ "__name__" := by decide) (hdb : (x == ("__debug__" : Str)) = false := by decide)
    (he : starEach (e :: es) X.env = (false, eval e X.env) :: starEach es X.env := by rfl) (hpl : (backTo pos (starEach es X.env)).any (·.1) = false := by rfl) : CE X xw C (.Call (.Name x p) (e :: es) [] pos) (.blt f is) :=
  PE.imp (pe_callB hc hg hm hv ha hn hdb he hpl) blt_of
theorem ce_bltT {f : Bf} {id : String} {x : Str} {es : List Expr} {is : List E} (hc : CallR X (.type id) (rBlt X.K xw f)) (hm : X.mg x = none) (ha : CA X xw C (e :: es) is) (hg : Gl X x := by rfl) (hv : bootBuiltins x = some (.type id) := by rfl) (hn : x ≠ "__name__" := by decide) (hdb : (x == ("__debug__" : Str)) = false := by decide)
    (he : starEach (e :: es) X.env = (false, eval e X.env) :: starEach es X.env := by rfl) (hpl : (backTo pos (starEach es X.env)).any (·.1) = false := by rfl) : CE X xw C (.Call (.Name x p) (e :: es) [] pos) (.blt f is) :=
  PE.imp (pe_callTy hc hg hm hv ha hn hdb he hpl) blt_of
end
end Sd

set_option Elab.async false
set_option linter.all false
set_option maxRecDepth 100000
namespace Sd
open PySem PySem.Spec PyProof.Rows L2
open Ev (D Ob Store Lc R E Sm Calls Walk Fl Fn Bop Cop Ty Bf Mf ev evs evo evt evw tst run runs)
section
variable {X : Cx} {xw : Nat → Hp → Prop} {C : Calls} {e a b c : Expr} {i j k : E} {pos p p' p2 : Pos}
/-! ### all, any over a list or tuple -/
theorem truths_val : ∀ {ds : List D} {bs : List Bool}, Ev.truths ds = some bs → bs.length = ds.length ∧ ∀ j d, ds[j]? = some d → Ev.ptruth d = some (bs.getD j false)
  | [], bs, h => by cases h; exact ⟨rfl, fun j d e => by simp at e⟩
  | d :: ds, bs, h => by
    unfold Ev.truths at h
    cases q1 : Ev.ptruth d with
    | none => rw [q1] at h; cases h
    | some b =>
      cases q2 : Ev.truths ds with
      | none => rw [q1, q2] at h; cases h
      | some cs =>
        rw [q1, q2] at h
        cases h
        obtain ⟨l, ih⟩ := truths_val q2
        refine ⟨by rw [List.length_cons, List.length_cons, l], fun j d' e => ?_⟩
        cases j with
        | zero => simp at e; subst e; simpa using q1
        | succ j => simpa using ih j d' (by simpa using e)
theorem range_all (bs : List Bool) : (List.range bs.length).all (fun j => bs.getD j false) = bs.all id := by
  rw [Bool.eq_iff_iff, List.all_eq_true, List.all_eq_true]
  constructor
  · intro h b hb
    obtain ⟨j, hj, e⟩ := List.getElem_of_mem hb
    have := h j (List.mem_range.mpr hj)
    simpa [List.getElem?_eq_getElem hj, e] using this
  · intro h j hj
    have hj' := List.mem_range.mp hj
    simpa [List.getElem?_eq_getElem hj'] using h bs[j] (List.getElem_mem hj')
theorem range_any (bs : List Bool) : (List.range bs.length).any (fun j => bs.getD j false) = bs.any id := by
  rw [Bool.eq_iff_iff, List.any_eq_true, List.any_eq_true]
  constructor
  · rintro ⟨j, hj, h⟩
    have hj' := List.mem_range.mp hj
    exact ⟨bs[j], List.getElem_mem hj', by simpa [List.getElem?_eq_getElem hj'] using h⟩
  · rintro ⟨b, hb, h⟩
    obtain ⟨j, hj, e⟩ := List.getElem_of_mem hb
    exact ⟨j, List.mem_range.mpr hj, by simpa [List.getElem?_eq_getElem hj, e] using h⟩
theorem truthy_plain {prog : Program} {w : World} {A : Around} {ρ : List Addr} {H : Hp} {d : D} {v : V} {u : Value} {n : Bool} (r : Rep ρ H d v) (e : RelV v u) (h : Ev.ptruth d = some n) (s : Shared) (Q : Bool → Shared → Prop) (E : Value → Shared → Prop) (q : Q n s) :
    wpAny (model prog w) A (truthy u) Q E s := by
  cases d with
  | non => cases r.non'; cases e; cases h; exact truthy_none q
  | bl b => cases r.bl'; cases e; cases h; exact wpAny_truthy_bool q
  | int m =>
    cases r.int'
    obtain ⟨t, rfl⟩ := e
    have h' : decide (m ≠ 0) = n := Option.some.inj h
    refine PySem.P.truthy_int ?_
    have : (m != 0) = n := by
      rw [← h']
      by_cases z : m = 0
      · subst z; rfl
      · rw [decide_eq_true z]; exact bne_iff_ne.mpr z
    rw [this]
    exact q
  | _ => cases h
theorem call_allL (hc : X.calm = true) : CallR X (.builtin "all") (fun vs H Q => ∃ ρ S ds n bs, St3 X.K ρ S H ∧ Reps ρ H [.loc n] vs ∧ Ev.lstAt S n = some ds ∧ Ev.truths ds = some bs ∧ Q (.bl (bs.all id)) H) := by
  intro pins s σ H vs us Q I r h
  obtain ⟨ρ, S, ds, n, bs, st, rs, hl, hb, q⟩ := h
  obtain ⟨v, rfl, r1⟩ := reps1 rs
  obtain ⟨_, p, xs, q1, hx, rx⟩ := st.lst hl
  obtain ⟨p', rfl, t⟩ := r1.loc'
  rw [q1] at t; cases t
  obtain ⟨u, rfl, ru⟩ := vals1 r
  cases ru
  obtain ⟨its, rv, pl, hz⟩ := I.list (SqL.of hx)
  obtain ⟨lb, tb⟩ := truths_val hb
  have hlt : p < s.heap.objs.size := by obtain ⟨_, e, _⟩ := pl.isList; exact Heap.lt_size e
  have hlen : its.toArray.size = bs.length := by rw [List.size_toArray, ← rv.length, rx.length, lb]
  refine call_all_walk (wpAny_pyIter_list pl.isList ⟨s.heap.objs.size, [s.heap.objs.size, p], [s.heap.objs.size], its.toArray.size, (fun i v => its.toArray[i]? = some v), (fun i h => h.IsListIter s.heap.objs.size p i ∧ h.IsList p its.toArray), fun j => bs.getD j false, rfl, Walks.list (A := X.A.in1) (show X.A.in1.handled = none from I.ok.hd hc) s.heap.objs.size p (Nat.ne_of_lt hlt) its.toArray, ⟨⟨_, Heap.get?_push_size _ rfl, rfl, rfl⟩, pl.isList.push _⟩, ?_, ?_⟩)
  · intro j v s' Q' E' hv hQ'
    have hj : its[j]? = some v := by simpa using hv
    have jl : j < ds.length := by
      have := (List.getElem?_eq_some_iff.mp hj).1
      rw [← rv.length, rx.length] at this
      exact this
    obtain ⟨w', g, r'⟩ := rx.get (List.getElem?_eq_getElem jl)
    obtain ⟨u', g', ru'⟩ := rv.get g
    rw [hj] at g'
    cases g'
    exact truthy_plain r' ru' (tb j _ (List.getElem?_eq_getElem jl)) s' Q' E' hQ'
  · intro h' tk hk
    rw [hlen, range_all]
    have kp : ∀ b o, s.heap.get? b = some o → h'.get? b = some o := fun b o e => hk b o (fun hm => by
      have : b = s.heap.objs.size := by simpa using hm
      exact absurd (this ▸ Heap.lt_size e) (Nat.lt_irrefl _)) (Heap.get?_push_of_some _ e)
    exact ⟨.bl (bs.all id), H, I.kept (t' := tk) kp, rfl, q⟩
theorem blt_all (hc : X.calm = true) : CallR X (.builtin "all") (rBlt X.K xw .all) := CallR.imp (call_allL hc) fun vs H Q ⟨ρ, S, ds, st, r, h⟩ => by
  match ds, r, h with
  | [.loc n], r, h =>
    obtain ⟨xs, hx, h1⟩ := End.ob (show End X.K xw Rep ρ H Q ((Ev.ob (Ev.lstAt S n) S).bind fun xs S => (Ev.ob (Ev.truths xs) S).bind fun bs S => .ok (.bl (bs.all id)) S) from h)
    obtain ⟨bs, hb, h2⟩ := End.ob h1
    exact ⟨ρ, S, xs, n, bs, st, r, hx, hb, End.ok h2 st (rep_bl _)⟩
/-! ### isinstance with a built-in type -/
def tyName : Ty → String
  | .int => "int" | .bool => "bool" | .str => "str" | .tuple => "tuple" | .list => "list" | .dict => "dict" | .cls _ => ""
theorem kit_ok {K : PySem.W.Frag} {ρ : List Addr} {S : Store} {H : Hp} {x : D} {v : V} {t : Ty} {n : Bool} (st : St3 K ρ S H) (rx : Rep ρ H x v) (ht : ∀ m, t ≠ .cls m) (h : Ev.isTy S x t = some n) :
    ∃ tv, TyOf K H v tv ∧ PySem.W.kitOne K tv (.type (tyName t)) = some n := by
  cases x with
  | non => rw [rx.non']; refine ⟨_, .non, ?_⟩; cases h; cases t <;> first | rfl | exact absurd rfl (ht _)
  | bl b => rw [rx.bl']; refine ⟨_, .bl b, ?_⟩; cases h; cases t <;> first | rfl | exact absurd rfl (ht _)
  | int b => rw [rx.int']; refine ⟨_, .int b, ?_⟩; cases h; cases t <;> first | rfl | exact absurd rfl (ht _)
  | str b => rw [rx.str']; refine ⟨_, .str b, ?_⟩; cases h; cases t <;> first | rfl | exact absurd rfl (ht _)
  | tup ds =>
    obtain ⟨p, xs, rfl, hp, _⟩ := rx.tup'
    refine ⟨_, .tup hp, ?_⟩; cases h; cases t <;> first | rfl | exact absurd rfl (ht _)
  | loc m =>
    obtain ⟨p, rfl, hp⟩ := rx.loc'
    have h' : (match S[m]? with
      | some (.lst _) => some (decide (t = .list))
      | some (.dt _) => some (decide (t = .dict))
      | some (.dk _) => some (decide (t = .dict))
      | _ => none) = some n := h
    cases q : S[m]? with
    | none => rw [q] at h'; cases h'
    | some o =>
      rw [q] at h'
      obtain ⟨p', hp', ro⟩ := st.at q
      rw [hp] at hp'; cases hp'
      cases o with
      | lst xs => obtain ⟨ys, e, _⟩ := ro; refine ⟨_, .lst e, ?_⟩; cases h'; cases t <;> first | rfl | exact absurd rfl (ht _)
      | dt kvs => obtain ⟨ys, e, _⟩ := ro; refine ⟨_, .dT e, ?_⟩; cases h'; cases t <;> first | rfl | exact absurd rfl (ht _)
      | dk kvs => obtain ⟨ys, e, _⟩ := ro; refine ⟨_, .dK e, ?_⟩; cases h'; cases t <;> first | rfl | exact absurd rfl (ht _)
      | _ => cases h'
  | _ => cases h
theorem call_isi (T : String) : CallR X (.builtin "isinstance") (fun vs H Q => ∃ v tv n, vs = [v, .ty T] ∧ TyOf X.K H v tv ∧ PySem.W.kitOne X.K tv (.type T) = some n ∧ Q (.bl n) H) := by
  intro pins s σ H vs us Q I r h
  obtain ⟨v, tv, n, rfl, ty, e, q⟩ := h
  obtain ⟨u, w', rfl, r1, r2⟩ := vals2 r
  cases r2
  exact isinst_ok I r1 ty e fun tk => ⟨.bl n, H, I.tok tk, rfl, q⟩
theorem ce_isi {T : Str} {t : Ty} (ht : ∀ m, t ≠ .cls m) (hm : X.mg "isinstance" = none) (hmT : X.mg T = none) (ha : CE X xw C a i) (hg : Gl X "isinstance" := by rfl) (hgT : Gl X T := by rfl) (hvT : bootBuiltins T = some (.type (tyName t)) := by rfl) (hnT : T ≠ "__name__" := by decide) (hdT : (T == ("__debug__" : Str)) = false := by decide)
    (hs1 : starEach [a, .Name T p2] X.env = (false, eval a X.env) :: starEach [.Name T p2] X.env := by rfl) (hs2 : starEach [.Name T p2] X.env = (false, eval (.Name T p2) X.env) :: starEach [] X.env := by rfl) (hpl : (backTo pos (starEach [.Name T p2] X.env)).any (·.1) = false := by rfl) :
    CE X xw C (.Call (.Name "isinstance" p) [a, .Name T p2] [] pos) (.isi i [t]) :=
  PE.imp (pe_callB (call_isi (tyName t)) hg hm (by rfl) (pa_cons ha (pa_cons (pe_bltn (v := .ty (tyName t)) hgT hmT hvT rfl hnT hdT) pa_nil hs2) hs1) (by decide) (by decide) hs1 hpl) fun σ H Q ⟨ρ, l, S, st, lr, h⟩ => by
    refine ⟨ρ, l, S, st, lr, End.bind (show End X.K xw Rep ρ H Q ((ev C i l S).bind _) from h) fun x S1 ρ1 H1 v f1 st1 r1 h1 => ?_⟩
    obtain ⟨n, hn, h2⟩ := End.ob h1
    have hn' : Ev.isTy S1 x t = some n := by
      unfold Ev.isAny at hn
      cases q : Ev.isTy S1 x t with
      | none => rw [q] at hn; cases hn
      | some m => rw [q] at hn; cases m <;> exact hn
    obtain ⟨tv, ty, e⟩ := kit_ok st1 r1 ht hn'
    exact ⟨v, tv, n, rfl, ty, e, End.ok h2 st1 (rep_bl _)⟩
/-! ### a table of the module, by ints -/
def TabK (P : Program) (w : World) (K : PySem.W.Frag) (a : Addr) (tab : List (Int × Int)) : Prop := (a == sysModules) = false ∧ ∃ f : Int → Option Value, (∀ h : Heap, K.In h → h.MapOf (intKind P w) a f) ∧ ∀ k, (tab.lookup k = none → f k = none) ∧ ∀ j, tab.lookup k = some j → ∃ t, f k = some (.int j t)
theorem lookup_contains (i : Int) : ∀ tab : List (Int × Int), (tab.map (·.1)).contains i = (tab.lookup i).isSome
  | [] => rfl
  | (k, v) :: r => by
    rw [List.map_cons, List.contains_cons, lookup_contains i r, List.lookup_cons]
    cases h : (i == k) <;> simp
theorem op_inTab {tb : Addr} {tab : List (Int × Int)} (T : TabK X.prog X.w X.K tb tab) : OpR X (compareOp .In) (fun v u H Q => ∃ n, v = .int n ∧ u = .ref tb ∧ Q (.bl ((tab.map (·.1)).contains n)) H) := by
  intro pins s σ H v u vv uu Q I e1 e2 h
  obtain ⟨n, rfl, rfl, q⟩ := h
  obtain ⟨t, rfl⟩ := e1
  cases e2
  obtain ⟨h1, f, hf, hk⟩ := T
  refine wpAny_in_of (knd := intKind X.prog X.w) (k := n) (intKind_is _ _ _ _) h1 (hf s.heap I.kIn) ?_
  refine ⟨.bl _, H, I.tok _, ?_, q⟩
  show Value.bool (f n).isSome = Value.bool _
  rw [lookup_contains]
  cases e : tab.lookup n with
  | none => rw [(hk n).1 e]; rfl
  | some j => obtain ⟨t', z⟩ := (hk n).2 j e; rw [z]; rfl
theorem ce_inT {tb : Addr} {tab : List (Int × Int)} {x : Str} (T : TabK X.prog X.w X.K tb tab) (hm : X.mg x = some (.ref tb)) (ha : CE X xw C a i) (hg : Gl X x := by rfl) (hd : (x == ("__debug__" : Str)) = false := by decide) (hmk : behindInMarks .In (.Name x p) = false := by first | rfl | (with_unfolding_all rfl)) :
    CE X xw C (.Compare a [.In] [.Name x p] pos) (.inT i tab) := PE.imp (pe_cmpR (op_inTab T) ha (pe_glob (v := .ref tb) hg hm rfl hd) hmk) fun σ H Q ⟨ρ, l, S, st, lr, h⟩ => by
  refine ⟨ρ, l, S, st, lr, End.bind (show End X.K xw Rep ρ H Q ((ev C i l S).bind _) from h) fun x S1 ρ1 H1 v f1 st1 r1 h1 => ?_⟩
  cases x with
  | int n => exact ⟨n, r1.int', rfl, End.ok h1 st1 (rep_bl _)⟩
  | _ => exact False.elim h1
theorem ce_getT {tb : Addr} {tab : List (Int × Int)} {x : Str} (T : TabK X.prog X.w X.K tb tab) (hm : X.mg x = some (.ref tb)) (ha : CE X xw C a i) (hg : Gl X x := by rfl) (hd : (x == ("__debug__" : Str)) = false := by decide) (hs : NoSl a := by intros; with_unfolding_all rfl) :
    CE X xw C (.Subscript (.Name x p) a pos) (.getT tab i) := by
  intro pins s σ H Q I hq
  obtain ⟨ρ, l, S, st, lr, h⟩ := hq
  refine subD_of PySem.F.slot_dict_getitem.lookup hs (thn (pe_glob (v := .ref tb) hg hm rfl hd pins s σ H (fun v H1 => v = .ref tb ∧ H1 = H) I ⟨rfl, rfl⟩) fun u s1 ⟨x, H1, I1, rx, ex, eh⟩ => thn (ha pins s1 σ H1 (fun v H2 => ∃ n j, v = .int n ∧ tab.lookup n = some j ∧ Q (.int j) H2) I1 ?_) fun iv s2 ⟨y, H2, I2, ry, n, j, ey, hj, q2⟩ => ?_)
  · subst eh
    refine ⟨ρ, l, S, st, lr, End.bind (show End X.K xw Rep ρ H1 Q ((ev C i l S).bind _) from h) fun x S1 ρ1 H2 v f1 st1 r1 h1 => ?_⟩
    cases x with
    | int n =>
      obtain ⟨j, hj, h2⟩ := End.ob h1
      exact ⟨n, j, r1.int', hj, End.ok h2 st1 (rep_int _)⟩
    | _ => exact False.elim h1
  · subst ex ey
    cases rx
    obtain ⟨t, rfl⟩ := ry
    obtain ⟨h1, f, hf, hk⟩ := T
    obtain ⟨t', z⟩ := (hk n).2 j hj
    exact ⟨(hf s2.heap I2.kIn).typeIs, wpAny_getItem_of (knd := intKind X.prog X.w) (k := n) (intKind_is _ _ _ _) (hf s2.heap I2.kIn) z ⟨.int j, H2, I2.tok _, ⟨t', rfl⟩, q2⟩⟩
/-! ### append, {}, a def's call -/
theorem ce_append {o : Expr} {io : E} {apos cpos : Pos} (ho : CE X xw C o io) (ha : CA X xw C [e] [i])
    (hbase : attributeBase o "append" X.env (eval o X.env) = eval o X.env := by rfl)
    (hfew : ((backTo cpos (starEach [e] X.env)).all (fun x => !x.1) && (backToKw cpos (keywordEach [] X.env)).all (fun x => x.1.isSome)
      && decide (([e] : List Expr).length + ([] : List Keyword).length + (if ([] : List Keyword).isEmpty then 0 else 1) < 30)) = true := by rfl)
    (hline : (apos.endLine == cpos.line) = true := by rfl) (hs : starEach [e] X.env = (false, eval e X.env) :: starEach [] X.env := by rfl) (hplain : (backTo cpos (starEach [] X.env)).any (·.1) = false := by rfl) :
    CE X xw C (.Call (.Attribute o "append" apos) [e] [] cpos) (.mt .append io [i]) :=
  PE.imp (pe_bm PySem.F.plainAttrs_list PySem.F.slot_list_append PySem.F.type_list_append mt_append ho ha hbase hfew hline hs hplain) fun σ H Q ⟨ρ, l, S, st, lr, h⟩ => by
    have h' : End X.K xw Rep ρ H Q ((ev C io l S).bind fun x S => if Ev.isLst S x = true then (evs C [i] l S).bind fun xs S => Ev.method .append x xs S else .no) := h
    refine ⟨ρ, l, S, st, lr, h'.bind fun x S1 ρ1 H1 v f1 st1 r1 h1 => ?_⟩
    obtain ⟨hl, h1⟩ := h1.guard
    cases x with
    | loc n =>
      obtain ⟨p, rfl, hp⟩ := r1.loc'
      obtain ⟨ds, hds⟩ := Option.isSome_iff_exists.mp (show (Ev.lstAt S1 n).isSome = true from hl)
      obtain ⟨_, p', xs, q1, hx, _⟩ := st1.lst hds
      rw [hp] at q1; cases q1
      refine ⟨.inl ⟨rfl, xs, SqL.of hx⟩, ρ1, l, S1, st1, lr.mono f1, h1.bind fun ys S2 ρ2 H2 vs f2 st2 r2 h2 => ?_⟩
      match ys, r2, h2 with
      | [y], r2, h2 =>
        obtain ⟨w, rfl, rw'⟩ := reps1 r2
        obtain ⟨zs, hz, h3⟩ := End.ob (show End X.K xw Rep ρ2 H2 Q ((Ev.ob (Ev.lstAt S2 n) S2).bind fun xs S => if xs.length < Ev.lim then .ok .non (S.set n (.lst (xs ++ [y]))) else .no) from h2)
        obtain ⟨hlen, h4⟩ := h3.guard
        obtain ⟨sn, p2, zs', q2, hz2, rz⟩ := st2.lst hz
        rw [f2.at hp] at q2; cases q2
        refine ⟨p, zs', w, rfl, rfl, hz2, by rw [rz.length, ← lim_eq]; exact hlen, ?_⟩
        exact h4 ρ2 _ .non (fut_lst hz2) (st2.wr (f2.at hp) sn hz2 (rz.append (Reps.cons rw' Reps.nil))) rep_non
      | [], r2, h2 => exact False.elim h2
      | _ :: _ :: _, r2, h2 => exact False.elim h2
    | _ => exact absurd hl (by simp [Ev.isLst])
theorem ce_dnew : CE X xw C (.Dict [] [] pos) .dnew := PE.imp pe_dnewT fun σ H Q ⟨ρ, l, S, st, lr, h⟩ => fun p hp =>
  (show End X.K xw Rep ρ H Q (.ok (.loc S.length) (S ++ [.dt []])) from h) (ρ ++ [p]) _ _ (fut_new hp) (st.new hp ⟨[], upd_same, .nil⟩) (rep_loc (by rw [← st.len]; simp))
/-- what a def of the text promises: its run in the small language -/
def spF (K : PySem.W.Frag) (C : Calls) (n : Nat) : Sp := fun vs H Q _ => ∃ ρ ds S, St3 K ρ S H ∧ Reps ρ H ds vs ∧ End K (fun _ _ => False) Rep ρ H Q (C n ds S)
theorem ce_call {n kk : Nat} {f : Addr} {fd : FuncData} {ps : List Str} {x : Str} {es : List Expr} {is : List E} (F : FnOk X.prog X.w X.K X.mg X.base CX0 kk f fd ps (spF X.K C n)) (hr : Room kk X.A) (hm : X.mg x = some (.ref f)) (hk : PySem.W.keepIn X.K (.ref f) = true) (hb : Binds X.K fd ps [])
    (ha : CA X (fun _ _ => False) C (e :: es) is) (hg : Gl X x := by rfl) (hdb : (x == ("__debug__" : Str)) = false := by decide) (he : starEach (e :: es) X.env = (false, eval e X.env) :: starEach es X.env := by rfl) (hpl : (backTo pos (starEach es X.env)).any (·.1) = false := by rfl) :
    CE X (fun _ _ => False) C (.Call (.Name x p) (e :: es) [] pos) (.call n is) :=
  PE.imp (pe_call F hr hg hm hk hb .nil pass0 ha hdb he hpl) fun σ H Q ⟨ρ, l, S, st, lr, h⟩ =>
    ⟨ρ, l, S, st, lr, End.bind (show End X.K (fun _ _ => False) Rep ρ H Q ((evs C is l S).bind _) from h) fun xs S1 ρ1 H1 vs f1 st1 r1 h1 => by
      rw [List.append_nil]
      exact ⟨ρ1, xs, S1, st1, r1, h1⟩⟩
end
end Sd

set_option Elab.async false
set_option linter.all false
set_option maxRecDepth 100000
namespace Sd
open PySem PySem.Spec PyProof.Rows L2
open Ev (D Ob Store Lc R E Sm Calls Walk Fl Fn Bop Cop Ty Bf Mf ev evs evo evt evw tst run runs)
/-! ### statements -/
def EndS (K : PySem.W.Frag) (xw : Nat → Hp → Prop) (ρ : List Addr) (H : Hp) (D : Ends) : R Fl → Prop
  | .ok (.nx l) S => ∀ ρ' H' σ', Fut ρ H ρ' H' → St3 K ρ' S H' → LocR ρ' H' l σ' → D.nx σ' H'
  | .ok (.brk l) S => ∀ ρ' H' σ', Fut ρ H ρ' H' → St3 K ρ' S H' → LocR ρ' H' l σ' → D.bk σ' H'
  | .ok (.cnt l) S => ∀ ρ' H' σ', Fut ρ H ρ' H' → St3 K ρ' S H' → LocR ρ' H' l σ' → D.ct σ' H'
  | .ok (.ret d) S => ∀ ρ' H' v, Fut ρ H ρ' H' → St3 K ρ' S H' → Rep ρ' H' d v → D.rt v H'
  | .ex c S => ∀ ρ' H', Fut ρ H ρ' H' → St3 K ρ' S H' → xw c H'
  | .no => False
section
variable {K : PySem.W.Frag} {xw : Nat → Hp → Prop} {ρ ρ' : List Addr} {H H' : Hp} {α β : Type} {rep : List Addr → Hp → α → β → Prop} {D : Ends}
theorem EndS.mono {r : R Fl} (f : Fut ρ H ρ' H') (h : EndS K xw ρ H D r) : EndS K xw ρ' H' D r := by
  cases r with
  | ok fl S =>
    cases fl with
    | nx l => exact fun ρ2 H2 σ g => h ρ2 H2 σ (f.trans g)
    | brk l => exact fun ρ2 H2 σ g => h ρ2 H2 σ (f.trans g)
    | cnt l => exact fun ρ2 H2 σ g => h ρ2 H2 σ (f.trans g)
    | ret d => exact fun ρ2 H2 v g => h ρ2 H2 v (f.trans g)
  | ex c S => exact fun ρ2 H2 g => h ρ2 H2 (f.trans g)
  | no => exact h
theorem EndS.bind {r : R α} {f : α → Store → R Fl} {Q1 : β → Hp → Prop} (h : EndS K xw ρ H D (r.bind f))
    (k : ∀ d S ρ1 H1 v, Fut ρ H ρ1 H1 → St3 K ρ1 S H1 → rep ρ1 H1 d v → EndS K xw ρ1 H1 D (f d S) → Q1 v H1) : End K xw rep ρ H Q1 r := by
  cases r with
  | ok d S => exact fun ρ1 H1 v g st r => k d S ρ1 H1 v g st r (EndS.mono g h)
  | ex c S => exact h
  | no => exact h
theorem EndS.ob {o : Option α} {S : Store} {f : α → Store → R Fl} (h : EndS K xw ρ H D ((Ev.ob o S).bind f)) : ∃ a, o = some a ∧ EndS K xw ρ H D (f a S) := by
  cases o with
  | none => exact h.elim
  | some a => exact ⟨a, rfl, h⟩
theorem EndS.nx {l : Lc} {S : Store} {σ : L2.St} (h : EndS K xw ρ H D (.ok (.nx l) S)) (st : St3 K ρ S H) (lr : LocR ρ H l σ) : D.nx σ H := h ρ H σ (Fut.refl ρ H) st lr
end
section
variable (X : Cx) (xw : Nat → Hp → Prop)
def tS3 (f : Lc → Store → R Fl) : TS := fun D σ H => ∃ ρ l S, St3 X.K ρ S H ∧ LocR ρ H l σ ∧ EndS X.K xw ρ H D (f l S)
variable (C : Calls)
def CS (st : Stmt) (s : Sm) : Prop := PS X st (tS3 X xw (run C s))
def CSs (st : List Stmt) (s : List Sm) : Prop := PSs X st (tS3 X xw (runs C s))
/-- a target takes a thing -/
def tG3 (t : List Nat) : TG := fun v σ H Q => ∃ ρ l S d l', St3 X.K ρ S H ∧ LocR ρ H l σ ∧ Rep ρ H d v ∧ Ev.assign t d S l = some l' ∧ ∀ σ', LocR ρ H l' σ' → Q σ' H
def CG (tg : Expr) (t : List Nat) : Prop := PG X tg (tG3 X t)
def tGs3 (t : List Nat) : TGs := fun vs σ H Q => ∃ ρ l ds l', LocR ρ H l σ ∧ Reps ρ H ds vs ∧ Ev.fill t ds l = some l' ∧ ∀ σ', LocR ρ H l' σ' → Q σ' H
def CGs (tgs : List Expr) (t : List Nat) : Prop := PGs X tgs (tGs3 t)
end
theorem PS.imp {X : Cx} {e : Stmt} {t t' : TS} (h : PS X e t) (k : ∀ D σ H, t' D σ H → t D σ H) : PS X e t' := fun pins s σ H D I q => h pins s σ H D I (k D σ H q)
theorem PSs.imp {X : Cx} {e : List Stmt} {t t' : TS} (h : PSs X e t) (k : ∀ D σ H, t' D σ H → t D σ H) : PSs X e t' := fun pins s σ H D I q => h pins s σ H D I (k D σ H q)
theorem PG.imp {X : Cx} {e : Expr} {t t' : TG} (h : PG X e t) (k : ∀ v σ H Q, t' v σ H Q → t v σ H Q) : PG X e t' := fun pins s σ H v u Q I r q => h pins s σ H v u Q I r (k v σ H Q q)
theorem PGs.imp {X : Cx} {e : List Expr} {t t' : TGs} (h : PGs X e t) (k : ∀ v σ H Q, t' v σ H Q → t v σ H Q) : PGs X e t' := fun pins s σ H v u Q I r q => h pins s σ H v u Q I r (k v σ H Q q)
section
variable {X : Cx} {xw : Nat → Hp → Prop} {C : Calls} {e a b c : Expr} {i j k : E} {pos p p' p2 : Pos} {s0 : Stmt} {ss : List Stmt} {m0 : Sm} {ms ms' : List Sm}
theorem cs_nil : CSs X xw C [] [] := PSs.imp pss_nil fun D σ H ⟨ρ, l, S, st, lr, h⟩ => EndS.nx h st lr
theorem cs_cons (h1 : CS X xw C s0 m0) (h2 : CSs X xw C ss ms) : CSs X xw C (s0 :: ss) (m0 :: ms) := PSs.imp (pss_cons h1 h2) fun D σ H ⟨ρ, l, S, st, lr, h⟩ => by
  refine ⟨ρ, l, S, st, lr, ?_⟩
  have h' : EndS X.K xw ρ H D ((run C m0 l S).bind fun f S => match f with | .nx σ => runs C ms σ S | f => .ok f S) := h
  cases q : run C m0 l S with
  | no => rw [q] at h'; exact h'
  | ex c S1 => rw [q] at h'; exact h'
  | ok fl S1 =>
    rw [q] at h'
    cases fl with
    | nx l1 => exact fun ρ1 H1 σ1 f1 st1 lr1 => ⟨ρ1, l1, S1, st1, lr1, EndS.mono f1 h'⟩
    | brk l1 => exact h'
    | cnt l1 => exact h'
    | ret d => exact h'
theorem cs_ret (he : CE X xw C e i) : CS X xw C (.Return (some e) pos) (.ret i) := PS.imp (ps_ret he) fun D σ H ⟨ρ, l, S, st, lr, h⟩ =>
  ⟨ρ, l, S, st, lr, EndS.bind (show EndS X.K xw ρ H D ((ev C i l S).bind fun x S => .ok (.ret x) S) from h) fun x S1 ρ1 H1 v f1 st1 r1 h1 => h1 ρ1 H1 v (Fut.refl _ _) st1 r1⟩
theorem cs_expr (he : CE X xw C e i) (hs : swapsWith e none pos.line X.env = pure false := by rfl) : CS X xw C (.Expr e pos) (.ex i) := PS.imp (ps_expr he hs) fun D σ H ⟨ρ, l, S, st, lr, h⟩ =>
  ⟨ρ, l, S, st, lr, EndS.bind (show EndS X.K xw ρ H D ((ev C i l S).bind fun _ S => .ok (.nx l) S) from h) fun x S1 ρ1 H1 v f1 st1 r1 h1 => EndS.nx h1 st1 (lr.mono f1)⟩
theorem cs_if {sa sb : List Stmt} (hc : CT X xw C c k) (ha : CSs X xw C sa ms) (hb : CSs X xw C sb ms') : CS X xw C (.If c sa sb pos) (.ite k ms ms') := PS.imp (ps_if hc ha hb) fun D σ H ⟨ρ, l, S, st, lr, h⟩ =>
  ⟨ρ, l, S, st, lr, EndS.bind (show EndS X.K xw ρ H D ((tst C k l S).bind fun c S => if c then runs C ms l S else runs C ms' l S) from h) fun x S1 ρ1 H1 v f1 st1 r1 h1 => by
    have e1 : x = v := r1
    subst e1
    cases x with
    | true => exact ⟨ρ1, l, S1, st1, lr.mono f1, h1⟩
    | false => exact ⟨ρ1, l, S1, st1, lr.mono f1, h1⟩⟩
theorem cs_pass : CS X xw C (.Pass pos) .pas := PS.imp ps_pass fun D σ H ⟨ρ, l, S, st, lr, h⟩ => EndS.nx h st lr
/-! targets -/
theorem cg_name {n : Nat} {x : Str} (hN : X.N.Nodup) (hi : X.N[n]? = some x := by rfl) (hx : L2.Loc X.env.scope x := by first | exact Or.inl rfl | exact Or.inr rfl) (hf : X.fn x = true ∨ X.env.scope.names.lookup x = some .local := by first | exact .inl rfl | exact .inr rfl) : CG X (.Name x pos) [n] :=
  PG.imp (pg_name hN hi hx hf) fun v σ H Q ⟨ρ, l, S, d, l', st, lr, r, ha, q⟩ => by
    have e : l.set n (some d) = l' := Option.some.inj ha
    exact q _ (by rw [← e]; exact lr.set n r)
theorem cgs_nil : CGs X [] [] := PGs.imp pgs_nil fun vs σ H Q ⟨ρ, l, ds, l', lr, r, hf, q⟩ => by
  cases ds with
  | nil =>
    unfold Reps at r
    cases hf
    exact ⟨r, q σ lr⟩
  | cons _ _ => cases hf
theorem cgs_cons {tgs : List Expr} {n : Nat} {t : List Nat} {x : Str} (hN : X.N.Nodup) (h2 : CGs X tgs t) (hi : X.N[n]? = some x := by rfl) (hx : L2.Loc X.env.scope x := by first | exact Or.inl rfl | exact Or.inr rfl) (hf : X.fn x = true ∨ X.env.scope.names.lookup x = some .local := by first | exact .inl rfl | exact .inr rfl)
    (hs : (assignEach (.Name x pos :: tgs) X.env).map (·.2) = PySem.assign (.Name x pos) X.env :: (assignEach tgs X.env).map (·.2) := by rfl) : CGs X (.Name x pos :: tgs) (n :: t) :=
  PGs.imp (pgs_cons (pg_name hN hi hx hf) h2 hs) fun vs σ H Q ⟨ρ, l, ds, l', lr, r, hf, q⟩ => by
    cases ds with
    | nil => cases hf
    | cons d ds =>
      unfold Reps at r
      obtain ⟨v, ws, rfl, r1, r2⟩ := r
      exact ⟨v, ws, rfl, ρ, l.set n (some d), ds, l', lr.set n r1, r2, hf, q⟩
theorem fill_len : ∀ {t : List Nat} {ds : List D} {l l' : Lc}, Ev.fill t ds l = some l' → ds.length = t.length
  | [], [], _, _, _ => rfl
  | [], _ :: _, _, _, h => by cases h
  | _ :: _, [], _, _, h => by cases h
  | n :: t, d :: ds, l, l', h => by rw [List.length_cons, List.length_cons, fill_len (t := t) (ds := ds) h]
theorem cg_tup {tgs : List Expr} {q2 : Nat} {n m : Nat} {r : List Nat} (hc : X.calm = true) (h : CGs X tgs (n :: m :: r)) (hn : (assignEach tgs X.env).length = (n :: m :: r).length := by rfl) (hst : (assignEach tgs X.env).findIdx? (·.1) = none := by rfl) : CG X (.Tuple tgs q2 pos) (n :: m :: r) :=
  PG.imp (pg_tup hc h hn hst) fun v σ H Q ⟨ρ, l, S, d, l', st, lr, rd, ha, q⟩ => by
    cases d with
    | tup ds =>
      have hf : Ev.fill (n :: m :: r) ds l = some l' := ha
      obtain ⟨p, xs, rfl, hp, rs⟩ := rd.tup'
      exact ⟨p, xs, rfl, SqT.of hp, by rw [rs.length]; exact fill_len hf, ρ, l, ds, l', lr, rs, hf, q⟩
    | _ => cases ha
/-- target = value -/
theorem cs_asg {tg : Expr} {t : List Nat} (he : CE X xw C e i) (hg : CG X tg t) (hs : swapsWithSole [tg] e pos.line X.env = pure false := by rfl) (hw : swappedStores [tg] e X.env = pure none := by rfl)
    (h1 : (assignEach [tg] X.env).map (·.2) = [PySem.assign tg X.env] := by rfl) : CS X xw C (.Assign [tg] e pos) (.asg t i) := PS.imp (ps_asg he hg hs hw h1) fun D σ H ⟨ρ, l, S, st, lr, h⟩ =>
  ⟨ρ, l, S, st, lr, EndS.bind (show EndS X.K xw ρ H D ((ev C i l S).bind fun x S => (Ev.ob (Ev.assign t x S l) S).bind fun σ S => .ok (.nx σ) S) from h) fun x S1 ρ1 H1 v f1 st1 r1 h1 => by
    obtain ⟨l', hl', h2⟩ := EndS.ob h1
    exact ⟨ρ1, l, S1, x, l', st1, lr.mono f1, r1, hl', fun σ' lr' => EndS.nx h2 st1 lr'⟩⟩
/-- o[i] = value, o a list -/
theorem cs_put {o ix : Expr} {io ii : E} (ho : CE X xw C o io) (hi : CE X xw C ix ii) (he : CE X xw C e i)
    (ha : ∀ v, PySem.assign (.Subscript o ix p) X.env v = (do
      let ov ← holding [v] (eval o X.env)
      let iv ← holding [v, ov] (eval ix X.env)
      standAt p
      holding [v, ov, iv] (setItem ov iv v)
      release [v, ov, iv] []) := by intro _; rfl) (hs : swapsWithSole [.Subscript o ix p] e pos.line X.env = pure false := by rfl) (hw : swappedStores [.Subscript o ix p] e X.env = pure none := by rfl)
    (h1 : (assignEach [.Subscript o ix p] X.env).map (·.2) = [PySem.assign (.Subscript o ix p) X.env] := by rfl) : CS X xw C (.Assign [.Subscript o ix p] e pos) (.put io ii i) :=
  PS.imp (ps_asg he (pg_sub ho hi (set_list (X := X)) ha) hs hw h1) fun D σ H ⟨ρ, l, S, st, lr, h⟩ =>
  ⟨ρ, l, S, st, lr, EndS.bind (show EndS X.K xw ρ H D ((ev C i l S).bind fun v S => (ev C io l S).bind fun x S => (ev C ii l S).bind fun y S => (Ev.setix x y v S).bind fun _ S => .ok (.nx l) S) from h) fun x S1 ρ1 H1 v f1 st1 r1 h1 =>
    ⟨ρ1, l, S1, st1, lr.mono f1, h1.bind fun y S2 ρ2 H2 u f2 st2 r2 h2 => ⟨ρ2, l, S2, st2, (lr.mono f1).mono f2, h2.bind fun z S3 ρ3 H3 w f3 st3 r3 h3 => by
      cases y with
      | loc n => cases z with
        | int m =>
          obtain ⟨pa, rfl, hp⟩ := (r2.mono f3).loc'
          have h4 : EndS X.K xw ρ3 H3 D ((match S3[n]? with
            | some (.lst xs) => (Ev.ob (Ev.ixN xs.length m) S3).bind fun j S => .ok () (S.set n (.lst (xs.set j x)))
            | _ => .no).bind fun _ S => .ok (.nx l) S) := h3
          cases q : S3[n]? with
          | none => rw [q] at h4; exact False.elim h4
          | some ob =>
            rw [q] at h4
            cases ob with
            | lst xs =>
              have h5 : EndS X.K xw ρ3 H3 D (((Ev.ob (Ev.ixN xs.length m) S3).bind fun j S => R.ok () (S.set n (.lst (xs.set j x)))).bind fun _ S => .ok (.nx l) S) := h4
              cases hj : Ev.ixN xs.length m with
              | none => rw [hj] at h5; exact False.elim h5
              | some jj =>
                rw [hj] at h5
                obtain ⟨pb, hp', ys, hy, ry⟩ := st3.at q
                rw [hp] at hp'; cases hp'
                refine ⟨pa, ys, m, jj, rfl, r3.int', hy, by rw [ry.length]; exact hj, ?_⟩
                have rx := (r1.mono f2).mono f3
                exact h5 ρ3 _ σ (fut_lst hy) (st3.wr hp q hy (Reps.set rx jj ry)) ((((lr.mono f1).mono f2).mono f3).mono (fut_lst hy))
            | _ => exact False.elim h4
        | _ => exact False.elim h3
      | _ => exact False.elim h3⟩⟩⟩
end
end Sd

set_option Elab.async false
set_option linter.all false
set_option maxRecDepth 100000
namespace Sd
open PySem PySem.Spec PyProof.Rows L2
open Ev (D Ob Store Lc R E Sm Calls Walk Fl Fn Bop Cop Ty Bf Mf ev evs evo evt evw tst run runs)
/-! ### what is walked -/
structure WRel (K : PySem.W.Frag) (ρ : List Addr) (H : Hp) (w : Walk) (J : It) : Prop where
  go : ∀ (i : Nat) ρ' S' H', Fut ρ H ρ' H' → St3 K ρ' S' H' → w.still S' = true → i < w.items.length → J.go i H' ∧ ∀ x H'', J.yld i H' x H'' → Fut ρ' H' ρ' H'' ∧ St3 K ρ' S' H'' ∧ ∀ d, w.items[i]? = some d → Rep ρ' H'' d x
  stop : ∀ ρ' S' H', Fut ρ H ρ' H' → St3 K ρ' S' H' → w.still S' = true → J.stop w.items.length H'
section
variable (X : Cx) (xw : Nat → Hp → Prop)
def tW3 (f : Lc → Store → R Walk) : TI := fun σ H Q => ∃ ρ l S, St3 X.K ρ S H ∧ LocR ρ H l σ ∧ End X.K xw (WRel X.K) ρ H Q (f l S)
def CW (C : Calls) (tg it : Expr) (w : Ev.W) : Prop := PI X tg it (tW3 X xw (evw C w))
end
theorem PI.imp {X : Cx} {tg it : Expr} {t t' : TI} (h : PI X tg it t) (k : ∀ σ H Q, t' σ H Q → t σ H Q) : PI X tg it t' := fun pins s σ H R I q => h pins s σ H R I (k σ H R q)
section
variable {X : Cx} {xw : Nat → Hp → Prop} {C : Calls} {e a b c tg it : Expr} {i j k : E} {pos p p' p2 : Pos}
/-- a rule that walks lists and one that walks tuples, by cases of the value -/
def iSeq (K : PySem.W.Frag) (tl : TE) : TI := fun σ H R => tl σ H fun x H1 => ∃ a, x = .ref a ∧ (((∃ xs, SqL K H1 a xs) ∧ R (Itl K a) H1) ∨ ((∃ xs, SqT K H1 a xs) ∧ R (Itt K a) H1))
theorem pi_seq {l : Expr} {tl : TE} (hl : PE X l tl) : PI X tg l (iSeq X.K tl) := by
  intro pins s σ H R I h
  refine thn (hl pins s σ H _ I h) fun v s1 ⟨x, H1, I1, r1, a, e, q⟩ => ?_
  subst e
  cases r1
  rcases q with ⟨⟨xs, hq⟩, q⟩ | ⟨⟨xs, hq⟩, q⟩
  · obtain ⟨its, rv, p, hz⟩ := I1.list hq
    refine wpAny_pyIter_list p.isList ?_
    refine ⟨s1.heap.objs.size, [s1.heap.objs.size], _, _, H1, rfl, I1.kept (t' := s1.toks) fun b o e => Heap.get?_push_of_some _ e, turn_list a _, ⟨_, Heap.get?_push_size _ rfl, rfl, rfl⟩, fun b hb => ?_, q⟩
    have e : b = s1.heap.objs.size := by simpa using hb
    subst e
    exact I1.fpOk (Nat.le_refl _) (I1.hok.fresh (Nat.le_refl _))
  · obtain ⟨its, rv, p, hz⟩ := I1.tuple hq
    refine wpAny_pyIter_tuple (show s1.heap.IsTuple a its.toArray from p) ?_
    refine ⟨s1.heap.objs.size, [s1.heap.objs.size], _, _, H1, rfl, I1.kept (t' := s1.toks) fun b o e => Heap.get?_push_of_some _ e, turn_tuple a _, ⟨_, Heap.get?_push_size _ rfl, rfl, rfl⟩, fun b hb => ?_, q⟩
    have e : b = s1.heap.objs.size := by simpa using hb
    subst e
    exact I1.fpOk (Nat.le_refl _) (I1.hok.fresh (Nat.le_refl _))
theorem wrel_tup {K : PySem.W.Frag} {ρ : List Addr} {H : Hp} {ds : List D} {a : Addr} {xs : List V} (hp : H a = some (.tup xs)) (r : Reps ρ H ds xs) : WRel K ρ H ⟨ds, []⟩ (Itt K a) where
  go := fun i ρ' S' H' f st _ hi => by
    have hi' : i < ds.length := hi
    obtain ⟨v, g, _⟩ := (r.mono f).get (List.getElem?_eq_getElem hi')
    refine ⟨⟨xs, v, SqT.of (f.tup a xs hp), g⟩, fun x H'' y => ?_⟩
    obtain ⟨rfl, y⟩ := y
    refine ⟨Fut.refl _ _, st, fun d hd => ?_⟩
    obtain ⟨v', g', r'⟩ := (r.mono f).get hd
    have := y xs (SqT.of (f.tup a xs hp))
    rw [g'] at this
    cases this
    exact r'
  stop := fun ρ' S' H' f st _ => ⟨xs, SqT.of (f.tup a xs hp), by show xs.length ≤ ds.length; rw [r.length]; exact Nat.le_refl _⟩
theorem wrel_lst {K : PySem.W.Frag} {ρ : List Addr} {H : Hp} {ds : List D} {a : Addr} {n : Nat} (hp : ρ[n]? = some a) : WRel K ρ H ⟨ds, [(n, ds)]⟩ (Itl K a) where
  go := fun i ρ' S' H' f st hs hi => by
    have hn : S'[n]? = some (.lst ds) := by simpa [Walk.still] using hs
    obtain ⟨a', ha, xs, hx, r⟩ := st.at hn
    rw [f.at hp] at ha; cases ha
    have hi' : i < ds.length := hi
    obtain ⟨v, g, _⟩ := r.get (List.getElem?_eq_getElem hi')
    refine ⟨⟨xs, v, SqL.of hx, g⟩, fun x H'' y => ?_⟩
    obtain ⟨rfl, y⟩ := y
    refine ⟨Fut.refl _ _, st, fun d hd => ?_⟩
    obtain ⟨v', g', r'⟩ := r.get hd
    have := y xs (SqL.of hx)
    rw [g'] at this
    cases this
    exact r'
  stop := fun ρ' S' H' f st hs => by
    have hn : S'[n]? = some (.lst ds) := by simpa [Walk.still] using hs
    obtain ⟨a', ha, xs, hx, r⟩ := st.at hn
    rw [f.at hp] at ha; cases ha
    exact ⟨xs, SqL.of hx, by show xs.length ≤ ds.length; rw [r.length]; exact Nat.le_refl _⟩
theorem range_at {lo : Int} {n i : Nat} (h : i < n) : (Ev.rangeL lo n)[i]? = some (.int (lo + i)) := by
  unfold Ev.rangeL
  rw [List.getElem?_map, List.getElem?_range h]
  rfl
theorem range_len (lo : Int) (n : Nat) : (Ev.rangeL lo n).length = n := by unfold Ev.rangeL; rw [List.length_map, List.length_range]
theorem wrel_rng {K : PySem.W.Frag} {ρ : List Addr} {H : Hp} {lo : Int} {n : Nat} : WRel K ρ H ⟨Ev.rangeL lo n, []⟩ (Itr lo n) where
  go := fun i ρ' S' H' f st _ hi => by
    have hi' : i < n := by simpa [range_len] using hi
    refine ⟨hi', fun x H'' y => ?_⟩
    obtain ⟨rfl, rfl⟩ := y
    refine ⟨Fut.refl _ _, st, fun d hd => ?_⟩
    have hd' : (Ev.rangeL lo n)[i]? = some d := hd
    rw [range_at hi'] at hd'
    cases hd'
    exact rep_int _
  stop := fun ρ' S' H' f st _ => by
    show n ≤ (Ev.rangeL lo n).length
    rw [range_len]
    exact Nat.le_refl _
theorem cw_of (he : CE X xw C e i) : CW X xw C tg e (.of i) := PI.imp (pi_seq he) fun σ H Q ⟨ρ, l, S, st, lr, h⟩ => by
  refine ⟨ρ, l, S, st, lr, End.bind (show End X.K xw (WRel X.K) ρ H Q ((ev C i l S).bind fun x S => Ev.ob (Ev.walkOf S x) S) from h) fun x S1 ρ1 H1 v f1 st1 r1 h1 => ?_⟩
  cases x with
  | tup ds =>
    obtain ⟨a, xs, rfl, hp, r⟩ := r1.tup'
    exact ⟨a, rfl, .inr ⟨⟨xs, SqT.of hp⟩, End.ok (rep := WRel X.K) h1 st1 (wrel_tup hp r)⟩⟩
  | loc n =>
    obtain ⟨a, rfl, hp⟩ := r1.loc'
    have h' : End X.K xw (WRel X.K) ρ1 H1 Q (Ev.ob (match S1[n]? with
      | some (.lst xs) => some ⟨xs, [(n, xs)]⟩
      | _ => none) S1) := h1
    cases q : S1[n]? with
    | none => rw [q] at h'; exact False.elim h'
    | some o =>
      rw [q] at h'
      cases o with
      | lst ds =>
        obtain ⟨a', ha, xs, hx, r⟩ := st1.at q
        rw [hp] at ha; cases ha
        exact ⟨a, rfl, .inl ⟨⟨xs, SqL.of hx⟩, End.ok (rep := WRel X.K) h' st1 (wrel_lst hp)⟩⟩
      | _ => exact False.elim h'
  | _ => exact False.elim h1
theorem cw_rng1 (hm : X.mg "range" = none) (ha : CA X xw C [a] [i]) (hg : Gl X "range" := by rfl) (hs : starEach [a] X.env = [(false, eval a X.env)] := by rfl) : CW X xw C tg (.Call (.Name "range" p) [a] [] pos) (.rng1 i) :=
  PI.imp (pi_range1 hg hm ha hs) fun σ H Q ⟨ρ, l, S, st, lr, h⟩ => by
    refine ⟨ρ, l, S, st, lr, ?_⟩
    show End X.K xw Reps ρ H _ ((ev C i l S).bind fun x S => (Ev.R.ok [] S).bind fun xs S => .ok (x :: xs) S)
    have h' : End X.K xw (WRel X.K) ρ H Q ((ev C i l S).bind fun x S => match x with
      | .int i => if Ev.small i then .ok ⟨Ev.rangeL 0 i.toNat, []⟩ S else .no
      | _ => .no) := h
    cases q : ev C i l S with
    | no => rw [q] at h'; exact h'
    | ex c S1 => rw [q] at h'; exact h'
    | ok x S1 =>
      rw [q] at h'
      intro ρ1 H1 vs f1 st1 r1
      obtain ⟨v, rfl, r⟩ := reps1 r1
      cases x with
      | int n =>
        obtain ⟨hs, h2⟩ := End.guard (End.mono f1 (show End X.K xw (WRel X.K) ρ H Q (if Ev.small n = true then .ok ⟨Ev.rangeL 0 n.toNat, []⟩ S1 else .no) from h'))
        have hs' := of_decide_eq_true (show decide (-(2 ^ 62) ≤ n ∧ n < 2 ^ 62) = true from hs)
        exact ⟨n, by rw [r.int'], hs'.1, hs'.2, End.ok (rep := WRel X.K) h2 st1 wrel_rng⟩
      | _ => exact False.elim h'
def wRng2 (x y : D) (S : Store) : R Walk := match x, y with
  | .int i, .int j => if (Ev.small i && Ev.small j) = true then .ok ⟨Ev.rangeL i (j - i).toNat, []⟩ S else .no
  | _, _ => .no
theorem cw_rng2 (hm : X.mg "range" = none) (ha : CA X xw C [a, b] [i, j]) (hg : Gl X "range" := by rfl) (hs : starEach [a, b] X.env = [(false, eval a X.env), (false, eval b X.env)] := by rfl) (hs2 : starEach [b] X.env = [(false, eval b X.env)] := by rfl) :
    CW X xw C tg (.Call (.Name "range" p) [a, b] [] pos) (.rng2 i j) :=
  PI.imp (pi_range2 hg hm ha hs hs2) fun σ H Q ⟨ρ, l, S, st, lr, h⟩ => by
    refine ⟨ρ, l, S, st, lr, ?_⟩
    show End X.K xw Reps ρ H _ ((ev C i l S).bind fun x S => ((ev C j l S).bind fun y S => (Ev.R.ok [] S).bind fun xs S => .ok (y :: xs) S).bind fun xs S => .ok (x :: xs) S)
    have h' : End X.K xw (WRel X.K) ρ H Q ((ev C i l S).bind fun x S => (ev C j l S).bind fun y S => wRng2 x y S) := h
    cases q : ev C i l S with
    | no => rw [q] at h'; exact h'
    | ex c S1 => rw [q] at h'; exact h'
    | ok x S1 =>
      rw [q] at h'
      have h2 : End X.K xw (WRel X.K) ρ H Q ((ev C j l S1).bind fun y S => wRng2 x y S) := h'
      show End X.K xw Reps ρ H _ (((ev C j l S1).bind fun y S => (Ev.R.ok [] S).bind fun xs S => .ok (y :: xs) S).bind fun xs S => .ok (x :: xs) S)
      cases q2 : ev C j l S1 with
      | no => rw [q2] at h2; exact h2
      | ex c S2 => rw [q2] at h2; exact h2
      | ok y S2 =>
        rw [q2] at h2
        intro ρ1 H1 vs f1 st1 r1
        obtain ⟨v, u, rfl, rv, ru⟩ := reps2 r1
        cases x with
        | int n => cases y with
          | int m =>
            obtain ⟨hs, h3⟩ := End.guard (End.mono f1 (show End X.K xw (WRel X.K) ρ H Q (if (Ev.small n && Ev.small m) = true then .ok ⟨Ev.rangeL n (m - n).toNat, []⟩ S2 else .no) from h2))
            obtain ⟨s1, s2⟩ := (Bool.and_eq_true _ _).mp hs
            have s1' := of_decide_eq_true (show decide (-(2 ^ 62) ≤ n ∧ n < 2 ^ 62) = true from s1)
            have s2' := of_decide_eq_true (show decide (-(2 ^ 62) ≤ m ∧ m < 2 ^ 62) = true from s2)
            exact ⟨n, m, by rw [rv.int', ru.int'], ⟨s1'.1, s1'.2, s2'.1, s2'.2⟩, End.ok (rep := WRel X.K) h3 st1 wrel_rng⟩
          | _ => exact False.elim h2
        | _ => exact False.elim h2
/-! ### for -/
theorem cs_for {body : List Stmt} {ms : List Sm} {w : Ev.W} {t : List Nat} (hp : PassesOwn (model X.prog X.w) X.A X.env X.xe) (hc : X.calm = true) (hw : CW X xw C tg it w) (hg : CG X tg t) (hb : CSs X xw C body ms)
    (hs : ∀ x, foldedSetIterable it X.env x = pure x := by intro _; rfl) : CS X xw C (.For tg it body [] pos) (.forr t w ms) := PS.imp (ps_for hp hc hw hg hb hs) fun D σ H ⟨ρ, l, S, st, lr, h⟩ => by
  have h' : EndS X.K xw ρ H D ((evw C w l S).bind fun w S => Ev.forL w (fun x σ S => (Ev.ob (Ev.assign t x S σ) S).bind fun σ S => runs C ms σ S) w.items l S) := h
  refine ⟨ρ, l, S, st, lr, h'.bind fun wk S1 ρ1 H1 J f1 st1 r1 h1 => ?_⟩
  -- the invariant: the rest of the run is still wanted
  let B : Ev.D → Lc → Store → R Fl := fun x σ S => (Ev.ob (Ev.assign t x S σ) S).bind fun σ S => runs C ms σ S
  refine ⟨fun n m σ' H' => m = wk.items.length - n ∧ n ≤ wk.items.length ∧ ∃ ρ' l' S', Fut ρ1 H1 ρ' H' ∧ St3 X.K ρ' S' H' ∧ LocR ρ' H' l' σ' ∧ EndS X.K xw ρ' H' D (Ev.forL wk B (wk.items.drop n) l' S'),
    ⟨wk.items.length, rfl, Nat.zero_le _, ρ1, l, S1, Fut.refl _ _, st1, lr.mono f1, h1⟩, ?_⟩
  rintro n m σ' H' ⟨rfl, hn, ρ', l', S', f', st', lr', e'⟩
  by_cases hlt : n < wk.items.length
  · right
    have hd : wk.items.drop n = wk.items[n] :: wk.items.drop (n + 1) := List.drop_eq_getElem_cons hlt
    rw [hd] at e'
    have e2 : EndS X.K xw ρ' H' D (if wk.still S' = true then (match B wk.items[n] l' S' with
      | .ok (.nx σ') S' => Ev.forL wk B (wk.items.drop (n + 1)) σ' S'
      | .ok (.cnt σ') S' => Ev.forL wk B (wk.items.drop (n + 1)) σ' S'
      | .ok (.brk σ') S' => .ok (.nx σ') S'
      | .ok (.ret d) S' => .ok (.ret d) S'
      | .ex c S' => .ex c S'
      | .no => .no) else .no) := e'
    by_cases hst : wk.still S' = true
    · rw [if_pos hst] at e2
      obtain ⟨go, yl⟩ := r1.go n ρ' S' H' f' st' hst hlt
      refine ⟨go, fun σ2 H2 => ∃ ρ2 l2 S2, Fut ρ1 H1 ρ2 H2 ∧ St3 X.K ρ2 S2 H2 ∧ LocR ρ2 H2 l2 σ2 ∧ EndS X.K xw ρ2 H2 D (Ev.forL wk B (wk.items.drop (n + 1)) l2 S2), fun σ2 H2 ⟨ρ2, l2, S2, a1, a2, a3, a4⟩ => ⟨wk.items.length - (n + 1), by omega, rfl, hlt, ρ2, l2, S2, a1, a2, a3, a4⟩, fun x H3 y => ?_⟩
      obtain ⟨f3, st3, rp⟩ := yl x H3 y
      have rx := rp _ (List.getElem?_eq_getElem hlt)
      cases ha : Ev.assign t wk.items[n] S' l' with
      | none =>
        have e3 : B wk.items[n] l' S' = .no := by show (Ev.ob (Ev.assign t wk.items[n] S' l') S').bind _ = _; rw [ha]; rfl
        rw [e3] at e2
        exact False.elim e2
      | some l2 =>
        have e3 : B wk.items[n] l' S' = runs C ms l2 S' := by show (Ev.ob (Ev.assign t wk.items[n] S' l') S').bind _ = _; rw [ha]; rfl
        rw [e3] at e2
        refine ⟨ρ', l', S', wk.items[n], l2, st3, lr'.mono f3, rx, ha, fun σ2 lr2 => ⟨ρ', l2, S', st3, lr2, ?_⟩⟩
        have e4 := EndS.mono f3 e2
        have ff := f'.trans f3
        cases q : runs C ms l2 S' with
        | no => rw [q] at e4; exact e4
        | ex c S2 => rw [q] at e4; exact e4
        | ok fl S2 =>
          rw [q] at e4
          cases fl with
          | nx l3 => exact fun ρ4 H4 σ4 f4 st4 lr4 => ⟨ρ4, l3, S2, ff.trans f4, st4, lr4, EndS.mono f4 e4⟩
          | cnt l3 => exact fun ρ4 H4 σ4 f4 st4 lr4 => ⟨ρ4, l3, S2, ff.trans f4, st4, lr4, EndS.mono f4 e4⟩
          | brk l3 => exact e4
          | ret d => exact e4
    · rw [if_neg hst] at e2
      exact False.elim e2
  · left
    have en : n = wk.items.length := by omega
    subst en
    rw [List.drop_length] at e'
    have e2 : EndS X.K xw ρ' H' D (if wk.still S' = true then .ok (.nx l') S' else .no) := e'
    by_cases hst : wk.still S' = true
    · rw [if_pos hst] at e2
      exact ⟨r1.stop ρ' S' H' f' st' hst, EndS.nx e2 st' lr'⟩
    · rw [if_neg hst] at e2
      exact False.elim e2
end
end Sd

set_option Elab.async false
set_option linter.all false
set_option maxRecDepth 100000
namespace Sd
open PySem PySem.Spec PyProof.Rows L2
/-! ### a comprehension's block -/
def clGo (env : Env) : List (Str × NameKind) → List (Str × Addr) → List (Str × Addr)
  | [], acc => acc
  | x :: r, acc => clGo env r (if (x.2 == NameKind.free) = true then (x.1, (env.cells.lookup x.1).getD 0) :: acc else acc)
theorem forIn_clGo {env : Env} {f : Str × NameKind → List (Str × Addr) → Sem (ForInStep (List (Str × Addr)))} : ∀ (names : List (Str × NameKind)) (acc : List (Str × Addr)),
    (∀ x ∈ names, ∀ c, f x c = pure (.yield (if (x.2 == NameKind.free) = true then (x.1, (env.cells.lookup x.1).getD 0) :: c else c))) → forIn names acc f = pure (clGo env names acc)
  | [], acc, _ => rfl
  | x :: r, acc, h => by
    rw [List.forIn_cons, h x List.mem_cons_self, pure_bind]
    exact forIn_clGo r _ fun y hy => h y (List.mem_cons_of_mem _ hy)
theorem clGo_mem {env : Env} {x : Str} {c : Addr} : ∀ (names : List (Str × NameKind)) (acc : List (Str × Addr)), (clGo env names acc).lookup x = some c → acc.lookup x = some c ∨ (∃ y ∈ names, y.1 = x ∧ y.2 = .free ∧ c = (env.cells.lookup x).getD 0)
  | [], acc, h => .inl h
  | y :: r, acc, h => by
    rcases clGo_mem r _ h with h | ⟨z, hz, e⟩
    · by_cases hf : (y.2 == NameKind.free) = true
      · rw [if_pos hf, List.lookup_cons] at h
        cases q : (x == y.1) with
        | true =>
          rw [q] at h
          have e : x = y.1 := eq_of_beq q
          exact .inr ⟨y, List.mem_cons_self, e.symm, eq_of_beq hf, by rw [e]; exact (Option.some.inj h).symm⟩
        | false => rw [q] at h; exact .inl h
      · rw [if_neg hf] at h; exact .inl h
    · exact .inr ⟨z, List.mem_cons_of_mem _ hz, e⟩
theorem clGo_acc {env : Env} {x : Str} : ∀ (names : List (Str × NameKind)) (acc : List (Str × Addr)), (acc.lookup x).isSome = true → ((clGo env names acc).lookup x).isSome = true
  | [], acc, h => h
  | y :: r, acc, h => by
    refine clGo_acc r _ ?_
    split
    · rw [List.lookup_cons]
      cases (x == y.1) with
      | true => rfl
      | false => exact h
    · exact h
theorem clGo_has {env : Env} {x : Str} : ∀ (names : List (Str × NameKind)) (acc : List (Str × Addr)), (x, NameKind.free) ∈ names → ((clGo env names acc).lookup x).isSome = true
  | [], acc, h => by cases h
  | y :: r, acc, h => by
    rcases List.mem_cons.mp h with h | h
    · subst h
      refine clGo_acc r _ ?_
      rw [if_pos (by rfl), List.lookup_cons, beq_self_eq_true]
      rfl
    · exact clGo_has r _ h
theorem closure_ok {scope : Scope} {env : Env} (h : ∀ y ∈ scope.names, y.2 = .free → ∃ c, env.cells.lookup y.1 = some c) :
    ∃ cl, closureFor scope env = pure cl ∧ (∀ x c, cl.lookup x = some c → env.cells.lookup x = some c) ∧ ∀ x, (x, NameKind.free) ∈ scope.names → ∃ c, cl.lookup x = some c := by
  refine ⟨clGo env scope.names [], ?_, fun x c e => ?_, fun x hx => Option.isSome_iff_exists.mp (clGo_has _ _ hx)⟩
  · simp only [closureFor]
    rw [forIn_clGo (env := env) scope.names [] (fun x hx c => by
      obtain ⟨n, kind⟩ := x
      by_cases hk : (kind == NameKind.free) = true
      · obtain ⟨a, ha⟩ := h (n, kind) hx (eq_of_beq hk)
        have ha' : env.cells.lookup n = some a := ha
        simp only [hk, if_true, cellOf, ha', pure_bind, Option.getD_some]
      · simp only [hk, if_false]
        rfl), pure_bind]
  · rcases clGo_mem _ _ e with e | ⟨y, hy, e1, e2, e3⟩
    · cases e
    · obtain ⟨a, ha⟩ := h y hy e2
      rw [e1] at ha
      rw [e3, ha]
      rfl
/-- the context of the block: s, H at its entry (the list is there already), fp the iterator's objects -/
def cxC (X : Cx) (N : List Str) (scope : Scope) (cl : List (Str × Addr)) (s : Shared) (H : Hp) (fp : List Addr) : Cx :=
  { X with N := N, s₀ := s, H₀ := H, env := compEnvC scope cl s.heap.objs.size X.env, outer := X.stack, ex := fp, fn := fun _ => false, pn := [], xe := fun _ _ => False }
/-- tests, from the left -/
def PTs (X : Cx) (ifs : List Expr) (t : TT) : Prop :=
  ∀ (pins : List (Addr × Obj)) (s : Shared) (σ : L2.St) (H : Hp) (Q : Bool → Hp → Prop), Inv X pins σ H s → t σ H Q →
    wpAny (model X.prog X.w) X.A (forIn ifs true fun c r => if r = true then do let ok ← isTrue c X.env (eval c X.env); pure (ForInStep.yield ok) else pure (ForInStep.yield r)) (TP X pins σ Q) X.xe s
theorem pts_nil {X : Cx} : PTs X [] (fun σ H Q => Q true H) := fun pins s σ H Q I h => wpAny_tests_nil ⟨H, I, h⟩
theorem pts_one {X : Cx} {c : Expr} {t : TT} (h : PT X c t) : PTs X [c] t := fun pins s σ H Q I hq => wpAny_tests_one (h pins s σ H Q I hq)
/-- what the scope of a comprehension must be; caught: names of X -/
structure CompScope (sc : Scope) (N0 : List Str) (scope : Scope) (N : List Str) (cap : List Nat) (nl : Nat) : Prop where
  kind : scope.kind = .function
  nocell : ∀ y ∈ scope.names, y.2 ≠ .cell
  names : ∀ y ∈ scope.names, y.2 = .local → scope.names.lookup y.1 = some .local
  free : ∀ y ∈ scope.names, y.2 = .free → sc.names.lookup y.1 = some .cell ∨ sc.names.lookup y.1 = some .free
  apart : ∀ y ∈ scope.names, y.2 = .free → scope.names.lookup y.1 ≠ some .local
  len : N.length = nl + cap.length
  cap : ∀ p ∈ cap.zipIdx, N[nl + p.2]? = N0[p.1]? ∧ (N0[p.1]?).map (fun x => decide ((x, NameKind.free) ∈ scope.names)) = some true
theorem CompScope.capt {sc : Scope} {N0 : List Str} {scope : Scope} {N : List Str} {cap : List Nat} {nl : Nat} (h : CompScope sc N0 scope N cap nl) (i j : Nat) (e : cap[i]? = some j) : ∃ x, N[nl + i]? = some x ∧ N0[j]? = some x ∧ (x, NameKind.free) ∈ scope.names := by
  have hm : (j, i) ∈ cap.zipIdx := by
    rw [List.mem_zipIdx_iff_getElem?]
    exact e
  obtain ⟨h1, h2⟩ := h.cap (j, i) hm
  cases q : N0[j]? with
  | none => rw [show N0[(j, i).1]? = none from q] at h2; cases h2
  | some x =>
    rw [show N0[(j, i).1]? = some x from q] at h1 h2
    exact ⟨x, h1, rfl, of_decide_eq_true (Option.some.inj h2)⟩
def startC (cap : List Nat) (nl : Nat) (σ : L2.St) : L2.St := List.replicate nl none ++ cap.map fun i => (σ[i]?).join
section
variable {X : Cx} {pins : List (Addr × Obj)} {σ : L2.St} {H : Hp} {s : Shared}
theorem relabel_free {scope : Scope} {env : Env} : ∀ {names : List (Str × NameKind)} {x : Str}, (names.map fun (n, k) => if (k == NameKind.free && env.scope.kind == .function && env.kindOf n == some .cell) then (n, NameKind.cell) else (n, k)).lookup x = some .cell ∨
    (names.map fun (n, k) => if (k == NameKind.free && env.scope.kind == .function && env.kindOf n == some .cell) then (n, NameKind.cell) else (n, k)).lookup x = some .free → (∀ y ∈ names, y.2 ≠ .cell) → (x, NameKind.free) ∈ names
  | [], x, h, _ => by rcases h with h | h <;> cases h
  | (n, k) :: r, x, h, hc => by
    have ih := @relabel_free scope env r x
    have hk : k ≠ .cell := hc (n, k) List.mem_cons_self
    by_cases e : x = n
    · subst e
      have hk2 : k = .free := by
        rcases h with h | h
        · rw [List.map_cons] at h
          by_cases c : (k == NameKind.free && env.scope.kind == .function && env.kindOf x == some .cell) = true
          · have := (Bool.and_eq_true _ _).mp c
            exact eq_of_beq ((Bool.and_eq_true _ _).mp this.1).1
          · simp only [if_neg c, List.lookup_cons, beq_self_eq_true] at h
            exact absurd (Option.some.inj h) hk
        · rw [List.map_cons] at h
          by_cases c : (k == NameKind.free && env.scope.kind == .function && env.kindOf x == some .cell) = true
          · simp only [if_pos c, List.lookup_cons, beq_self_eq_true] at h
            cases h
          · simp only [if_neg c, List.lookup_cons, beq_self_eq_true] at h
            exact Option.some.inj h
      rw [hk2]
      exact List.mem_cons_self
    · have hb : (x == n) = false := beq_eq_false_iff_ne.mpr e
      refine List.mem_cons_of_mem _ (ih ?_ fun y hy => hc y (List.mem_cons_of_mem _ hy))
      rcases h with h | h
      · left
        rw [List.map_cons] at h
        by_cases c : (k == NameKind.free && env.scope.kind == .function && env.kindOf n == some .cell) = true
        · simp only [if_pos c, List.lookup_cons, hb] at h; exact h
        · simp only [if_neg c, List.lookup_cons, hb] at h; exact h
      · right
        rw [List.map_cons] at h
        by_cases c : (k == NameKind.free && env.scope.kind == .function && env.kindOf n == some .cell) = true
        · simp only [if_pos c, List.lookup_cons, hb] at h; exact h
        · simp only [if_neg c, List.lookup_cons, hb] at h; exact h
/-- the block's entry -/
theorem inv_comp {N : List Str} {scope : Scope} {cl : List (Str × Addr)} {fp : List Addr} {cap : List Nat} {nl : Nat} {h1 : Heap} {tk : Nat} (I : Inv X pins σ H s) (CS : CompScope X.env.scope X.N scope N cap nl) (hN : X.N.Nodup)
    (c1 : ∀ x c, cl.lookup x = some c → X.env.cells.lookup x = some c) (c2 : ∀ x, (x, NameKind.free) ∈ scope.names → ∃ c, cl.lookup x = some c)
    (hf : ∀ b ∈ fp, FpOk X pins H b) (hb : ∀ b ∈ fp, ∃ o, s.heap.get? b = some o) (hns : ∃ m, h1.Ns s.heap.objs.size m) (hk : ∀ b o, s.heap.get? b = some o → h1.get? b = some o) :
    Inv (cxC X N scope cl s H fp) [] (startC cap nl σ) H { s with heap := h1, toks := tk } := by
  have bne : ∀ b ∈ fp, b ≠ s.heap.objs.size := fun b hb' e => by
    obtain ⟨o, ho⟩ := hb b hb'
    exact absurd (Heap.lt_size ho) (by rw [e]; exact Nat.lt_irrefl _)
  refine ⟨⟨I.ok.mod, CS.kind, I.ok.glob, I.ok.blt, Nat.le_refl _, fun x y c h1 h2 => I.ok.inj x y c (c1 x c h1) (c1 y c h2), fun x hx => c2 x (relabel_free (scope := scope) (env := X.env) hx CS.nocell), fun x c h => (by cases h), I.ok.hd, I.ok.frames, .inl rfl,
    fun b hb' => ⟨bne b hb', fun x c e => (hf b hb').2.2.2.2.1 x c (c1 x c e)⟩, I.bs, Nat.le_trans I.ok.bsz I.sz, fun b o e hb' => ?_, fun b hb' hm => ?_, I.stack, I.stkFree⟩,
    rfl, I.bare, Un.kept hk, ?_, fun x c e => ?_, I.hok.fresh (Nat.le_refl _), fun x c e => I.freeC x c (c1 x c e), fun p hp => absurd hp (by simp [cxC]), I.hok.kept hk, ?_⟩
  · rcases (hf b hb').2.2.2.1 with z | z
    · exact I.ok.noex b o e z
    · exact absurd (Heap.lt_size e) (Nat.not_lt.mpr (Nat.le_trans I.ok.bsz z))
  · rcases List.mem_cons.mp (I.stkSub b hm) with e | e
    · exact (hf b hb').2.1 e
    · exact (hf b hb').2.2.1 e
  · obtain ⟨m1, hm1⟩ := hns
    refine ⟨m1, hm1, fun i x v e1 e2 e3 => ?_⟩
    obtain ⟨m, hm, hl⟩ := I.loc
    -- a caught name
    have hi : nl ≤ i := by
      by_cases hi : nl ≤ i
      · exact hi
      · have z : (startC cap nl σ)[i]? = some none := by
          unfold startC
          rw [List.getElem?_append_left (by simp; omega), List.getElem?_replicate, if_pos (by omega)]
        rw [z] at e2
        cases e2
    have e2' : (cap.map fun i => (σ[i]?).join)[i - nl]? = some (some v) := by
      have : (startC cap nl σ)[i]? = some (some v) := e2
      unfold startC at this
      rwa [List.getElem?_append_right (by simp; exact hi), List.length_replicate] at this
    rw [List.getElem?_map] at e2'
    cases hj : cap[i - nl]? with
    | none => rw [hj] at e2'; cases e2'
    | some j =>
      rw [hj] at e2'
      have hv : σ[j]? = some (some v) := by
        have : (σ[j]?).join = some v := Option.some.inj e2'
        cases q : σ[j]? with
        | none => rw [q] at this; cases this
        | some o => rw [q] at this; cases o with
          | none => cases this
          | some w => cases this; rfl
      obtain ⟨x', n1, n2, fr⟩ := CS.capt _ _ hj
      have ex : x' = x := by
        have : N[nl + (i - nl)]? = some x := by rw [show nl + (i - nl) = i by omega]; exact e1
        rw [n1] at this
        exact Option.some.inj this
      subst ex
      have kd := CS.free _ fr rfl
      have vis : Vis X.env.scope x' := by
        rcases kd with z | z
        · exact .inr (.inl z)
        · exact .inr (.inr z)
      obtain ⟨u, r, lk⟩ := hl j x' v n2 hv vis
      refine ⟨u, r, ?_⟩
      rcases lk with ⟨k, _⟩ | ⟨k, c, ec, hc⟩
      · have k' : X.env.scope.names.lookup x' = some .local := k
        rcases kd with z | z <;> (rw [z] at k'; cases k')
      · obtain ⟨c', ec'⟩ := c2 x' fr
        have ecc : c' = c := by
          have := c1 x' c' ec'
          rw [ec] at this
          exact (Option.some.inj this).symm
        subst ecc
        have vis2 : Vis (relabel scope X.env) x' := e3
        refine .inr ⟨?_, c', ec', ?_⟩
        · rcases vis2 with z | z | z
          · have z' : (scope.names.map fun (n, k) => if (k == NameKind.free && X.env.scope.kind == .function && X.env.kindOf n == some .cell) then (n, NameKind.cell) else (n, k)).lookup x' = some .local := z
            exfalso
            -- a free name is not local
            have : ∀ (names : List (Str × NameKind)), (∀ y ∈ names, y.2 = NameKind.local → y.1 ≠ x') → (names.map fun (n, k) => if (k == NameKind.free && X.env.scope.kind == .function && X.env.kindOf n == some .cell) then (n, NameKind.cell) else (n, k)).lookup x' ≠ some .local := by
              intro names
              induction names with
              | nil => intro _ h; cases h
              | cons y r ih =>
                obtain ⟨n, k⟩ := y
                intro hy h
                rw [List.map_cons] at h
                by_cases e : x' = n
                · subst e
                  by_cases c : (k == NameKind.free && X.env.scope.kind == .function && X.env.kindOf x' == some .cell) = true
                  · simp only [if_pos c, List.lookup_cons, beq_self_eq_true] at h; cases h
                  · simp only [if_neg c, List.lookup_cons, beq_self_eq_true] at h
                    exact hy (x', k) List.mem_cons_self (Option.some.inj h) rfl
                · have hb : (x' == n) = false := beq_eq_false_iff_ne.mpr e
                  refine ih (fun y hy' => hy y (List.mem_cons_of_mem _ hy')) ?_
                  by_cases c : (k == NameKind.free && X.env.scope.kind == .function && X.env.kindOf n == some .cell) = true
                  · simp only [if_pos c, List.lookup_cons, hb] at h; exact h
                  · simp only [if_neg c, List.lookup_cons, hb] at h; exact h
            refine this scope.names (fun y hy hl e => ?_) z'
            have l1 := CS.names y hy hl
            rw [e] at l1
            -- x' is free in the scope too: its first entry is local, so it is never seen as a caught name
            exact CS.apart (x', .free) fr rfl l1
          · exact .inl z
          · exact .inr z
        · obtain ⟨o, ho, hd⟩ := hc
          exact ⟨o, hk c' o ho, hd⟩
  · obtain ⟨v, o, ho, hd⟩ := I.cell x c (c1 x c e)
    exact ⟨v, o, hk c o ho, hd⟩
  · unfold startC
    show _ = N.length
    rw [List.length_append, List.length_replicate, List.length_map, CS.len]
end
end Sd

set_option Elab.async false
set_option linter.all false
set_option maxRecDepth 100000
namespace Sd
open PySem PySem.Spec PyProof.Rows L2
section
variable {prog : Program} {w : World} {A : Around} {Rr : Result → Shared → Prop} {s : Shared}
theorem compLoop_any {elt target iter : Expr} {ifs : List Expr} {scope : Scope} {pos : Pos} {it acc : Value} {env : Env} (I : Nat → Shared → Prop)
    (turn : ∀ n s, I n s → wpAny (model prog w) A (pyNext it) (fun r s₁ => match r with
      | none => Rr (.ok .next) s₁
      | some v => wpAny (model prog w) A (letOwnedTupleGo target it v) (fun _ s₁' => wpAny (model prog w) A (assign target env v) (fun _ s₂ =>
          wpAny (model prog w) A (forIn ifs true fun c r => if r = true then do let ok ← isTrue c env (eval c env); pure (ForInStep.yield ok) else pure (ForInStep.yield r)) (fun ok s₃ =>
            if ok = true then wpAny (model prog w) A (eval elt env) (fun x s₄ =>
              wpAny (model prog w) A (call (.builtin "list.append") [acc, x]) (fun _ s₅ => ∃ m, m < n ∧ I m s₅) (fun _ _ => False) s₄) (fun _ _ => False) s₃
            else ∃ m, m < n ∧ I m s₃) (fun _ _ => False) s₂) (fun _ _ => False) s₁') (fun _ _ => False) s₁) (fun _ _ => False) s)
    (n : Nat) (h : I n s) : codeAny (model prog w) A (.compLoop (.ListComp elt [⟨target, iter, ifs, 0⟩] scope pos) 0 it acc env) Rr s := by
  refine codeAny_loop rfl I (fun n s hI => ?_) n h
  show wpAny _ A ((compTurn (.ListComp elt [⟨target, iter, ifs, 0⟩] scope pos) 0 it acc env).onRaise (fun x => do noteFrame x env; theTreesLotGoes x)) _ _ s
  refine wpAny_noted ?_
  rw [compTurn_list]
  refine wpAny_bind (wpAny_standAt (wpAny_bind (wpAny_mono (turn n s hI) (fun r s₁ h₁ => ?_) fun _ _ h' => h'.elim)))
  cases r with
  | none => exact wpAny_pure h₁
  | some v =>
    refine wpAny_bind (wpAny_mono h₁ (fun _ s₁' h₁' => ?_) fun _ _ h' => h'.elim)
    refine wpAny_bind (wpAny_mono h₁' (fun _ s₂ h₂ => wpAny_bind (wpAny_mono h₂ (fun ok s₃ h₃ => ?_) fun _ _ h' => h'.elim)) fun _ _ h' => h'.elim)
    cases ok with
    | false => exact wpAny_pure ⟨rfl, h₃⟩
    | true =>
      exact wpAny_bind (wpAny_bind (wpAny_mono h₃ (fun x s₄ h₄ => wpAny_bind (wpAny_mono h₄ (fun _ s₅ h₅ => wpAny_pure (wpAny_pure ⟨rfl, h₅⟩)) fun _ _ h' => h'.elim)) fun _ _ h' => h'.elim))
end
def tComp (wi : TI) (g : TG) (tt : TT) (te : TE) (cap : List Nat) (nl : Nat) : TE := fun σ H Q => wi σ H fun J H1 => ∀ D, H1 D = none → ∃ W : Nat → Nat → L2.St → Hp → Prop, (∃ m, W 0 m (startC cap nl σ) (upd H1 D (.lst []))) ∧ ∀ i m σ' H', W i m σ' H' →
   (J.stop i H' ∧ Q (.ref D) H') ∨ (J.go i H' ∧ ∀ x H'', J.yld i H' x H'' → g x σ' H'' fun σ2 H2 => tt σ2 H2 fun ok H3 => if ok = true then te σ2 H3 fun y H4 => ∃ ys, H4 D = some (.lst ys) ∧ ys.length < sizeLine ∧ ∃ m', m' < m ∧ W (i + 1) m' σ2 (upd H4 D (.lst (ys ++ [y]))) else ∃ m', m' < m ∧ W (i + 1) m' σ2 H3)
section
variable {X : Cx}
/-- what is known of the block's frame behind it -/
structure Gone (X : Cx) (pins : List (Addr × Obj)) (H : Hp) (s : Shared) (C : Addr) : Prop where
  free : H C = none
  ns : ∃ m, s.heap.Ns C m
  loc : C ≠ X.env.locals
  big : X.s₀.heap.objs.size ≤ C
  cel : ∀ x c, X.env.cells.lookup x = some c → c ≠ C
  pin : ∀ p ∈ X.pn ++ pins, p.1 ≠ C
theorem comp_core {tg iter elt : Expr} {ifs : List Expr} {scope : Scope} {pos fpos : Pos} {N : List Str} {cap : List Nat} {nl : Nat} {wi : TI} {g : TG} {tt : TT} {te : TE} {pins : List (Addr × Obj)} {s : Shared} {σ : L2.St} {H : Hp} {Q : VK} {use : Option (Value → Sem Unit)} {QQ : Value → Shared → Prop} (hc : X.calm = true) (hN : X.N.Nodup) (CS : CompScope X.env.scope X.N scope N cap nl) (hi : PI X tg iter wi)
    (hb : ∀ cl s H fp, PG (cxC X N scope cl s H fp) tg g ∧ PTs (cxC X N scope cl s H fp) ifs tt ∧ PE (cxC X N scope cl s H fp) elt te)
    (hs : ∀ x, foldedSetIterable iter X.env x = pure x) (I : Inv X pins σ H s) (h : tComp wi g tt te cap nl σ H Q)
    (fin : ∀ D C H5 s6, Inv X pins σ H5 s6 → Gone X pins H5 s6 C → Q (.ref D) H5 → compPost (model X.prog X.w) X.A X.xe use QQ (.ref D) C (.ok .next) s6) :
    wpAny (model X.prog X.w) X.A (comprehension (.ListComp elt [⟨tg, iter, ifs, 0⟩] scope pos) scope X.env fpos (newList []) false (eval iter X.env) use) QQ X.xe s := by
  obtain ⟨cl, hcl, c1, c2⟩ := closure_ok (scope := scope) (env := X.env) fun y hy hf => I.ok.has y.1 (CS.free y hy hf)
  refine wpAny_comprehension_free (use := use) rfl hs hcl CS.kind CS.names ?_
  refine thn (hi pins s σ H _ I h) fun v s1 h1 => thn h1 fun itv s2 h2 => ?_
  obtain ⟨it, fp, tn, J, H2, rfl, I2, T, st2, f2, q2⟩ := h2
  obtain ⟨W, ⟨m0, w0⟩, turn⟩ := q2 s2.heap.objs.size (I2.hok.fresh (Nat.le_refl _))
  refine wpAny_newObj_type (wpAny_newFunctionEnv CS.nocell (by intro y hy; simp at hy) (fun h₁ hns₁ hsb₁ => ?_) CS.kind)
  dsimp only at hns₁ hsb₁ ⊢
  -- the list is there
  have I3 : Inv X pins σ (upd H2 s2.heap.objs.size (.lst [])) { s2 with heap := s2.heap.push { cls := .type "list", dict := none, data := .seq ([] : List Value).toArray }, toks := s2.toks } :=
    I2.laid (fun b u e => Heap.get?_push_of_some _ e) (Nat.le_refl _) ⟨Nat.zero_le _, [], 0, .nil, Heap.get?_push_size _ rfl⟩
  generalize hD : s2.heap.objs.size = D at I3 w0 turn hns₁ hsb₁ ⊢
  generalize hs3 : ({ s2 with heap := s2.heap.push { cls := .type "list", dict := none, data := .seq ([] : List Value).toArray }, toks := s2.toks } : Shared) = s3 at I3
  have hh3 : s2.heap.push { cls := .type "list", dict := none, data := .seq ([] : List Value).toArray } = s3.heap := by rw [← hs3]
  rw [hh3] at hns₁ hsb₁
  have old : ∀ b o, s2.heap.get? b = some o → s3.heap.get? b = some o := fun b o e => by rw [← hh3]; exact Heap.get?_push_of_some _ e
  have neD : ∀ b ∈ fp, b ≠ D := fun b hb' e => by
    obtain ⟨o, ho, _⟩ := T.obj _ _ st2 b hb'
    exact absurd (Heap.lt_size ho) (by rw [e, ← hD]; exact Nat.lt_irrefl _)
  have f3 : ∀ b ∈ fp, FpOk X pins (upd H2 D (.lst [])) b := fun b hb' => ⟨by rw [upd_ne (neD b hb')]; exact (f2 b hb').1, (f2 b hb').2⟩
  have keep4 : ∀ b o, s3.heap.get? b = some o → h₁.get? b = some o := fun b o e => hsb₁.extBut b o (Nat.ne_of_lt (Heap.lt_size e)) (Heap.get?_push_of_some _ e)
  have I4 := inv_comp (tk := s2.toks + ([] : List (Str × Value)).length) I3 CS hN c1 c2 f3 (fun b hb' => let ⟨o, ho, _⟩ := T.obj _ _ st2 b hb'; ⟨o, old b o ho⟩) ⟨_, hns₁⟩ keep4
  have e4 : ({ s3 with heap := h₁, toks := s2.toks + ([] : List (Str × Value)).length } : Shared) = { s2 with heap := h₁, toks := s2.toks + ([] : List (Str × Value)).length } := by rw [← hs3]
  rw [e4] at I4
  obtain ⟨hg, ht, he⟩ := hb cl s3 (upd H2 D (.lst [])) fp
  generalize hY : cxC X N scope cl s3 (upd H2 D (.lst [])) fp = Y at I4 hg ht he
  have yP : Y.prog = X.prog := by rw [← hY]; rfl
  have stat : ∀ {H' : Hp}, (∀ b ∈ fp, H' b = none) → ∀ b ∈ fp, FpOk Y [] H' b := fun hn b hb' => by
    subst hY
    refine ⟨hn b hb', fun e => ?_, fun hm => ?_, .inl hb', fun x c e => (f3 b hb').2.2.2.2.1 x c (c1 x c e), fun p hp => absurd hp (by simp [cxC])⟩
    · obtain ⟨o, ho, _⟩ := T.obj _ _ st2 b hb'
      have := Heap.lt_size (old b o ho)
      rw [e] at this
      exact absurd this (Nat.lt_irrefl _)
    · rcases List.mem_cons.mp (I3.stkSub b hm) with e | e
      · exact (f3 b hb').2.1 e
      · exact (f3 b hb').2.2.1 e
  subst hY
  let Y := cxC X N scope cl s3 (upd H2 D (.lst [])) fp
  have st4 : tn 0 h₁ := T.keep _ _ _ st2 fun b hb' o e => keep4 b o (old b o e)
  have fr4 : ∀ b ∈ fp, upd H2 D (HO.lst []) b = none := fun b hb' => (f3 b hb').1
  have loop : codeAny (model X.prog X.w) X.A (.compLoop (.ListComp elt [⟨tg, iter, ifs, 0⟩] scope pos) 0 (.ref it) (.ref D) (compEnvC scope cl s3.heap.objs.size X.env))
      (compPost (model X.prog X.w) X.A X.xe use QQ (.ref D) s3.heap.objs.size) { s2 with heap := h₁, toks := s2.toks + ([] : List (Str × Value)).length } := by
    refine compLoop_any (fun n s' => ∃ i σ' H', Inv (cxC X N scope cl s3 (upd H2 D (.lst [])) fp) [] σ' H' s' ∧ tn i s'.heap ∧ (∀ b ∈ fp, H' b = none) ∧ W i n σ' H') ?_ m0 ⟨0, _, _, I4, st4, fr4, w0⟩
    rintro n s5 ⟨i, σ5, H5, I5, st5, fr5, w5⟩
    rcases turn i n σ5 H5 w5 with ⟨stop, qn⟩ | ⟨go, step⟩
    · refine thn (T.done (cxC X N scope cl s3 (upd H2 D (.lst [])) fp) rfl rfl rfl hc i [] s5 σ5 H5 (fun _ _ => False) I5 (stat fr5) st5 stop) fun r s6 ⟨hr, I6⟩ => ?_
      subst hr
      obtain ⟨m6, hn6, _⟩ := I6.loc
      have u := I6.base
      have IX : Inv X pins σ H5 s6 := Inv.call' (s' := s6) (ch := fp) I3 I6.os ⟨u.keep, u.slot, u.free, u.there, u.tups, u.frzs, u.tbls⟩ I6.hok I6.bare fun b hb' => ⟨(f3 b hb').2.2.2.1, (f3 b hb').2.1, (f3 b hb').2.2.2.2.1, fun p hp e => (f3 b hb').2.2.2.2.2 p hp e⟩
      refine fin D s3.heap.objs.size H5 s6 IX ⟨I6.free, ⟨m6, hn6⟩, Ne.symm (Nat.ne_of_lt I3.lt), I3.sz, fun x c e z => ?_, fun p hp z => ?_⟩ qn
      · obtain ⟨v, q⟩ := I3.cell x c e
        exact absurd q.lt (by rw [z]; exact Nat.lt_irrefl _)
      · exact absurd (Heap.lt_size (I3.pin p hp).1) (by rw [z]; exact Nat.lt_irrefl _)
    · refine thn (T.item (cxC X N scope cl s3 (upd H2 D (.lst [])) fp) rfl rfl rfl hc i [] s5 σ5 H5 (fun _ _ => False) I5 (stat fr5) st5 go) fun r s6 ⟨u, hr, h6⟩ => ?_
      subst hr
      refine thn h6 fun _ s7 ⟨x, H7, I7, r7, y7, st7, fr7⟩ => ?_
      have I7' := I7.pinned (stat fr7) (T.obj _ _ st7)
      have again : ∀ {σ8 : L2.St} {H8 : Hp} {s8 : Shared} {m' : Nat}, Inv (cxC X N scope cl s3 (upd H2 D (.lst [])) fp) ([] ++ pinsAt fp s7.heap) σ8 H8 s8 → m' < n → W (i + 1) m' σ8 H8 → ∃ m, m < n ∧ ∃ i σ' H', Inv (cxC X N scope cl s3 (upd H2 D (.lst [])) fp) [] σ' H' s8 ∧ tn i s8.heap ∧ (∀ b ∈ fp, H' b = none) ∧ W i m σ' H' := fun {σ8 H8 s8 m'} I8 hm w8 => by
        refine ⟨m', hm, i + 1, σ8, H8, I8.unpinned, T.keep _ _ _ st7 fun b hb' o e => (I8.pin (b, o) (List.mem_append_right _ (List.mem_append_right _ (mem_pinsAt hb' e)))).1, fun b hb' => ?_, w8⟩
        obtain ⟨o, e, d⟩ := T.obj _ _ st7 b hb'
        exact (I8.pin (b, o) (List.mem_append_right _ (List.mem_append_right _ (mem_pinsAt hb' e)))).2.1
      refine thn (hg _ s7 σ5 H7 x u _ I7' r7 (step x H7 y7)) fun _ s8 ⟨σ8, H8, I8, q8⟩ => ?_
      refine thn (ht _ s8 σ8 H8 _ I8 q8) fun ok s9 ⟨H9, I9, q9⟩ => ?_
      cases ok with
      | false =>
        rw [if_neg Bool.false_ne_true] at q9 ⊢
        obtain ⟨m', hm, w9⟩ := q9
        exact again I9 hm w9
      | true =>
        rw [if_pos rfl] at q9 ⊢
        refine thn (he _ s9 σ8 H9 _ I9 q9) fun xv s10 ⟨y, H10, I10, r10, ys, hDy, hz, m', hm, w10⟩ => ?_
        refine thn (mt_append (X := cxC X N scope cl s3 (upd H2 D (.lst [])) fp) _ s10 σ8 H10 (.ref D) [y] (.ref D) [xv] (fun v H' => v = .non ∧ H' = upd H10 D (.lst (ys ++ [y]))) I10 rfl (.cons r10 .nil) ⟨D, ys, y, rfl, rfl, hDy, hz, rfl, rfl⟩) fun _ s11 ⟨v11, H11, I11, _, _, eH⟩ => ?_
        subst eH
        exact again I11 hm w10
  subst hs3
  exact codeAny_compStart_list loop (T.self _ 0 _ _ _ st4 loop)
theorem Gone.inv {pins : List (Addr × Obj)} {H : Hp} {s : Shared} {C : Addr} {σ : L2.St} {h' : Heap} (G : Gone X pins H s C) (I : Inv X pins σ H s) (hsb : Heap.SameBut C s.heap h') : Inv X pins σ H { s with heap := h' } :=
  I.turned (t' := s.toks) (fun b o hb e => (hsb.2 b hb).trans e) G.free G.loc (.inr G.big) G.cel G.pin
theorem pe_comp {tg iter elt : Expr} {ifs : List Expr} {scope : Scope} {pos : Pos} {N : List Str} {cap : List Nat} {nl : Nat} {wi : TI} {g : TG} {tt : TT} {te : TE} (hc : X.calm = true) (hN : X.N.Nodup) (CS : CompScope X.env.scope X.N scope N cap nl) (hi : PI X tg iter wi)
    (hb : ∀ cl s H fp, PG (cxC X N scope cl s H fp) tg g ∧ PTs (cxC X N scope cl s H fp) ifs tt ∧ PE (cxC X N scope cl s H fp) elt te)
    (hs : ∀ x, foldedSetIterable iter X.env x = pure x := by intro _; rfl) : PE X (.ListComp elt [⟨tg, iter, ifs, 0⟩] scope pos) (tComp wi g tt te cap nl) := by
  intro pins s σ H Q I h
  rw [eval_ListComp]
  refine comp_core hc hN CS hi hb hs I h fun D C H5 s6 I6 G q => ?_
  obtain ⟨m6, hn6⟩ := G.ns
  exact ⟨m6, hn6, fun h' hsb => ⟨.ref D, H5, G.inv I6 hsb, rfl, q⟩⟩
/-- name = [..] where the model stores the list ahead of letting the block go -/
theorem ps_acomp {tg iter elt : Expr} {ifs : List Expr} {scope : Scope} {pos spos py : Pos} {N : List Str} {cap : List Nat} {nl : Nat} {wi : TI} {g : TG} {tt : TT} {te : TE} {i : Nat} {y : Str} (hc : X.calm = true) (hN : X.N.Nodup) (CS : CompScope X.env.scope X.N scope N cap nl) (hi : PI X tg iter wi)
    (hb : ∀ cl s H fp, PG (cxC X N scope cl s H fp) tg g ∧ PTs (cxC X N scope cl s H fp) ifs tt ∧ PE (cxC X N scope cl s H fp) elt te)
    (hsw : swapsWith (.ListComp elt [⟨tg, iter, ifs, 0⟩] scope pos) (some (.Name y py)) spos.line X.env = pure true)
    (hy : X.N[i]? = some y) (hx : L2.Loc X.env.scope y) (hf : X.fn y = true ∨ X.env.scope.names.lookup y = some .local)
    (hs : ∀ x, foldedSetIterable iter X.env x = pure x := by intro _; rfl) : PS X (.Assign [.Name y py] (.ListComp elt [⟨tg, iter, ifs, 0⟩] scope pos) spos) (fun D σ H => tComp wi g tt te cap nl σ H fun v H1 => D.nx (σ.set i (some v)) H1) := by
  intro pins s σ H D I h
  rw [exec_Assign_Name_used _ _ _ _ hsw]
  refine wpAny_bind (wpAny_standAt (wpAny_bind ?_))
  show wpAny _ X.A (do let _ ← comprehension (.ListComp elt [⟨tg, iter, ifs, 0⟩] scope pos) scope X.env _ (newList []) false (eval iter X.env) (some (assign (.Name y py) X.env))) _ _ s
  refine wpAny_bind (wpAny_mono (comp_core (use := some (assign (.Name y py) X.env)) (QQ := fun _ s' => SP X pins D .next s') hc hN CS hi hb hs I h fun A C H5 s6 I6 G q => ?_) (fun _ s' hq => wpAny_pure (wpAny_pure hq)) fun _ _ e => e)
  show wpAny _ X.A (assign (.Name y py) X.env (.ref A)) _ _ s6
  refine wpAny_assign_Name (store_ok2 (v := V.ref A) I6 hN hy hx rfl (fun s7 I7 ⟨a, hsb, ha⟩ => ?_) hf)
  have hCa : C ≠ a := by
    rcases ha with e | e
    · rw [e]; exact G.loc
    · exact Ne.symm (G.cel y a e)
  obtain ⟨m6, hn6⟩ := G.ns
  have G7 : Gone X pins H5 s7 C := ⟨G.free, ⟨m6, hn6.sameBut hsb hCa⟩, G.loc, G.big, G.cel, G.pin⟩
  exact ⟨m6, hn6.sameBut hsb hCa, fun h' hs' => ⟨σ.set i (some (.ref A)), H5, G7.inv I7 hs', q⟩⟩
end
end Sd

set_option Elab.async false
set_option linter.all false
set_option maxRecDepth 100000
namespace Sd
open PySem PySem.Spec PyProof.Rows L2
open Ev (D Ob Store Lc R E Sm Calls Walk Fl Fn Bop Cop Ty Bf Mf ev evs evo evt evw tst run runs)
/-! ### comprehensions in the small language -/
section
variable {X : Cx} {xw : Nat → Hp → Prop} {C : Calls} {e a b c tg it : Expr} {i j k : E} {pos p p' p2 : Pos}
def CTs (X : Cx) (xw : Nat → Hp → Prop) (C : Calls) (ifs : List Expr) (is : List E) : Prop := PTs X ifs (tB3 X xw (evt C is))
theorem PTs.imp {X : Cx} {e : List Expr} {t t' : TT} (h : PTs X e t) (k : ∀ σ H Q, t' σ H Q → t σ H Q) : PTs X e t' := fun pins s σ H Q I q => h pins s σ H Q I (k σ H Q q)
theorem cts_nil : CTs X xw C [] [] := PTs.imp pts_nil fun σ H Q ⟨ρ, l, S, st, lr, h⟩ => End.ok (rep := repB) (show End X.K xw repB ρ H Q (.ok true S) from h) st rfl
theorem evt_one (σ : Lc) (S : Store) : evt C [i] σ S = tst C i σ S := by
  show ((ev C i σ S).bind fun x S => (Ev.ob (Ev.truth S x) S).bind fun b S => if b then evt C [] σ S else .ok false S) = (ev C i σ S).bind fun x S => Ev.ob (Ev.truth S x) S
  congr 1
  funext x S
  cases Ev.truth S x with
  | none => rfl
  | some b => cases b <;> rfl
theorem cts_one (h : CT X xw C c i) : CTs X xw C [c] [i] := PTs.imp (pts_one h) fun σ H Q ⟨ρ, l, S, st, lr, h⟩ => ⟨ρ, l, S, st, lr, by rw [← evt_one]; exact h⟩
theorem LocR.caught {ρ : List Addr} {H : Hp} {l : Lc} {σ : L2.St} (lr : LocR ρ H l σ) (cap : List Nat) (nl : Nat) : LocR ρ H (Ev.caught cap nl l) (startC cap nl σ) := by
  refine ⟨by unfold Ev.caught startC; simp, fun n d e => ?_⟩
  unfold Ev.caught at e
  by_cases hn : n < nl
  · rw [List.getElem?_append_left (by simp; exact hn), List.getElem?_replicate, if_pos hn] at e
    cases e
  · rw [List.getElem?_append_right (by simp; omega), List.length_replicate, List.getElem?_map] at e
    unfold startC
    rw [List.getElem?_append_right (by simp; omega), List.length_replicate, List.getElem?_map]
    cases q : cap[n - nl]? with
    | none => rw [q] at e; cases e
    | some m =>
      rw [q] at e
      have e' : (l[m]?).join = some d := Option.some.inj e
      have : l[m]? = some (some d) := by
        cases z : l[m]? with
        | none => rw [z] at e'; cases e'
        | some o => rw [z] at e'; cases o with
          | none => cases e'
          | some w => cases e'; rfl
      obtain ⟨v, hv, r⟩ := lr.val m d this
      exact ⟨v, by show some ((σ[m]?).join) = _; rw [hv]; rfl, r⟩
theorem tcomp_of {is : List E} {ie : E} {cap : List Nat} {nl : Nat} {w : Ev.W} {t : List Nat} {σ : L2.St} {H : Hp} {Q : VK} (hyp : tE X xw (ev C (.comp1 cap nl t w is ie)) σ H Q) : tComp (tW3 X xw (evw C w)) (tG3 X t) (tB3 X xw (evt C is)) (tE X xw (ev C ie)) cap nl σ H Q := by
    obtain ⟨ρ, l, S, st, lr, h⟩ := hyp
    rw [ev] at h
    refine ⟨ρ, l, S, st, lr, h.bind fun wk S1 ρ1 H1 J f1 st1 r1 h1 => fun D hD => ?_⟩
    have st2 : St3 X.K (ρ1 ++ [D]) (S1 ++ [.lst []]) (upd H1 D (.lst [])) := st1.new hD ⟨[], upd_same, Reps.nil⟩
    have f2 : Fut ρ1 H1 (ρ1 ++ [D]) (upd H1 D (.lst [])) := fut_new hD
    have pD : (ρ1 ++ [D])[S1.length]? = some D := by rw [← st1.len]; simp
    let B : Ev.D → Lc → Store → R Lc := fun x σ S2 => (Ev.ob (Ev.assign t x S2 σ) S2).bind fun σ S2 => (evt C is σ S2).bind fun b S2 => if b then (ev C ie σ S2).bind fun y S2 => (Ev.push S1.length y S2).bind fun _ S2 => .ok σ S2 else .ok σ S2
    have h2 : End X.K xw Rep ρ1 H1 Q ((Ev.compL wk B wk.items (Ev.caught cap nl l) (S1 ++ [.lst []])).bind fun _ S2 => .ok (.loc S1.length) S2) := h1
    refine ⟨fun n m σ' H' => m = wk.items.length - n ∧ n ≤ wk.items.length ∧ ∃ ρ' l' S', Fut (ρ1 ++ [D]) (upd H1 D (.lst [])) ρ' H' ∧ St3 X.K ρ' S' H' ∧ LocR ρ' H' l' σ' ∧ End X.K xw Rep ρ' H' Q ((Ev.compL wk B (wk.items.drop n) l' S').bind fun _ S2 => .ok (.loc S1.length) S2),
      ⟨wk.items.length, rfl, Nat.zero_le _, ρ1 ++ [D], Ev.caught cap nl l, S1 ++ [Ob.lst []], Fut.refl _ _, st2, (((lr.mono f1).mono f2).caught cap nl), by rw [List.drop_zero]; exact End.mono f2 h2⟩, ?_⟩
    rintro n m σ' H' ⟨rfl, hn, ρ', l', S', f', st', lr', e'⟩
    by_cases hlt : n < wk.items.length
    · right
      have hd : wk.items.drop n = wk.items[n] :: wk.items.drop (n + 1) := List.drop_eq_getElem_cons hlt
      rw [hd] at e'
      have e2 : End X.K xw Rep ρ' H' Q ((if wk.still S' = true then (B wk.items[n] l' S').bind fun σ S => Ev.compL wk B (wk.items.drop (n + 1)) σ S else .no).bind fun _ S2 => .ok (.loc S1.length) S2) := e'
      by_cases hst : wk.still S' = true
      · rw [if_pos hst] at e2
        obtain ⟨go, yl⟩ := r1.go n ρ' S' H' (f2.trans f') st' hst hlt
        refine ⟨go, fun x H3 y => ?_⟩
        obtain ⟨f3, st3, rp⟩ := yl x H3 y
        have rx := rp _ (List.getElem?_eq_getElem hlt)
        have e3 := End.mono f3 e2
        have ff := f'.trans f3
        cases ha : Ev.assign t wk.items[n] S' l' with
        | none =>
          have z : B wk.items[n] l' S' = .no := by show (Ev.ob (Ev.assign t wk.items[n] S' l') S').bind _ = _; rw [ha]; rfl
          rw [z] at e3
          exact False.elim e3
        | some l2 =>
          have z : B wk.items[n] l' S' = (evt C is l2 S').bind fun b S2 => if b then (ev C ie l2 S2).bind fun y S2 => (Ev.push S1.length y S2).bind fun _ S2 => .ok l2 S2 else .ok l2 S2 := by
            show (Ev.ob (Ev.assign t wk.items[n] S' l') S').bind _ = _; rw [ha]; rfl
          rw [z] at e3
          simp only [bind_assoc3] at e3
          refine ⟨ρ', l', S', wk.items[n], l2, st3, lr'.mono f3, rx, ha, fun σ2 lr2 => ⟨ρ', l2, S', st3, lr2, e3.bind fun ok S4 ρ4 H4 ok' f4 st4 ro h4 => ?_⟩⟩
          have eo : ok = ok' := ro
          subst eo
          cases ok with
          | false =>
            rw [if_neg Bool.false_ne_true]
            exact ⟨wk.items.length - (n + 1), by omega, rfl, hlt, ρ4, l2, S4, ff.trans f4, st4, lr2.mono f4, h4⟩
          | true =>
            rw [if_pos rfl]
            have h5 : End X.K xw Rep ρ4 H4 Q (((ev C ie l2 S4).bind fun y S2 => (Ev.push S1.length y S2).bind fun _ S2 => .ok l2 S2).bind fun a S => (Ev.compL wk B (wk.items.drop (n + 1)) a S).bind fun _ S2 => .ok (.loc S1.length) S2) := h4
            simp only [bind_assoc3] at h5
            refine ⟨ρ4, l2, S4, st4, lr2.mono f4, h5.bind fun y S5 ρ5 H5 v f5 st5 r5 h6 => ?_⟩
            have p5 : ρ5[S1.length]? = some D := f5.at (f4.at (ff.at pD))
            cases q : Ev.lstAt S5 S1.length with
            | none =>
              have z : Ev.push S1.length y S5 = .no := by unfold Ev.push; rw [q]
              rw [z] at h6
              exact False.elim h6
            | some zs =>
              have z : Ev.push S1.length y S5 = if zs.length < Ev.lim then .ok () (S5.set S1.length (.lst (zs ++ [y]))) else .no := by unfold Ev.push; rw [q]
              rw [z] at h6
              by_cases hl : zs.length < Ev.lim
              · rw [if_pos hl] at h6
                obtain ⟨sn, a, xs, pa, hx, rz⟩ := st5.lst q
                rw [p5] at pa; cases pa
                refine ⟨xs, hx, by rw [rz.length, ← lim_eq]; exact hl, wk.items.length - (n + 1), by omega, rfl, hlt, ρ5, l2, S5.set S1.length (.lst (zs ++ [y])), ((ff.trans f4).trans f5).trans (fut_lst hx), st5.wr p5 sn hx (rz.append (Reps.cons r5 Reps.nil)), ((lr2.mono f4).mono f5).mono (fut_lst hx), End.mono (fut_lst hx) h6⟩
              · rw [if_neg hl] at h6
                exact False.elim h6
      · rw [if_neg hst] at e2
        exact False.elim e2
    · left
      have en : n = wk.items.length := by omega
      subst en
      rw [List.drop_length] at e'
      have e2 : End X.K xw Rep ρ' H' Q ((if wk.still S' = true then Ev.R.ok l' S' else .no).bind fun _ S2 => .ok (.loc S1.length) S2) := e'
      by_cases hst : wk.still S' = true
      · rw [if_pos hst] at e2
        exact ⟨r1.stop ρ' S' H' (f2.trans f') st' hst, End.ok (rep := Rep) (show End X.K xw Rep ρ' H' Q (.ok (.loc S1.length) S') from e2) st' (rep_loc (f'.at pD))⟩
      · rw [if_neg hst] at e2
        exact False.elim e2
theorem ce_comp1 {elt : Expr} {ifs : List Expr} {is : List E} {ie : E} {scope : Scope} {N : List Str} {cap : List Nat} {nl : Nat} {w : Ev.W} {t : List Nat} (hc : X.calm = true) (hN : X.N.Nodup) (CS : CompScope X.env.scope X.N scope N cap nl) (hi : CW X xw C tg it w)
    (hb : ∀ cl s H fp, CG (cxC X N scope cl s H fp) tg t ∧ CTs (cxC X N scope cl s H fp) xw C ifs is ∧ CE (cxC X N scope cl s H fp) xw C elt ie)
    (hs : ∀ x, foldedSetIterable it X.env x = pure x := by intro _; rfl) : CE X xw C (.ListComp elt [⟨tg, it, ifs, 0⟩] scope pos) (.comp1 cap nl t w is ie) :=
  PE.imp (pe_comp (g := tG3 X t) (tt := tB3 X xw (evt C is)) (te := tE X xw (ev C ie)) hc hN CS hi (fun cl s H fp => hb cl s H fp) hs) fun σ H Q hyp => tcomp_of hyp
/-- name = [..] -/
theorem cs_acomp {elt : Expr} {ifs : List Expr} {is : List E} {ie : E} {scope : Scope} {N : List Str} {cap : List Nat} {nl : Nat} {w : Ev.W} {t : List Nat} {n : Nat} {y : Str} {spos py : Pos} (hc : X.calm = true) (hN : X.N.Nodup) (CSc : CompScope X.env.scope X.N scope N cap nl) (hi : CW X xw C tg it w)
    (hb : ∀ cl s H fp, CG (cxC X N scope cl s H fp) tg t ∧ CTs (cxC X N scope cl s H fp) xw C ifs is ∧ CE (cxC X N scope cl s H fp) xw C elt ie)
    (hsw : swapsWith (.ListComp elt [⟨tg, it, ifs, 0⟩] scope pos) (some (.Name y py)) spos.line X.env = pure true := by rfl)
    (hy : X.N[n]? = some y := by rfl) (hx : L2.Loc X.env.scope y := by first | exact Or.inl rfl | exact Or.inr rfl) (hf : X.fn y = true ∨ X.env.scope.names.lookup y = some .local := by first | exact .inl rfl | exact .inr rfl)
    (hs : ∀ x, foldedSetIterable it X.env x = pure x := by intro _; rfl) : CS X xw C (.Assign [.Name y py] (.ListComp elt [⟨tg, it, ifs, 0⟩] scope pos) spos) (.asg [n] (.comp1 cap nl t w is ie)) :=
  PS.imp (ps_acomp (g := tG3 X t) (tt := tB3 X xw (evt C is)) (te := tE X xw (ev C ie)) hc hN CSc hi (fun cl s H fp => hb cl s H fp) hsw hy hx hf hs) fun D σ H ⟨ρ, l, S, st, lr, h⟩ =>
    tcomp_of ⟨ρ, l, S, st, lr, EndS.bind (show EndS X.K xw ρ H D ((ev C (.comp1 cap nl t w is ie) l S).bind fun x S => (Ev.ob (Ev.assign [n] x S l) S).bind fun σ S => .ok (.nx σ) S) from h) fun x S1 ρ1 H1 v f1 st1 r1 h1 => by
      obtain ⟨l', hl', h2⟩ := EndS.ob h1
      have e : l.set n (some x) = l' := Option.some.inj hl'
      exact EndS.nx h2 st1 (by rw [← e]; exact (lr.mono f1).set n r1)⟩
end
end Sd

set_option Elab.async false
set_option linter.all false
set_option maxRecDepth 100000
namespace Sd
open PySem PySem.Spec PyProof.Rows L2
open Ev (D Ob Store Lc R E Sm Calls Walk Fl Fn Bop Cop Ty Bf Mf ev evs evo evt evw tst run runs)
/-! ### a def -/
theorem LocR.start {ρ : List Addr} {H : Hp} {ds : List D} {vs : List V} (r : Reps ρ H ds vs) (N : List Str) (n : Nat) (hn : n = N.length) : LocR ρ H (Ev.start n ds) (L2.start N vs) := by
  subst hn
  have hl := r.length
  refine ⟨by unfold Ev.start L2.start; simp [hl], fun i d e => ?_⟩
  unfold Ev.start at e
  by_cases hi : i < ds.length
  · rw [List.getElem?_append_left (by simpa using hi), List.getElem?_map] at e
    cases q : ds[i]? with
    | none => rw [q] at e; cases e
    | some d' =>
      rw [q] at e
      cases e
      obtain ⟨v, hv, r'⟩ := r.get q
      refine ⟨v, ?_, r'⟩
      unfold L2.start
      rw [List.getElem?_append_left (by simp; omega), List.getElem?_map, hv]
      rfl
  · rw [List.getElem?_append_right (by simp; omega), List.getElem?_replicate] at e
    split at e <;> cases e
section
variable {P : Program} {w : World} {K : PySem.W.Frag} {mg : Str → Option Value} {base : Heap}
theorem fn_rule {F : List Fn} {n d : Nat} {fn : Fn} {x qual : Str} {st : Stmt} {f : Addr} {fd : FuncData} {N ps : List Str} {k : Nat} (hF : F[n]? = some fn) (hns : fn.ns = N.length) (hps : fn.ps = ps.length) (Fu : Fun K x qual st f fd) (S : FnScope N ps (defScope st))
    (hb : ∀ (cdv : Value) (A : Around) (outer : List Env) (s : Shared) (H : Hp) (E : XK), Room k (A.deeper (envOfC qual (defScope st) s.heap.objs.size f cdv)) →
      CSs (cxOf CX0 P w K mg base N qual (defScope st) f cdv A outer s H E).nox (fun _ _ => False) (Ev.calls F d) (defBody st) fn.body) :
    FnOk P w K mg base CX0 (k + 1) f fd ps (spF K (Ev.calls F (d + 1)) n) := by
  have eq : ∀ ds S, Ev.calls F (d + 1) n ds S = if ds.length = fn.ps then (runs (Ev.calls F d) fn.body (Ev.start fn.ns ds) S).bind fun f S => match f with
        | .ret x => .ok x S
        | .nx _ => .ok .non S
        | _ => .no
      else .no := fun ds S => by
    rw [Ev.calls, hF]
    all_goals rfl
  refine Fu.ok S (fun vs H Q E ⟨ρ, ds, S, st, r, h⟩ => ?_) fun cdv A outer s H vs Q E hr ⟨ρ, ds, S', st, r, h⟩ => ⟨_, hb cdv A outer s H E hr, ρ, Ev.start fn.ns ds, S', st, LocR.start r N fn.ns hns, ?_⟩
  · rw [eq] at h
    obtain ⟨hl, _⟩ := End.guard h
    rw [r.length, hl, hps]
  · rw [eq] at h
    obtain ⟨hl, h⟩ := End.guard h
    cases q : runs (Ev.calls F d) fn.body (Ev.start fn.ns ds) S' with
    | no => rw [q] at h; exact h
    | ex c S2 => rw [q] at h; exact h
    | ok fl S2 =>
      rw [q] at h
      cases fl with
      | ret x => exact fun ρ' H' v g st r => h ρ' H' v g st r
      | nx l => exact fun ρ' H' σ' g st lr => h ρ' H' .non g st rep_non
      | brk l => exact False.elim h
      | cnt l => exact False.elim h
theorem fn_zero {F : List Fn} {n k : Nat} {f : Addr} {fd : FuncData} {ps : List Str} : FnOk P w K mg base CX0 k f fd ps (spF K (Ev.calls F 0) n) :=
  ⟨fun vs H Q E ⟨ρ, ds, S, st, r, h⟩ => False.elim h, fun A outer s H args us vs Q E hr e0 hb r ⟨ρ, ds, S, st, r', h⟩ => False.elim h⟩
end
end Sd

set_option Elab.async false
set_option linter.all false
set_option maxRecDepth 100000
namespace Sd
open PySem PySem.Spec PyProof.Rows L2
open Ev (D Ob Store Lc R E Sm Calls Walk Fl Fn Bop Cop Ty Bf Mf ev evs evo evt evw tst run runs)
/-! ### t[::-1] -/
section
variable {prog : Program} {w : World} {A : Around} {E : Value → Shared → Prop} {s : Shared}
theorem revPlaces (n : Nat) : Builtin.Slice.slicePlaces ((n : Int) - 1) (-1) (-1) = n := by
  unfold Builtin.Slice.slicePlaces
  have h1 : ¬ ((-1 : Int) > 0) := by decide
  rw [if_neg h1]
  by_cases h : (n : Int) - 1 > -1
  · rw [if_pos h, show (- -1 : Int) = 1 by decide, Int.ediv_one]
    omega
  · rw [if_neg h]
    omega
theorem sliceApplied_rev {sl : Addr} {vk : Value} {n : Nat} {Q : Int × Int × Nat → Shared → Prop} (hs : s.heap.IsSliceOf sl .none .none vk) (pk : IsPart vk (some (-1)))
    (h : Q ((n : Int) - 1, -1, n) s) : wpAny (model prog w) A (Builtin.Slice.sliceApplied (.ref sl) (pure (n : Int))) Q E s := by
  obtain ⟨os, hos, hcs, hds⟩ := id hs
  unfold Builtin.Slice.sliceApplied Builtin.Slice.sliceFields
  refine wpAny_bind (wpAny_bind (wpAny_field hos hds (x := .none) rfl (wpAny_bind (wpAny_field hos hds (x := .none) rfl (wpAny_bind (wpAny_field hos hds (x := vk) rfl (wpAny_pure ?_)))))))
  refine wpAny_bind (HT.slicePart_ pk ?_)
  show wpAny _ _ (if ((-1 : Int) == 0) = true then _ else _) _ _ s
  rw [if_neg (by decide)]
  refine wpAny_bind (slicePart_none (wpAny_bind (slicePart_none (wpAny_bind (wpAny_pure ?_)))))
  show wpAny _ _ (pure ((n : Int) - 1, (-1 : Int), Builtin.Slice.slicePlaces ((n : Int) - 1) (-1) (-1))) _ _ s
  rw [revPlaces]
  exact wpAny_pure h
theorem rev_pick (xs : Array Value) : ((List.range xs.size).filterMap fun (k : Nat) => xs[((xs.size : Int) - 1 + (k : Int) * -1).toNat]?).toArray = xs.toList.reverse.toArray := by
  congr 1
  have e : (List.range xs.size).filterMap (fun (k : Nat) => xs[((xs.size : Int) - 1 + (k : Int) * -1).toNat]?) = ((List.range xs.size).map fun k => xs.size - 1 - k).filterMap (xs[·]?) := by
    rw [List.filterMap_map]
    congr 1
    funext k
    have : ((xs.size : Int) - 1 + (k : Int) * -1).toNat = xs.size - 1 - k := by omega
    rw [this]
    rfl
  rw [e, PySem.W.krv_range, List.filterMap_reverse, PySem.W.krv_all]
theorem getItem_tuple_rev {t sl : Addr} {items : Array Value} {vk : Value} {Q : Value → Shared → Prop} (ht : IsTup s.heap t items) (hs : s.heap.IsSliceOf sl .none .none vk) (pk : IsPart vk (some (-1)))
    (h : Q (.ref s.heap.objs.size) { s with heap := s.heap.push { cls := .type "tuple", data := .seq items.toList.reverse.toArray } })
    (hsz : items.size ≤ sizeLine) : wpAny (model prog w) A (getItem (.ref t) (.ref sl)) Q E s := by
  have htake : sizeOk (.seq items.toList.reverse.toArray) := by
    show items.toList.reverse.toArray.size ≤ sizeLine
    rw [List.size_toArray, List.length_reverse, Array.length_toList]
    exact hsz
  obtain ⟨os, hos, hcs, hds⟩ := id hs
  have hTs : s.TypeIs (.ref sl) "slice" := ⟨os, hos, hcs⟩
  unfold getItem
  try with_reducible refine wpAny_holding ?_
  first | refine wpAny_bind (wpAny_pure ?_) | skip
  refine wpAny_bind (wpAny_sequenceKey ht.typeIs (by decide) ?_)
  refine wpAny_bind (wpAny_callSpecial?_slot (name := Str.ofString "__getitem__") ht.typeIs PyProof.Rows.slot_tuple_getitem
    (wpAny_call_entry PyProof.Rows.slot_tuple_getitem ht.typeIs entry_tuple_getitem ?_ (args_tuple_getitem _ _)))
  show wpAny _ _ (Builtin.Tuple.tupleItemsOf (.ref t) >>= _) _ _ s
  refine wpAny_bind (tupleItemsOf_ ht ?_)
  refine wpAny_bind (wpAny_typeOf hTs ?_)
  rw [if_pos (by decide)]
  refine wpAny_bind (sliceApplied_rev hs pk ?_)
  have hno : ¬ (((items.size : Int) - 1 == 0 && (-1 : Int) == 1 && items.size == items.size) = true) := by
    intro q
    rw [Bool.and_eq_true, Bool.and_eq_true] at q
    exact absurd q.1.2 (by decide)
  show wpAny _ _ (if ((items.size : Int) - 1 == 0 && (-1 : Int) == 1 && items.size == items.size) = true then _ else _) _ _ s
  rw [if_neg hno, rev_pick]
  first
    | exact wpAny_bind (m := Builtin.Tuple.tupleExact _) (wpAny_newObj_type (wpAny_pure ⟨_, rfl, wpAny_pure h⟩) htake)
    | exact wpAny_bind (m := Builtin.Tuple.tupleExact _) (wpAny_newObj_type (wpAny_bind (wpAny_pure (wpAny_pure ⟨_, rfl, wpAny_pure h⟩))) htake)
    | exact wpAny_bind (wpAny_bind (m := Builtin.Tuple.tupleExact _) (wpAny_newObj_type (wpAny_pure (wpAny_pure ⟨_, rfl, wpAny_pure h⟩)) htake))
    | exact wpAny_bind (wpAny_bind (m := Builtin.Tuple.tupleExact _) (wpAny_newObj_type (wpAny_pure ⟨_, rfl, wpAny_pure h⟩) htake))
end
section
variable {X : Cx} {xw : Nat → Hp → Prop} {C : Calls} {e a b c tg it : Expr} {i j k : E} {pos p p' p2 p3 : Pos} {q1 : Option Str}
theorem ce_rev {e1 : Expr} (ha : CE X xw C a i) (h1 : CE X xw C e1 (.neg (.c (.int 1)))) : CE X xw C (.Subscript a (.Slice none none (some e1) p2) pos) (.rev i) := by
  intro pins s σ H Q I hq
  obtain ⟨ρ, l, S, st, lr, h⟩ := hq
  have h' : End X.K xw Rep ρ H Q ((ev C i l S).bind fun x S => Ev.reversed x S) := h
  refine Subscript_ (thn (ha pins s σ H (fun x H1 => ∃ ρ1 S1 d, St3 X.K ρ1 S1 H1 ∧ LocR ρ1 H1 l σ ∧ Rep ρ1 H1 d x ∧ End X.K xw Rep ρ1 H1 Q (Ev.reversed d S1)) I ⟨ρ, l, S, st, lr, h'.bind fun d S1 ρ1 H1 v f1 st1 r1 h1 => ⟨ρ1, S1, d, st1, lr.mono f1, r1, h1⟩⟩) fun v s1 ⟨x, H1, I1, r1, ρ1, S1, d, st1, lr1, rd, h2⟩ => ?_)
  refine wpAny_Slice ?_
  rw [evalPart_none]
  refine wpAny_pure (wpAny_pure ?_)
  rw [evalPart_some]
  refine thn (h1 pins s1 σ H1 (fun y H2 => y = .int (-1) ∧ ∃ ρ2, Fut ρ1 H1 ρ2 H2 ∧ St3 X.K ρ2 S1 H2) I1 ⟨ρ1, l, S1, st1, lr1, fun ρ2 H2 y f2 st2 ry => ⟨ry.int', ρ2, f2, st2⟩⟩) fun vk s2 ⟨y, H2, I2, ry, ey, ρ2, f2, st2⟩ => ?_
  subst ey
  obtain ⟨t, rfl⟩ := ry
  have rd2 := rd.mono f2
  have h3 := End.mono f2 h2
  cases d with
  | tup ds =>
    obtain ⟨q, xs, rfl, hp, rs⟩ := rd2.tup'
    cases r1
    have I4 : Inv X pins σ H2 { s2 with heap := s2.heap.push { cls := .type "slice", data := .fields #[.none, .none, .int (-1) t] } } := I2.kept (t' := s2.toks) fun b ob q => Heap.get?_push_of_some _ q
    obtain ⟨its, r, ht, hz⟩ := I4.tuple (SqT.of hp)
    have hlen : its.toArray.size = xs.length := by rw [List.size_toArray]; exact r.length.symm
    show wpAny (model X.prog X.w) X.A (subscriptTail a (.Slice none none (some e1) p2) (.ref q) (.ref s2.heap.objs.size)) (EP X pins σ Q) X.xe { s2 with heap := s2.heap.push { cls := .type "slice", data := .fields #[.none, .none, .int (-1) t] } }
    refine tail_any (ops := [.ref q, .ref s2.heap.objs.size]) ht.typeIs PyProof.Rows.slot_tuple_getitem.lookup ?_ (by with_unfolding_all rfl)
    refine getItem_tuple_rev ht (Heap.IsSliceOf.new ..) (IsPart.int _ _) ?_ (by rw [hlen]; exact hz)
    refine ⟨.ref _, _, I4.laid (t' := s2.toks) (o := .tup xs.reverse) (fun b ob q => Heap.get?_push_of_some _ q) (Nat.le_refl _) ⟨by rw [List.length_reverse]; exact hz, _, r.reverse, IsTup.new _ _⟩, rfl, h3.newT st2 rs.reverse _ (I4.hok.fresh (Nat.le_refl _))⟩
  | _ => exact False.elim h3
end
end Sd

set_option Elab.async false
set_option linter.all false
set_option maxRecDepth 100000
namespace Sd
open PySem PySem.Spec PyProof.Rows L2
open Ev (D Ob Store Lc R E Sm Calls Walk Fl Fn Bop Cop Ty Bf Mf ev evs evo evt evw tst run runs)
/-! ### an argument that is no starred one -/
section
variable {es : List Expr} {env : Env}
theorem se_const {a b c} : starEach (.Constant a b c :: es) env = (false, eval (.Constant a b c) env) :: starEach es env := rfl
theorem se_name {a b} : starEach (.Name a b :: es) env = (false, eval (.Name a b) env) :: starEach es env := rfl
theorem se_tup {a b c} : starEach (.Tuple a b c :: es) env = (false, eval (.Tuple a b c) env) :: starEach es env := rfl
theorem se_lst {a b} : starEach (.List a b :: es) env = (false, eval (.List a b) env) :: starEach es env := rfl
theorem se_dict {a b c} : starEach (.Dict a b c :: es) env = (false, eval (.Dict a b c) env) :: starEach es env := rfl
theorem se_bin {a b c d} : starEach (.BinOp a b c d :: es) env = (false, eval (.BinOp a b c d) env) :: starEach es env := rfl
theorem se_un {a b c} : starEach (.UnaryOp a b c :: es) env = (false, eval (.UnaryOp a b c) env) :: starEach es env := rfl
theorem se_bool {a b c} : starEach (.BoolOp a b c :: es) env = (false, eval (.BoolOp a b c) env) :: starEach es env := rfl
theorem se_cmp {a b c d} : starEach (.Compare a b c d :: es) env = (false, eval (.Compare a b c d) env) :: starEach es env := rfl
theorem se_sub {a b c} : starEach (.Subscript a b c :: es) env = (false, eval (.Subscript a b c) env) :: starEach es env := rfl
theorem se_call {a b c d} : starEach (.Call a b c d :: es) env = (false, eval (.Call a b c d) env) :: starEach es env := rfl
theorem se_comp {a b c d} : starEach (.ListComp a b c d :: es) env = (false, eval (.ListComp a b c d) env) :: starEach es env := rfl
theorem se_ite {a b c d} : starEach (.IfExp a b c d :: es) env = (false, eval (.IfExp a b c d) env) :: starEach es env := rfl
end
/-! ### a table of the module; the head -/
def TabLit : List DictEntry → List (Int × Int) → Prop
  | [], [] => True
  | e :: r, (k, j) :: q => (∃ t, e.key = .int k t) ∧ e.hash = hashInt k ∧ (∃ u, e.val = .int j u) ∧ TabLit r q
  | _, _ => False
theorem TabLit.mem {P : Program} {w : World} : ∀ {es : List DictEntry} {tab : List (Int × Int)}, TabLit es tab → ∀ e ∈ es, ∃ k, (intKind P w).is k e.key = true ∧ e.hash = (intKind P w).hash k
  | [], _, _, e, h => by cases h
  | e :: r, [], h, _, _ => h.elim
  | e :: r, (k, j) :: q, h, x, hx => by
    obtain ⟨⟨t, h1⟩, h2, _, h4⟩ := h
    rcases List.mem_cons.mp hx with rfl | hx
    · exact ⟨k, by rw [h1]; exact intKind_is P w k t, h2⟩
    · exact TabLit.mem h4 x hx
theorem TabLit.find {P : Program} {w : World} (k : Int) : ∀ {es : List DictEntry} {tab : List (Int × Int)}, TabLit es tab → (tab.lookup k = none → (es.find? fun e => (intKind P w).is k e.key) = none) ∧ ∀ j, tab.lookup k = some j → ∃ e t, (es.find? fun e => (intKind P w).is k e.key) = some e ∧ e.val = .int j t
  | [], [], _ => ⟨fun _ => rfl, fun j h => by cases h⟩
  | [], _ :: _, h => h.elim
  | e :: r, [], h => h.elim
  | e :: r, (k', j') :: q, h => by
    obtain ⟨⟨t, h1⟩, h2, ⟨u, h3⟩, h4⟩ := h
    obtain ⟨i1, i2⟩ := TabLit.find (P := P) (w := w) k h4
    rw [List.lookup_cons, List.find?_cons]
    have hd : (intKind P w).is k e.key = decide (k = k') := KeyKind.is_eq_decide (by rw [h1]; exact intKind_is P w k' t) k
    rw [hd]
    by_cases z : k = k'
    · subst z
      rw [beq_self_eq_true, decide_eq_true rfl]
      exact ⟨fun z => (by cases z), fun j z => (by cases z; exact ⟨e, u, rfl, h3⟩)⟩
    · rw [beq_eq_false_iff_ne.mpr z, decide_eq_false z]
      exact ⟨i1, i2⟩
theorem tabK_of {P : Program} {w : World} {K : PySem.W.Frag} {a : Addr} {es : Array DictEntry} {n : Nat} {tab : List (Int × Int)} (hl : K.lookup a = some ⟨.type "dict", none, .dict es n, #[]⟩) (ht : TabLit es.toList tab) (ha : (a == sysModules) = false) : TabK P w K a tab := by
  refine ⟨ha, fun k => findBy (intKind P w).is es k, fun h X => ⟨_, es, n, X _ _ hl, ⟨rfl, rfl, rfl⟩, rfl, fun e he => ht.mem e (Array.mem_toList_iff.mpr he), fun _ => rfl⟩, fun k => ?_⟩
  obtain ⟨l⟩ := es
  obtain ⟨i1, i2⟩ := TabLit.find (P := P) (w := w) k ht
  refine ⟨fun z => ?_, fun j z => ?_⟩
  · show ((l.toArray.find? fun e => (intKind P w).is k e.key).map (·.val)) = none
    rw [List.find?_toArray, i1 z]
    rfl
  · obtain ⟨e, t, q1, q2⟩ := i2 j z
    refine ⟨t, ?_⟩
    show ((l.toArray.find? fun e => (intKind P w).is k e.key).map (·.val)) = _
    rw [List.find?_toArray, q1]
    exact congrArg some q2
theorem hu7 {k : Nat} {A : Around} (hr : Room k A) : A.units + 7 < cLine := Nat.lt_of_le_of_lt (by omega) hr.un
/-- the law's promise, from its run in the small language -/
theorem sp_law {K : PySem.W.Frag} {C : Calls} {n : Nat} {H : Hp} {a : Addr} {ns : List Int} (hO : Only H) (hS : SqL K H a (ns.map V.int)) (h : ∃ S', C n [.loc 0] [.scr ns] = .ok (.bl true) S') : spF K C n [.ref a] H (fun v _ => v = .bl true) fun _ _ _ => False := by
  obtain ⟨S', e⟩ := h
  refine ⟨[a], [.loc 0], [.scr ns], ⟨rfl, fun m k b h1 h2 hm => ?_, fun m o b h1 h2 => ?_⟩, Reps.cons (rep_loc rfl) Reps.nil, ?_⟩
  · have l1 := (List.getElem?_eq_some_iff.mp h1).1
    have l2 := (List.getElem?_eq_some_iff.mp h2).1
    simp at l1 l2
    omega
  · have l1 := (List.getElem?_eq_some_iff.mp h1).1
    have e0 : m = 0 := by simp at l1; exact l1
    subst e0
    cases h1
    cases h2
    show Scr K H a ns
    rcases hS with (hS | hS) | hS
    · rcases hO a with z | ⟨o, xs, z⟩
      · rw [z] at hS; cases hS
      · rw [z] at hS; cases hS
    · exact .inl hS
    · exact .inr hS
  · rw [e]
    exact fun ρ' H' v _ _ r => r.bl'
end Sd

set_option Elab.async false
set_option linter.all false
set_option maxRecDepth 100000
/-! ### the judgements boxed -/
namespace Wr
open PySem PySem.Spec PyProof.Rows L2
open Ev (D Ob Store Lc R E Sm Calls Walk Fl Fn Bop Cop Ty Bf Mf ev evs evo evt evw tst run runs)
structure CE (X : Cx) (xw : Nat → Hp → Prop) (C : Calls) (e : Expr) (i : E) : Prop where h : Sd.CE X xw C e i
structure CT (X : Cx) (xw : Nat → Hp → Prop) (C : Calls) (e : Expr) (i : E) : Prop where h : Sd.CT X xw C e i
structure CWh (X : Cx) (xw : Nat → Hp → Prop) (C : Calls) (e : Expr) (i : E) : Prop where h : Sd.CWh X xw C e i
structure CA (X : Cx) (xw : Nat → Hp → Prop) (C : Calls) (e : List Expr) (i : List E) : Prop where h : Sd.CA X xw C e i
structure CO (X : Cx) (xw : Nat → Hp → Prop) (C : Calls) (e : Option Expr) (i : Option E) : Prop where h : Sd.CO X xw C e i
structure CS (X : Cx) (xw : Nat → Hp → Prop) (C : Calls) (e : Stmt) (i : Sm) : Prop where h : Sd.CS X xw C e i
structure CSs (X : Cx) (xw : Nat → Hp → Prop) (C : Calls) (e : List Stmt) (i : List Sm) : Prop where h : Sd.CSs X xw C e i
structure CTs (X : Cx) (xw : Nat → Hp → Prop) (C : Calls) (e : List Expr) (i : List E) : Prop where h : Sd.CTs X xw C e i
structure CG (X : Cx) (e : Expr) (i : List Nat) : Prop where h : Sd.CG X e i
structure CGs (X : Cx) (e : List Expr) (i : List Nat) : Prop where h : Sd.CGs X e i
structure CW (X : Cx) (xw : Nat → Hp → Prop) (C : Calls) (tg it : Expr) (w : Ev.W) : Prop where h : Sd.CW X xw C tg it w
open Sd (CmpOk rBlt TabK spF tyName CompScope cxC)
section
variable {X : Cx} {xw : Nat → Hp → Prop} {C : Calls} {e a b c tg it : Expr} {i j k : E} {pos p p' p2 p3 : Pos} {s0 : Stmt} {ss : List Stmt} {m0 : Sm} {ms ms' : List Sm}
theorem CWh.ct (h : Wr.CWh X xw C e i) : Wr.CT X xw C e i := ⟨Sd.CWh.ct h.h⟩
theorem ce_int {n : Int} {q} : Wr.CE X xw C (.Constant (.int n) q pos) (.c (.int n)) := ⟨Sd.ce_int ⟩
theorem ce_bl {n : Bool} {q} : Wr.CE X xw C (.Constant (.bool n) q pos) (.c (.bl n)) := ⟨Sd.ce_bl ⟩
theorem ce_non {q} : Wr.CE X xw C (.Constant .none q pos) (.c .non) := ⟨Sd.ce_non ⟩
theorem ce_str {x : Str} {q} : Wr.CE X xw C (.Constant (.str x) q pos) (.c (.str x)) := ⟨Sd.ce_str ⟩
theorem ce_v (n : Nat) {x : Str} (hN : X.N[n]? = some x := by rfl) (hv : Vis X.env.scope x := by first | exact Or.inl rfl | exact Or.inr (Or.inl rfl) | exact Or.inr (Or.inr rfl)) (hd : (x == ("__debug__" : Str)) = false := by decide)
    (hcd : (x == ("__classdict__" : Str)) = false := by decide) : Wr.CE X xw C (.Name x pos) (.v n) := ⟨Sd.ce_v (n := n) (hN := hN) (hv := hv) (hd := hd) (hcd := hcd)⟩
theorem ce_tup {es : List Expr} {is : List E} {q} (h : Wr.CA X xw C es is) : Wr.CE X xw C (.Tuple es q pos) (.tup is) := ⟨Sd.ce_tup (h := h.h)⟩
theorem ce_lst {es : List Expr} {is : List E} (h : Wr.CA X xw C es is) : Wr.CE X xw C (.List es pos) (.lst is) := ⟨Sd.ce_lst (h := h.h)⟩
theorem ce_dnew : Wr.CE X xw C (.Dict [] [] pos) .dnew := ⟨Sd.ce_dnew ⟩
theorem ce_add (ha : Wr.CE X xw C a i) (hb : Wr.CE X xw C b j) : Wr.CE X xw C (.BinOp a .Add b pos) (.bin .add i j) := ⟨Sd.ce_add (ha := ha.h) (hb := hb.h)⟩
theorem ce_sub (ha : Wr.CE X xw C a i) (hb : Wr.CE X xw C b j) : Wr.CE X xw C (.BinOp a .Sub b pos) (.bin .sub i j) := ⟨Sd.ce_sub (ha := ha.h) (hb := hb.h)⟩
theorem ce_mul (ha : Wr.CE X xw C a i) (hb : Wr.CE X xw C b j) : Wr.CE X xw C (.BinOp a .Mult b pos) (.bin .mul i j) := ⟨Sd.ce_mul (ha := ha.h) (hb := hb.h)⟩
theorem ce_fdiv (ha : Wr.CE X xw C a i) (hb : Wr.CE X xw C b j) : Wr.CE X xw C (.BinOp a .FloorDiv b pos) (.bin .fdiv i j) := ⟨Sd.ce_fdiv (ha := ha.h) (hb := hb.h)⟩
theorem ce_mod (ha : Wr.CE X xw C a i) (hb : Wr.CE X xw C b j) : Wr.CE X xw C (.BinOp a .Mod b pos) (.bin .mod i j) := ⟨Sd.ce_mod (ha := ha.h) (hb := hb.h)⟩
theorem ce_pow (ha : Wr.CE X xw C a i) (hb : Wr.CE X xw C b j) : Wr.CE X xw C (.BinOp a .Pow b pos) (.bin .pow i j) := ⟨Sd.ce_pow (ha := ha.h) (hb := hb.h)⟩
theorem ce_neg (ha : Wr.CE X xw C a i) : Wr.CE X xw C (.UnaryOp .USub a pos) (.neg i) := ⟨Sd.ce_neg (ha := ha.h)⟩
theorem ce_not (ha : Wr.CE X xw C a i) : Wr.CE X xw C (.UnaryOp .Not a pos) (.not i) := ⟨Sd.ce_not (ha := ha.h)⟩
theorem ce_and {rest : List Expr} (ha : Wr.CE X xw C a i) (hb : Wr.CE X xw C (.BoolOp .And (b :: rest) pos) j) : Wr.CE X xw C (.BoolOp .And (a :: b :: rest) pos) (.and i j) := ⟨Sd.ce_and (ha := ha.h) (hb := hb.h)⟩
theorem ce_or {rest : List Expr} (ha : Wr.CE X xw C a i) (hb : Wr.CE X xw C (.BoolOp .Or (b :: rest) pos) j) : Wr.CE X xw C (.BoolOp .Or (a :: b :: rest) pos) (.or i j) := ⟨Sd.ce_or (ha := ha.h) (hb := hb.h)⟩
theorem ce_one {op} (ha : Wr.CE X xw C a i) : Wr.CE X xw C (.BoolOp op [a] pos) i := ⟨Sd.ce_one (ha := ha.h)⟩
theorem ce_ite (hc : Wr.CT X xw C c k) (ha : Wr.CE X xw C a i) (hb : Wr.CE X xw C b j) : Wr.CE X xw C (.IfExp c a b pos) (.ite k i j) := ⟨Sd.ce_ite (hc := hc.h) (ha := ha.h) (hb := hb.h)⟩
theorem ce_inT {tb : Addr} {tab : List (Int × Int)} {x : Str} (T : TabK X.prog X.w X.K tb tab) (hm : X.mg x = some (.ref tb)) (ha : Wr.CE X xw C a i) (hg : Gl X x := by rfl) (hd : (x == ("__debug__" : Str)) = false := by decide) (hmk : behindInMarks .In (.Name x p) = false := by first | rfl | (with_unfolding_all rfl)) :
    Wr.CE X xw C (.Compare a [.In] [.Name x p] pos) (.inT i tab) := ⟨Sd.ce_inT (T := T) (hm := hm) (ha := ha.h) (hg := hg) (hd := hd) (hmk := hmk)⟩
theorem ce_cmp {op : CmpOp} {o : Cop} (hc : CmpOk X xw op o) (ha : Wr.CE X xw C a i) (hb : Wr.CE X xw C b j) (hm : behindInMarks op b = false := by first | exact nomark _ | rfl | (with_unfolding_all rfl)) : Wr.CE X xw C (.Compare a [op] [b] pos) (.cmp o i j) := ⟨Sd.ce_cmp (hc := hc) (ha := ha.h) (hb := hb.h) (hm := hm)⟩
theorem ce_chain {op op' : CmpOp} {o o' : Cop} {d : Expr} {k : E} (hc : CmpOk X xw op o) (hc' : CmpOk X xw op' o') (ha : Wr.CE X xw C a i) (hb : Wr.CE X xw C b j) (hd : Wr.CE X xw C d k)
    (hm : lastMarks [op, op'] [b, d] = false := by with_unfolding_all rfl) : Wr.CE X xw C (.Compare a [op, op'] [b, d] pos) (.chain o o' i j k) := ⟨Sd.ce_chain (hc := hc) (hc' := hc') (ha := ha.h) (hb := hb.h) (hd := hd.h) (hm := hm)⟩
theorem ce_rev {e1 : Expr} (ha : Wr.CE X xw C a i) (h1 : Wr.CE X xw C e1 (.neg (.c (.int 1)))) : Wr.CE X xw C (.Subscript a (.Slice none none (some e1) p2) pos) (.rev i) := ⟨Sd.ce_rev (ha := ha.h) (h1 := h1.h)⟩
theorem ce_sl {lo hi : Option Expr} {il ih : Option E} (ha : Wr.CE X xw C a i) (hl : Wr.CO X xw C lo il) (hh : Wr.CO X xw C hi ih) : Wr.CE X xw C (.Subscript a (.Slice lo hi none p2) pos) (.sl i il ih) := ⟨Sd.ce_sl (ha := ha.h) (hl := hl.h) (hh := hh.h)⟩
theorem ce_getT {tb : Addr} {tab : List (Int × Int)} {x : Str} (T : TabK X.prog X.w X.K tb tab) (hm : X.mg x = some (.ref tb)) (ha : Wr.CE X xw C a i) (hg : Gl X x := by rfl) (hd : (x == ("__debug__" : Str)) = false := by decide) (hs : NoSl a := by intros; with_unfolding_all rfl) :
    Wr.CE X xw C (.Subscript (.Name x p) a pos) (.getT tab i) := ⟨Sd.ce_getT (T := T) (hm := hm) (ha := ha.h) (hg := hg) (hd := hd) (hs := hs)⟩
theorem ce_ix (ha : Wr.CE X xw C a i) (hb : Wr.CE X xw C b j) (hs : PlainIx b := by intro _ _; with_unfolding_all rfl) : Wr.CE X xw C (.Subscript a b pos) (.ix i j) := ⟨Sd.ce_ix (ha := ha.h) (hb := hb.h) (hs := hs)⟩
theorem ce_call {n kk : Nat} {f : Addr} {fd : FuncData} {ps : List Str} {x : Str} {es : List Expr} {is : List E} (F : FnOk X.prog X.w X.K X.mg X.base CX0 kk f fd ps (spF X.K C n)) (hr : Room kk X.A) (hm : X.mg x = some (.ref f)) (hk : PySem.W.keepIn X.K (.ref f) = true) (hb : Binds X.K fd ps [])
    (ha : Wr.CA X (fun _ _ => False) C (e :: es) is) (hg : Gl X x := by rfl) (hdb : (x == ("__debug__" : Str)) = false := by decide) (he : starEach (e :: es) X.env = (false, eval e X.env) :: starEach es X.env := by rfl) (hpl : (backTo pos (starEach es X.env)).any (·.1) = false := by rfl) :
    Wr.CE X (fun _ _ => False) C (.Call (.Name x p) (e :: es) [] pos) (.call n is) := ⟨Sd.ce_call (F := F) (hr := hr) (hm := hm) (hk := hk) (hb := hb) (ha := ha.h) (hg := hg) (hdb := hdb) (he := he) (hpl := hpl)⟩
theorem ce_isi {T : Str} {t : Ty} (ht : ∀ m, t ≠ .cls m) (hm : X.mg "isinstance" = none) (hmT : X.mg T = none) (ha : Wr.CE X xw C a i) (hg : Gl X "isinstance" := by rfl) (hgT : Gl X T := by rfl) (hvT : bootBuiltins T = some (.type (tyName t)) := by rfl) (hnT : T ≠ "__name__" := by decide) (hdT : (T == ("__debug__" : Str)) = false := by decide)
    (hs1 : starEach [a, .Name T p2] X.env = (false, eval a X.env) :: starEach [.Name T p2] X.env := by rfl) (hs2 : starEach [.Name T p2] X.env = (false, eval (.Name T p2) X.env) :: starEach [] X.env := by rfl) (hpl : (backTo pos (starEach [.Name T p2] X.env)).any (·.1) = false := by rfl) :
    Wr.CE X xw C (.Call (.Name "isinstance" p) [a, .Name T p2] [] pos) (.isi i [t]) := ⟨Sd.ce_isi (ht := ht) (hm := hm) (hmT := hmT) (ha := ha.h) (hg := hg) (hgT := hgT) (hvT := hvT) (hnT := hnT) (hdT := hdT) (hs1 := hs1) (hs2 := hs2) (hpl := hpl)⟩
theorem ce_bltB {f : Bf} {id : String} {x : Str} {es : List Expr} {is : List E} (hc : CallR X (.builtin id) (rBlt X.K xw f)) (hm : X.mg x = none) (ha : Wr.CA X xw C (e :: es) is) (hg : Gl X x := by rfl) (hv : bootBuiltins x = some (.builtin id) := by rfl) (hn : x ≠ "__name__" := by decide) (hdb : (x == ("__debug__" : Str)) = false := by decide)
    (he : starEach (e :: es) X.env = (false, eval e X.env) :: starEach es X.env := by rfl) (hpl : (backTo pos (starEach es X.env)).any (·.1) = false := by rfl) : Wr.CE X xw C (.Call (.Name x p) (e :: es) [] pos) (.blt f is) := ⟨Sd.ce_bltB (hc := hc) (hm := hm) (ha := ha.h) (hg := hg) (hv := hv) (hn := hn) (hdb := hdb) (he := he) (hpl := hpl)⟩
theorem ce_bltT {f : Bf} {id : String} {x : Str} {es : List Expr} {is : List E} (hc : CallR X (.type id) (rBlt X.K xw f)) (hm : X.mg x = none) (ha : Wr.CA X xw C (e :: es) is) (hg : Gl X x := by rfl) (hv : bootBuiltins x = some (.type id) := by rfl) (hn : x ≠ "__name__" := by decide) (hdb : (x == ("__debug__" : Str)) = false := by decide)
    (he : starEach (e :: es) X.env = (false, eval e X.env) :: starEach es X.env := by rfl) (hpl : (backTo pos (starEach es X.env)).any (·.1) = false := by rfl) : Wr.CE X xw C (.Call (.Name x p) (e :: es) [] pos) (.blt f is) := ⟨Sd.ce_bltT (hc := hc) (hm := hm) (ha := ha.h) (hg := hg) (hv := hv) (hn := hn) (hdb := hdb) (he := he) (hpl := hpl)⟩
theorem ce_append {o : Expr} {io : E} {apos cpos : Pos} (ho : Wr.CE X xw C o io) (ha : Wr.CA X xw C [e] [i])
    (hbase : attributeBase o "append" X.env (eval o X.env) = eval o X.env := by rfl)
    (hfew : ((backTo cpos (starEach [e] X.env)).all (fun x => !x.1) && (backToKw cpos (keywordEach [] X.env)).all (fun x => x.1.isSome)
      && decide (([e] : List Expr).length + ([] : List Keyword).length + (if ([] : List Keyword).isEmpty then 0 else 1) < 30)) = true := by rfl)
    (hline : (apos.endLine == cpos.line) = true := by rfl) (hs : starEach [e] X.env = (false, eval e X.env) :: starEach [] X.env := by rfl) (hplain : (backTo cpos (starEach [] X.env)).any (·.1) = false := by rfl) :
    Wr.CE X xw C (.Call (.Attribute o "append" apos) [e] [] cpos) (.mt .append io [i]) := ⟨Sd.ce_append (ho := ho.h) (ha := ha.h) (hbase := hbase) (hfew := hfew) (hline := hline) (hs := hs) (hplain := hplain)⟩
theorem ca_nil : Wr.CA X xw C [] [] := ⟨Sd.ca_nil ⟩
theorem ca_cons {es : List Expr} {is : List E} (ha : Wr.CE X xw C e i) (hr : Wr.CA X xw C es is) (hs : starEach (e :: es) X.env = (false, eval e X.env) :: starEach es X.env := by rfl) : Wr.CA X xw C (e :: es) (i :: is) := ⟨Sd.ca_cons (ha := ha.h) (hr := hr.h) (hs := hs)⟩
theorem co_none : Wr.CO X xw C none none := ⟨Sd.co_none ⟩
theorem co_some (h : Wr.CE X xw C e i) : Wr.CO X xw C (some e) (some i) := ⟨Sd.co_some (h := h.h)⟩
theorem ct_not (ha : Wr.CT X xw C a i) : Wr.CT X xw C (.UnaryOp .Not a pos) (.not i) := ⟨Sd.ct_not (ha := ha.h)⟩
theorem ct_cmp {op : CmpOp} {o : Cop} (hc : CmpOk X xw op o) (ha : Wr.CE X xw C a i) (hb : Wr.CE X xw C b j) (hm : behindInMarks op b = false := by first | exact nomark _ | rfl | (with_unfolding_all rfl)) : Wr.CT X xw C (.Compare a [op] [b] pos) (.cmp o i j) := ⟨Sd.ct_cmp (hc := hc) (ha := ha.h) (hb := hb.h) (hm := hm)⟩
theorem ct_val (ha : Wr.CE X xw C a i) (he : ∀ whole, isTrue a X.env whole = (do let v ← whole; standAt a.pos; holding [v] (truthy v)) := by intro _; rfl) : Wr.CT X xw C a i := ⟨Sd.ct_val (ha := ha.h) (he := he)⟩
theorem cw_and {rest : List Expr} (ha : Wr.CT X xw C a i) (hb : Wr.CWh X xw C (.BoolOp .And (b :: rest) pos) j) : Wr.CWh X xw C (.BoolOp .And (a :: b :: rest) pos) (.and i j) := ⟨Sd.cw_and (ha := ha.h) (hb := hb.h)⟩
theorem cw_or {rest : List Expr} (ha : Wr.CT X xw C a i) (hb : Wr.CWh X xw C (.BoolOp .Or (b :: rest) pos) j) : Wr.CWh X xw C (.BoolOp .Or (a :: b :: rest) pos) (.or i j) := ⟨Sd.cw_or (ha := ha.h) (hb := hb.h)⟩
theorem cw_and1 (ha : Wr.CT X xw C a i) : Wr.CWh X xw C (.BoolOp .And [a] pos) i := ⟨Sd.cw_and1 (ha := ha.h)⟩
theorem cw_or1 (ha : Wr.CT X xw C a i) : Wr.CWh X xw C (.BoolOp .Or [a] pos) i := ⟨Sd.cw_or1 (ha := ha.h)⟩
theorem cts_nil : Wr.CTs X xw C [] [] := ⟨Sd.cts_nil ⟩
theorem cts_one (h : Wr.CT X xw C c i) : Wr.CTs X xw C [c] [i] := ⟨Sd.cts_one (h := h.h)⟩
theorem cw_of (he : Wr.CE X xw C e i) : Wr.CW X xw C tg e (.of i) := ⟨Sd.cw_of (he := he.h)⟩
theorem cw_rng1 (hm : X.mg "range" = none) (ha : Wr.CA X xw C [a] [i]) (hg : Gl X "range" := by rfl) (hs : starEach [a] X.env = [(false, eval a X.env)] := by rfl) : Wr.CW X xw C tg (.Call (.Name "range" p) [a] [] pos) (.rng1 i) := ⟨Sd.cw_rng1 (hm := hm) (ha := ha.h) (hg := hg) (hs := hs)⟩
theorem cw_rng2 (hm : X.mg "range" = none) (ha : Wr.CA X xw C [a, b] [i, j]) (hg : Gl X "range" := by rfl) (hs : starEach [a, b] X.env = [(false, eval a X.env), (false, eval b X.env)] := by rfl) (hs2 : starEach [b] X.env = [(false, eval b X.env)] := by rfl) :
    Wr.CW X xw C tg (.Call (.Name "range" p) [a, b] [] pos) (.rng2 i j) := ⟨Sd.cw_rng2 (hm := hm) (ha := ha.h) (hg := hg) (hs := hs) (hs2 := hs2)⟩
theorem cg_name {n : Nat} {x : Str} (hN : X.N.Nodup) (hi : X.N[n]? = some x := by rfl) (hx : L2.Loc X.env.scope x := by first | exact Or.inl rfl | exact Or.inr rfl) (hf : X.fn x = true ∨ X.env.scope.names.lookup x = some .local := by first | exact .inl rfl | exact .inr rfl) : Wr.CG X (.Name x pos) [n] := ⟨Sd.cg_name (hN := hN) (hi := hi) (hx := hx) (hf := hf)⟩
theorem cg_tup {tgs : List Expr} {q2 : Nat} {n m : Nat} {r : List Nat} (hc : X.calm = true) (h : Wr.CGs X tgs (n :: m :: r)) (hn : (assignEach tgs X.env).length = (n :: m :: r).length := by rfl) (hst : (assignEach tgs X.env).findIdx? (·.1) = none := by rfl) : Wr.CG X (.Tuple tgs q2 pos) (n :: m :: r) := ⟨Sd.cg_tup (hc := hc) (h := h.h) (hn := hn) (hst := hst)⟩
theorem cgs_nil : Wr.CGs X [] [] := ⟨Sd.cgs_nil ⟩
theorem cgs_cons {tgs : List Expr} {n : Nat} {t : List Nat} {x : Str} (hN : X.N.Nodup) (h2 : Wr.CGs X tgs t) (hi : X.N[n]? = some x := by rfl) (hx : L2.Loc X.env.scope x := by first | exact Or.inl rfl | exact Or.inr rfl) (hf : X.fn x = true ∨ X.env.scope.names.lookup x = some .local := by first | exact .inl rfl | exact .inr rfl)
    (hs : (assignEach (.Name x pos :: tgs) X.env).map (·.2) = PySem.assign (.Name x pos) X.env :: (assignEach tgs X.env).map (·.2) := by rfl) : Wr.CGs X (.Name x pos :: tgs) (n :: t) := ⟨Sd.cgs_cons (hN := hN) (h2 := h2.h) (hi := hi) (hx := hx) (hf := hf) (hs := hs)⟩
theorem cs_nil : Wr.CSs X xw C [] [] := ⟨Sd.cs_nil ⟩
theorem cs_cons (h1 : Wr.CS X xw C s0 m0) (h2 : Wr.CSs X xw C ss ms) : Wr.CSs X xw C (s0 :: ss) (m0 :: ms) := ⟨Sd.cs_cons (h1 := h1.h) (h2 := h2.h)⟩
theorem cs_asg {tg : Expr} {t : List Nat} (he : Wr.CE X xw C e i) (hg : Wr.CG X tg t) (hs : swapsWithSole [tg] e pos.line X.env = pure false := by rfl) (hw : swappedStores [tg] e X.env = pure none := by rfl)
    (h1 : (assignEach [tg] X.env).map (·.2) = [PySem.assign tg X.env] := by rfl) : Wr.CS X xw C (.Assign [tg] e pos) (.asg t i) := ⟨Sd.cs_asg (he := he.h) (hg := hg.h) (hs := hs) (hw := hw) (h1 := h1)⟩
theorem cs_put {o ix : Expr} {io ii : E} (ho : Wr.CE X xw C o io) (hi : Wr.CE X xw C ix ii) (he : Wr.CE X xw C e i)
    (ha : ∀ v, PySem.assign (.Subscript o ix p) X.env v = (do
      let ov ← holding [v] (eval o X.env)
      let iv ← holding [v, ov] (eval ix X.env)
      standAt p
      holding [v, ov, iv] (setItem ov iv v)
      release [v, ov, iv] []) := by intro _; rfl) (hs : swapsWithSole [.Subscript o ix p] e pos.line X.env = pure false := by rfl) (hw : swappedStores [.Subscript o ix p] e X.env = pure none := by rfl)
    (h1 : (assignEach [.Subscript o ix p] X.env).map (·.2) = [PySem.assign (.Subscript o ix p) X.env] := by rfl) : Wr.CS X xw C (.Assign [.Subscript o ix p] e pos) (.put io ii i) := ⟨Sd.cs_put (ho := ho.h) (hi := hi.h) (he := he.h) (ha := ha) (hs := hs) (hw := hw) (h1 := h1)⟩
theorem cs_ret (he : Wr.CE X xw C e i) : Wr.CS X xw C (.Return (some e) pos) (.ret i) := ⟨Sd.cs_ret (he := he.h)⟩
theorem cs_expr (he : Wr.CE X xw C e i) (hs : swapsWith e none pos.line X.env = pure false := by rfl) : Wr.CS X xw C (.Expr e pos) (.ex i) := ⟨Sd.cs_expr (he := he.h) (hs := hs)⟩
theorem cs_if {sa sb : List Stmt} (hc : Wr.CT X xw C c k) (ha : Wr.CSs X xw C sa ms) (hb : Wr.CSs X xw C sb ms') : Wr.CS X xw C (.If c sa sb pos) (.ite k ms ms') := ⟨Sd.cs_if (hc := hc.h) (ha := ha.h) (hb := hb.h)⟩
theorem cs_for {body : List Stmt} {ms : List Sm} {w : Ev.W} {t : List Nat} (hp : PassesOwn (model X.prog X.w) X.A X.env X.xe) (hc : X.calm = true) (hw : Wr.CW X xw C tg it w) (hg : Wr.CG X tg t) (hb : Wr.CSs X xw C body ms)
    (hs : ∀ x, foldedSetIterable it X.env x = pure x := by intro _; rfl) : Wr.CS X xw C (.For tg it body [] pos) (.forr t w ms) := ⟨Sd.cs_for (hp := hp) (hc := hc) (hw := hw.h) (hg := hg.h) (hb := hb.h) (hs := hs)⟩
theorem cs_pass : Wr.CS X xw C (.Pass pos) .pas := ⟨Sd.cs_pass ⟩
theorem ce_comp1 {elt : Expr} {ifs : List Expr} {is : List E} {ie : E} {scope : Scope} {N : List Str} {cap : List Nat} {nl : Nat} {w : Ev.W} {t : List Nat} (hc : X.calm = true) (hN : X.N.Nodup) (CS : CompScope X.env.scope X.N scope N cap nl) (hi : Wr.CW X xw C tg it w)
    (hb : ∀ cl s H fp, Wr.CG (cxC X N scope cl s H fp) tg t ∧ Wr.CTs (cxC X N scope cl s H fp) xw C ifs is ∧ Wr.CE (cxC X N scope cl s H fp) xw C elt ie)
    (hs : ∀ x, foldedSetIterable it X.env x = pure x := by intro _; rfl) : Wr.CE X xw C (.ListComp elt [⟨tg, it, ifs, 0⟩] scope pos) (.comp1 cap nl t w is ie) :=
  ⟨Sd.ce_comp1 hc hN CS hi.h (fun cl s H fp => ⟨(hb cl s H fp).1.h, (hb cl s H fp).2.1.h, (hb cl s H fp).2.2.h⟩) hs⟩
end
theorem fn_rule {P : Program} {w : World} {K : PySem.W.Frag} {mg : Str → Option Value} {base : Heap} {F : List Fn} {n d : Nat} {fn : Fn} {x qual : Str} {st : Stmt} {f : Addr} {fd : FuncData} {N ps : List Str} {k : Nat} (hF : F[n]? = some fn) (hns : fn.ns = N.length) (hps : fn.ps = ps.length) (Fu : Fun K x qual st f fd) (S : FnScope N ps (defScope st))
    (hb : ∀ (cdv : Value) (A : Around) (outer : List Env) (s : Shared) (H : Hp) (E : XK), Room k (A.deeper (envOfC qual (defScope st) s.heap.objs.size f cdv)) →
      Wr.CSs (cxOf CX0 P w K mg base N qual (defScope st) f cdv A outer s H E).nox (fun _ _ => False) (Ev.calls F d) (defBody st) fn.body) :
    FnOk P w K mg base CX0 (k + 1) f fd ps (spF K (Ev.calls F (d + 1)) n) := Sd.fn_rule hF hns hps Fu S fun cdv A outer s H E hr => (hb cdv A outer s H E hr).h
end Wr

set_option maxRecDepth 100000
namespace K11
open Ev
def f__law_cell_at : Fn := ⟨2, 2,
  [.ite (.cmp .lt (.v 1) (.blt .len [(.v 0)])) [.ret (.ix (.v 0) (.v 1))] [],
   .ret (.c (.int 0))]⟩
def f__law_state : Fn := ⟨2, 3,
  [.asg [2] (.call 0 [(.v 0), (.v 1)]),
   .ite (.cmp .ge (.v 2) (.bin .pow (.c (.int 10)) (.c (.int 18)))) [.ret (.lst [(.bin .sub (.v 2) (.bin .pow (.c (.int 10)) (.c (.int 18)))), (.c (.bl true))])] [],
   .ret (.lst [(.bin .mod (.v 2) (.c (.int 2147483647))), (.c (.bl false))])]⟩
def f__law_take : Fn := ⟨2, 4,
  [.ite (.ix (.v 0) (.c (.int 1))) [.asg [2] (.bin .mod (.ix (.v 0) (.c (.int 0))) (.v 1)),
   .put (.v 0) (.c (.int 0)) (.bin .fdiv (.ix (.v 0) (.c (.int 0))) (.v 1)),
   .ret (.v 2)] [],
   .put (.v 0) (.c (.int 0)) (.bin .mod (.bin .add (.bin .mul (.ix (.v 0) (.c (.int 0))) (.c (.int 48271))) (.c (.int 29))) (.c (.int 2147483647))),
   .asg [3] (.bin .mod (.bin .add (.bin .add (.bin .mul (.ix (.v 0) (.c (.int 0))) (.ix (.v 0) (.c (.int 0)))) (.bin .mul (.c (.int 39373)) (.ix (.v 0) (.c (.int 0))))) (.c (.int 7))) (.c (.int 2147483629))),
   .asg [3] (.bin .mod (.bin .add (.bin .mul (.v 3) (.v 3)) (.bin .mul (.c (.int 16807)) (.v 3))) (.c (.int 2147483587))),
   .ret (.bin .mod (.bin .fdiv (.v 3) (.c (.int 8))) (.v 1))]⟩
def f__law_space : Fn := ⟨2, 3,
  [.asg [2] (.lst [(.tup [(.c (.int 2)), (.c (.int 1))]), (.tup [(.c (.int 2)), (.c (.int 2))]), (.tup [(.c (.int 2)), (.c (.int 3))]), (.tup [(.c (.int 2)), (.c (.int 4))]), (.tup [(.c (.int 3)), (.c (.int 1))]), (.tup [(.c (.int 3)), (.c (.int 2))]), (.tup [(.c (.int 3)), (.c (.int 3))]), (.tup [(.c (.int 5)), (.c (.int 1))]), (.tup [(.c (.int 5)), (.c (.int 2))]), (.tup [(.c (.int 2)), (.c (.int 3))]), (.tup [(.c (.int 2)), (.c (.int 4))]), (.tup [(.c (.int 3)), (.c (.int 3))])]),
   .ite (.cmp .gt (.v 1) (.c (.int 27))) [.asg [2] (.bin .add (.v 2) (.lst [(.tup [(.c (.int 2)), (.c (.int 5))]), (.tup [(.c (.int 2)), (.c (.int 6))]), (.tup [(.c (.int 3)), (.c (.int 4))]), (.tup [(.c (.int 5)), (.c (.int 3))])]))] [],
   .ret (.ix (.v 2) (.call 2 [(.v 0), (.blt .len [(.v 2)])]))]⟩
def f__law_row : Fn := ⟨2, 3,
  [.asg [2] (.bin .mul (.call 2 [(.v 0), (.bin .add (.ix (.v 1) (.c (.int 1))) (.c (.int 1)))]) (.blt .toInt [(.cmp .eq (.call 2 [(.v 0), (.c (.int 3))]) (.c (.int 0)))])),
   .ret (.bin .add (.bin .mul (.tup [(.c (.int 0))]) (.v 2)) (.blt .tuple [(.comp1 [0, 1] 1 [0] (.rng1 (.bin .sub (.ix (.v 1) (.c (.int 1))) (.v 2))) [] (.call 2 [(.v 1), (.ix (.v 2) (.c (.int 0)))]))]))]⟩
def f__law_space_like : Fn := ⟨1, 4,
  [.asg [1] (.ix (.lst [(.c (.int 2)), (.c (.int 3)), (.c (.int 5)), (.c (.int 4)), (.c (.int 1)), (.c (.int 7)), (.c (.int 0)), (.neg (.c (.int 2))), (.c (.bl true)), (.c .non), (.c (.str (PySem.Str.ofString "2"))), (.tup [(.c (.int 2))]), (.bin .pow (.c (.int 10)) (.c (.int 29)))]) (.ix (.lst [(.c (.int 0)), (.c (.int 1)), (.c (.int 2)), (.call 2 [(.v 0), (.c (.int 13))])]) (.call 2 [(.v 0), (.c (.int 4))]))),
   .asg [2] (.ix (.lst [(.c (.int 1)), (.c (.int 2)), (.c (.int 3)), (.c (.int 4)), (.c (.int 5)), (.c (.int 6)), (.c (.int 7)), (.c (.int 0)), (.neg (.c (.int 1))), (.c (.bl true)), (.c .non), (.c (.str (PySem.Str.ofString "3"))), (.tup [(.c (.int 3))])]) (.call 2 [(.v 0), (.c (.int 13))])),
   .asg [3] (.lst [(.tup [(.v 1), (.v 2)]), (.lst [(.v 1), (.v 2)]), (.tup [(.v 1)]), (.tup [(.v 1), (.v 2), (.c (.int 1))]), (.c .non), .dnew, (.v 1), (.tup [(.tup [(.v 1), (.v 2)])]), (.tup [(.v 2), (.v 1)]), (.tup [])]),
   .ret (.ix (.v 3) (.ix (.lst [(.c (.int 0)), (.c (.int 0)), (.c (.int 0)), (.c (.int 0)), (.c (.int 0)), (.c (.int 1)), (.c (.int 2)), (.c (.int 3)), (.c (.int 4)), (.c (.int 5)), (.c (.int 6)), (.c (.int 7)), (.c (.int 8)), (.c (.int 9))]) (.call 2 [(.v 0), (.c (.int 14))])))]⟩
def f_is_whole : Fn := ⟨3, 3,
  [.ret (.and (.isi (.v 0) [.int]) (.and (.not (.isi (.v 0) [.bool])) (.chain .le .le (.v 1) (.v 0) (.v 2))))]⟩
def f_is_base : Fn := ⟨1, 1,
  [.ret (.and (.call 6 [(.v 0), (.c (.int 2)), (.c (.int 5))]) (.inT (.v 0) [(2, 6), (3, 4), (5, 3)]))]⟩
def f_is_space : Fn := ⟨1, 3,
  [.ite (.or (.not (.isi (.v 0) [.tuple])) (.cmp .ne (.blt .len [(.v 0)]) (.c (.int 2)))) [.ret (.c (.bl false))] [],
   .asg [1, 2] (.v 0),
   .ret (.and (.call 7 [(.v 1)]) (.call 6 [(.v 2), (.c (.int 1)), (.getT [(2, 6), (3, 4), (5, 3)] (.v 1))]))]⟩
def f_is_row : Fn := ⟨2, 4,
  [.asg [2, 3] (.v 0),
   .ite (.or (.not (.isi (.v 1) [.tuple])) (.cmp .ne (.blt .len [(.v 1)]) (.v 3))) [.ret (.c (.bl false))] [],
   .ret (.blt .all [(.comp1 [2] 1 [0] (.of (.v 1)) [] (.call 6 [(.v 0), (.c (.int 0)), (.bin .sub (.v 1) (.c (.int 1)))]))])]⟩
def f__law_bent_row : Fn := ⟨3, 6,
  [.asg [3] (.call 2 [(.v 0), (.bin .add (.blt .len [(.v 2)]) (.c (.int 1)))]),
   .asg [4] (.ix (.lst [(.ix (.v 1) (.c (.int 0))), (.neg (.c (.int 1))), (.c (.bl true)), (.c (.bl false)), (.c .non), (.c (.str (PySem.Str.ofString "0"))), (.tup [(.c (.int 0))]), (.bin .pow (.c (.int 10)) (.c (.int 29))), (.c (.int 0)), (.c (.int 1)), (.bin .sub (.ix (.v 1) (.c (.int 0))) (.c (.int 1)))]) (.call 2 [(.v 0), (.c (.int 11))])),
   .asg [5] (.lst [(.bin .add (.bin .add (.sl (.v 2) none (some (.v 3))) (.tup [(.v 4)])) (.sl (.v 2) (some (.bin .add (.v 3) (.c (.int 1)))) none)), (.bin .add (.bin .add (.sl (.v 2) none (some (.v 3))) (.tup [(.v 4)])) (.sl (.v 2) (some (.v 3)) none)), (.bin .add (.sl (.v 2) none (some (.v 3))) (.sl (.v 2) (some (.bin .add (.v 3) (.c (.int 1)))) none)), (.blt .list [(.v 2)])]),
   .ret (.ix (.bin .add (.v 5) (.lst [(.rev (.v 2)), (.c .non), .dnew, (.lst [(.v 4)]), (.tup [(.v 2)])])) (.ix (.lst [(.c (.int 0)), (.c (.int 0)), (.c (.int 0)), (.c (.int 0)), (.c (.int 1)), (.c (.int 2)), (.c (.int 3)), (.c (.int 4)), (.c (.int 5)), (.c (.int 6)), (.c (.int 7)), (.c (.int 8))]) (.call 2 [(.v 0), (.c (.int 12))])))]⟩
def f__law_whole : Fn := ⟨3, 3,
  [.ret (.and (.isi (.v 0) [.int]) (.and (.not (.isi (.v 0) [.bool])) (.chain .le .le (.v 1) (.v 0) (.v 2))))]⟩
def f__law_due : Fn := ⟨1, 2,
  [.asg [1] (.lst [(.tup [(.c (.int 2)), (.c (.int 1))]), (.tup [(.c (.int 2)), (.c (.int 2))]), (.tup [(.c (.int 2)), (.c (.int 3))]), (.tup [(.c (.int 2)), (.c (.int 4))]), (.tup [(.c (.int 2)), (.c (.int 5))]), (.tup [(.c (.int 2)), (.c (.int 6))]), (.tup [(.c (.int 3)), (.c (.int 1))]), (.tup [(.c (.int 3)), (.c (.int 2))]), (.tup [(.c (.int 3)), (.c (.int 3))]), (.tup [(.c (.int 3)), (.c (.int 4))]), (.tup [(.c (.int 5)), (.c (.int 1))]), (.tup [(.c (.int 5)), (.c (.int 2))]), (.tup [(.c (.int 5)), (.c (.int 3))])]),
   .ite (.or (.not (.isi (.v 0) [.tuple])) (.or (.cmp .ne (.blt .len [(.v 0)]) (.c (.int 2))) (.not (.blt .all [(.comp1 [] 1 [0] (.of (.v 0)) [] (.call 11 [(.v 0), (.c (.int 1)), (.c (.int 6))]))])))) [.ret (.c (.bl false))] [],
   .ret (.cmp .inn (.v 0) (.v 1))]⟩
def f__law_is_row : Fn := ⟨2, 2,
  [.ite (.or (.not (.isi (.v 1) [.tuple])) (.cmp .ne (.blt .len [(.v 1)]) (.ix (.v 0) (.c (.int 1))))) [.ret (.c (.bl false))] [],
   .ret (.blt .all [(.comp1 [0] 1 [0] (.of (.v 1)) [] (.call 11 [(.v 0), (.c (.int 0)), (.bin .sub (.ix (.v 1) (.c (.int 0))) (.c (.int 1)))]))])]⟩
def f_law : Fn := ⟨1, 8,
  [.forr [1] (.rng1 (.blt .max2 [(.c (.int 1)), (.blt .min2 [(.blt .len [(.v 0)]), (.c (.int 12))])])) [.asg [2] (.call 1 [(.v 0), (.v 1)]),
   .forr [3] (.rng1 (.c (.int 4))) [.asg [4] (.call 5 [(.v 2)]),
   .asg [5] (.call 8 [(.v 4)]),
   .ite (.or (.not (.isi (.v 5) [.bool])) (.cmp .ne (.v 5) (.call 12 [(.v 4)]))) [.ret (.c (.bl false))] []],
   .asg [6] (.call 3 [(.v 2), (.c (.int 125))]),
   .asg [7] (.call 4 [(.v 2), (.v 6)]),
   .forr [4] (.of (.bin .add (.lst [(.v 7)]) (.comp1 [2, 6, 7] 1 [0] (.rng1 (.c (.int 4))) [] (.call 10 [(.v 1), (.v 2), (.v 3)])))) [.asg [5] (.call 9 [(.v 6), (.v 4)]),
   .ite (.or (.not (.isi (.v 5) [.bool])) (.cmp .ne (.v 5) (.call 13 [(.v 6), (.v 4)]))) [.ret (.c (.bl false))] []]],
   .ret (.and (.cmp .is (.call 8 [(.tup [(.c (.int 2)), (.c (.int 6))])]) (.c (.bl true))) (.and (.cmp .is (.call 8 [(.tup [(.c (.int 2)), (.c (.int 7))])]) (.c (.bl false))) (.cmp .is (.call 8 [(.tup [(.c (.int 5)), (.c (.int 4))])]) (.c (.bl false)))))]⟩
def fns : List Fn := [f__law_cell_at, f__law_state, f__law_take, f__law_space, f__law_row, f__law_space_like, f_is_whole, f_is_base, f_is_space, f_is_row, f__law_bent_row, f__law_whole, f__law_due, f__law_is_row, f_law]
end K11

set_option linter.all false
set_option maxRecDepth 100000
namespace K11
open Ev
/-- a drawer at place n -/
def Dr (n : Nat) (S : Store) : Prop := ∃ a b, S[n]? = some (.lst [.int a, .bl b]) ∧ 0 ≤ a ∧ (b = false → a < 2147483647)
/-- a later store: all as it was but the drawer -/
def Gr (n : Nat) (S S' : Store) : Prop := (∀ k o, k ≠ n → S[k]? = some o → S'[k]? = some o) ∧ Dr n S'
theorem Gr.refl {n : Nat} {S : Store} (h : Dr n S) : Gr n S S := ⟨fun _ _ _ h => h, h⟩
theorem Gr.trans {n : Nat} {S S1 S2 : Store} (a : Gr n S S1) (b : Gr n S1 S2) : Gr n S S2 := ⟨fun k o h e => b.1 k o h (a.1 k o h e), b.2⟩
theorem lt_of_some {S : Store} {n : Nat} {o : Ob} (h : S[n]? = some o) : n < S.length := (List.getElem?_eq_some_iff.mp h).1
theorem Dr.app {n : Nat} {S : Store} (h : Dr n S) (T : Store) : Dr n (S ++ T) := by
  obtain ⟨a, b, h1, h2⟩ := h
  exact ⟨a, b, by rw [List.getElem?_append_left (lt_of_some h1)]; exact h1, h2⟩
theorem Gr.app {n : Nat} {S : Store} (h : Dr n S) (T : Store) : Gr n S (S ++ T) := ⟨fun k o _ e => by rw [List.getElem?_append_left (lt_of_some e)]; exact e, h.app T⟩
theorem Gr.set {n : Nat} {S : Store} (h : Dr n S) {a : Int} {b : Bool} (h1 : 0 ≤ a) (h2 : b = false → a < 2147483647) : Gr n S (S.set n (.lst [.int a, .bl b])) := by
  obtain ⟨a0, b0, h0, _⟩ := h
  refine ⟨fun k o hk e => by rw [List.getElem?_set_ne (Ne.symm hk)]; exact e, a, b, ?_, h1, h2⟩
  rw [List.getElem?_set_self (lt_of_some h0)]
theorem fits_of {a : Int} (h0 : 0 ≤ a) (h : a < 4294967296) : fits a = true := by
  unfold fits
  refine decide_eq_true ?_
  have h1 : a.natAbs < 2 ^ 32 := by omega
  exact Nat.lt_of_lt_of_le h1 (Nat.pow_le_pow_right (by decide) (by decide))
theorem take_ok {n : Nat} {S : Store} (d : Nat) (m : Int) (h : Dr n S) (m0 : 0 < m) (m1 : m < 1073741824) : ∃ v S', Gr n S S' ∧ S'.length = S.length ∧ 0 ≤ v ∧ v < m ∧ calls fns (d + 1) 2 [.loc n, .int m] S = .ok (.int v) S' := by
  obtain ⟨a, b, hs, ha, hb⟩ := id h
  have hn := lt_of_some hs
  cases b with
  | true =>
    refine ⟨a % m, S.set n (.lst [.int (a / m), .bl true]), Gr.set h (Int.ediv_nonneg ha (by omega)) (by simp), by simp, Int.emod_nonneg _ (by omega), Int.emod_lt_of_pos _ m0, ?_⟩
    simp [Ev.calls, Ev.runs, Ev.run, Ev.ev.eq_1, Ev.ev.eq_2, Ev.ev.eq_3, Ev.ev.eq_4, Ev.ev.eq_5, Ev.ev.eq_6, Ev.ev.eq_7, Ev.ev.eq_8, Ev.ev.eq_9, Ev.ev.eq_10, Ev.ev.eq_11, Ev.ev.eq_12, Ev.ev.eq_13, Ev.ev.eq_14, Ev.ev.eq_15, Ev.ev.eq_16, Ev.ev.eq_17, Ev.ev.eq_18, Ev.ev.eq_19, Ev.ev.eq_20, Ev.ev.eq_21, Ev.ev.eq_22, Ev.ev.eq_23, Ev.evs, Ev.evo, Ev.evt, Ev.tst, Ev.R.bind, Ev.ob, Ev.truth, Ev.assign, Ev.fill, Ev.start, Ev.lim, fns, f__law_take, getix, seqAt, hs, at', ixN, binop, m0, m1, setix]
  | false =>
    have hb := hb rfl
    have h1 := fits_of ha (by omega)
    have x0 : 0 ≤ (a * 48271 + 29) % 2147483647 := by omega
    have x1 : (a * 48271 + 29) % 2147483647 < 2147483647 := by omega
    generalize hx : (a * 48271 + 29) % 2147483647 = x at x0 x1
    have y0 : 0 ≤ (x * x + 39373 * x + 7) % 2147483629 := by omega
    have y1 : (x * x + 39373 * x + 7) % 2147483629 < 2147483629 := by omega
    generalize hy : (x * x + 39373 * x + 7) % 2147483629 = y at y0 y1
    have z0 : 0 ≤ (y * y + 16807 * y) % 2147483587 := by omega
    refine ⟨((y * y + 16807 * y) % 2147483587) / 8 % m, S.set n (.lst [.int x, .bl false]), Gr.set h x0 (fun _ => x1), by simp, Int.emod_nonneg _ (by omega), Int.emod_lt_of_pos _ m0, ?_⟩
    have f1 := fits_of x0 (by omega)
    have f2 := fits_of y0 (by omega)
    have f3 : fits 48271 = true := fits_of (by omega) (by omega)
    have f4 : fits 39373 = true := fits_of (by omega) (by omega)
    have f5 : fits 16807 = true := fits_of (by omega) (by omega)
    have hset : ∀ o, (S.set n o)[n]? = some o := fun o => List.getElem?_set_self hn
    clear hn
    simp [Ev.calls, Ev.runs, Ev.run, Ev.ev.eq_1, Ev.ev.eq_2, Ev.ev.eq_3, Ev.ev.eq_4, Ev.ev.eq_5, Ev.ev.eq_6, Ev.ev.eq_7, Ev.ev.eq_8, Ev.ev.eq_9, Ev.ev.eq_10, Ev.ev.eq_11, Ev.ev.eq_12, Ev.ev.eq_13, Ev.ev.eq_14, Ev.ev.eq_15, Ev.ev.eq_16, Ev.ev.eq_17, Ev.ev.eq_18, Ev.ev.eq_19, Ev.ev.eq_20, Ev.ev.eq_21, Ev.ev.eq_22, Ev.ev.eq_23, Ev.evs, Ev.evo, Ev.evt, Ev.tst, Ev.R.bind, Ev.ob, Ev.truth, Ev.assign, Ev.fill, Ev.start, Ev.lim, fns, f__law_take, getix, seqAt, hs, at', ixN, binop, m0, m1, setix, h1, hx, hy, f1, f2, f3, f4, f5, hset]

/-! ### things of a known kind -/
def tyOb (o : Option Ob) (t : Ty) : Option Bool := match o with
    | some (.lst _) => some (decide (t = .list))
    | some (.dt _) => some (decide (t = .dict))
    | some (.dk _) => some (decide (t = .dict))
    | _ => none
theorem ty_ob {S : Store} {n : Nat} {t : Ty} : isTy S (.loc n) t = tyOb S[n]? t := by rw [isTy]; rfl
def Good (S : Store) (x : D) : Prop := ∀ t, ∃ b, isTy S x t = some b
def Good2 (S : Store) (x : D) : Prop := Good S x ∧ ∀ ds, x = .tup ds → ∀ d ∈ ds, Good S d
theorem good_non {S : Store} : Good S .non := fun t => ⟨_, rfl⟩
theorem good_bl {S : Store} {b : Bool} : Good S (.bl b) := fun t => ⟨_, rfl⟩
theorem good_int {S : Store} {b : Int} : Good S (.int b) := fun t => ⟨_, rfl⟩
theorem good_str {S : Store} {b : PySem.Str} : Good S (.str b) := fun t => ⟨_, rfl⟩
theorem good_tup {S : Store} {b : List D} : Good S (.tup b) := fun t => ⟨_, rfl⟩
theorem good_lst {S : Store} {n : Nat} {xs : List D} (h : S[n]? = some (.lst xs)) : Good S (.loc n) := fun t => by rw [ty_ob, h]; exact ⟨_, rfl⟩
theorem good_dt {S : Store} {n : Nat} {xs} (h : S[n]? = some (.dt xs)) : Good S (.loc n) := fun t => by rw [ty_ob, h]; exact ⟨_, rfl⟩
theorem Good.gr {S S' : Store} {n : Nat} {x : D} (g : Gr n S S') (h : Good S x) : Good S' x := by
  cases x with
  | loc k =>
    by_cases hk : k = n
    · subst hk
      obtain ⟨_, a, b, h1, _⟩ := g
      exact good_lst h1
    · cases e : S[k]? with
      | none => have := h .int; rw [ty_ob, e] at this; simp [tyOb] at this
      | some o =>
        have e' := g.1 k o hk e
        intro t
        have := h t
        rw [ty_ob, e] at this
        rw [ty_ob, e']
        exact this
  | _ => exact h
theorem Good.app {S : Store} {x : D} (T : Store) (h : Good S x) : Good (S ++ T) x := by
  cases x with
  | loc k =>
    cases e : S[k]? with
      | none => have := h .int; rw [ty_ob, e] at this; simp [tyOb] at this
      | some o =>
        have e' : (S ++ T)[k]? = some o := by rw [List.getElem?_append_left (lt_of_some e)]; exact e
        intro t
        have := h t
        rw [ty_ob, e] at this
        rw [ty_ob, e']
        exact this
  | _ => exact h
theorem Good2.gr {S S' : Store} {n : Nat} {x : D} (g : Gr n S S') (h : Good2 S x) : Good2 S' x := ⟨h.1.gr g, fun ds e d m => (h.2 ds e d m).gr g⟩
theorem Good2.app {S : Store} {x : D} (T : Store) (h : Good2 S x) : Good2 (S ++ T) x := ⟨h.1.app T, fun ds e d m => (h.2 ds e d m).app T⟩
theorem Good.two {S : Store} {x : D} (h : Good S x) (k : ∀ ds, x ≠ .tup ds) : Good2 S x := ⟨h, fun ds e => absurd e (k ds)⟩
theorem good2_tup {S : Store} {ds : List D} (h : ∀ d ∈ ds, Good S d) : Good2 S (.tup ds) := ⟨good_tup, fun es e d m => by cases e; exact h d m⟩
/-- a whole number within bounds -/
def wh (lo hi : Int) : D → Bool
  | .int i => decide (lo ≤ i) && decide (i ≤ hi)
  | _ => false
theorem ty_loc {S : Store} {n : Nat} (h : Good S (.loc n)) {t : Ty} (ht : t ≠ .list) (ht2 : t ≠ .dict) : isTy S (.loc n) t = some false := by
  have := h t
  rw [ty_ob] at this ⊢
  cases e : S[n]? with
  | none => rw [e] at this; simp [tyOb] at this
  | some o =>
    rw [e] at this
    cases o with
    | lst _ => simp [tyOb, ht]
    | dt _ => simp [tyOb, ht2]
    | dk _ => simp [tyOb, ht2]
    | _ => simp [tyOb] at this
theorem whole_any {S : Store} {x : D} (f : Nat) (hf : fns[f]? = some f_is_whole) (d : Nat) (lo hi : Int) (h : Good S x) : calls fns (d + 1) f [x, .int lo, .int hi] S = .ok (.bl (wh lo hi x)) S := by
  have e : calls fns (d + 1) f [x, .int lo, .int hi] S = match fns[f]? with
    | some fn => if [x, .int lo, .int hi].length = fn.ps then (runs (calls fns d) fn.body (start fn.ns [x, .int lo, .int hi]) S).bind fun f S => match f with
        | .ret x => .ok x S
        | .nx _ => .ok .non S
        | _ => .no
      else .no
    | none => .no := rfl
  rw [e, hf]
  cases x with
  | fn _ => have := h .int; simp [isTy] at this
  | exc _ _ => have := h .int; simp [isTy] at this
  | loc n =>
    have h1 := ty_loc h (t := .int) (by decide) (by decide)
    simp [Ev.calls, Ev.runs, Ev.run, Ev.ev.eq_1, Ev.ev.eq_2, Ev.ev.eq_3, Ev.ev.eq_4, Ev.ev.eq_5, Ev.ev.eq_6, Ev.ev.eq_7, Ev.ev.eq_8, Ev.ev.eq_9, Ev.ev.eq_10, Ev.ev.eq_11, Ev.ev.eq_12, Ev.ev.eq_13, Ev.ev.eq_14, Ev.ev.eq_15, Ev.ev.eq_16, Ev.ev.eq_17, Ev.ev.eq_18, Ev.ev.eq_19, Ev.ev.eq_20, Ev.ev.eq_21, Ev.ev.eq_22, Ev.ev.eq_23, Ev.evs, Ev.evo, Ev.evt, Ev.tst, Ev.R.bind, Ev.ob, Ev.truth, Ev.assign, Ev.fill, Ev.start, Ev.lim, f_is_whole, isAny, h1, wh]
  | int i =>
    by_cases c : lo ≤ i <;> simp [Ev.calls, Ev.runs, Ev.run, Ev.ev.eq_1, Ev.ev.eq_2, Ev.ev.eq_3, Ev.ev.eq_4, Ev.ev.eq_5, Ev.ev.eq_6, Ev.ev.eq_7, Ev.ev.eq_8, Ev.ev.eq_9, Ev.ev.eq_10, Ev.ev.eq_11, Ev.ev.eq_12, Ev.ev.eq_13, Ev.ev.eq_14, Ev.ev.eq_15, Ev.ev.eq_16, Ev.ev.eq_17, Ev.ev.eq_18, Ev.ev.eq_19, Ev.ev.eq_20, Ev.ev.eq_21, Ev.ev.eq_22, Ev.ev.eq_23, Ev.evs, Ev.evo, Ev.evt, Ev.tst, Ev.R.bind, Ev.ob, Ev.truth, Ev.assign, Ev.fill, Ev.start, Ev.lim, f_is_whole, isAny, isTy, wh, cmpop, c]
  | _ => simp [Ev.calls, Ev.runs, Ev.run, Ev.ev.eq_1, Ev.ev.eq_2, Ev.ev.eq_3, Ev.ev.eq_4, Ev.ev.eq_5, Ev.ev.eq_6, Ev.ev.eq_7, Ev.ev.eq_8, Ev.ev.eq_9, Ev.ev.eq_10, Ev.ev.eq_11, Ev.ev.eq_12, Ev.ev.eq_13, Ev.ev.eq_14, Ev.ev.eq_15, Ev.ev.eq_16, Ev.ev.eq_17, Ev.ev.eq_18, Ev.ev.eq_19, Ev.ev.eq_20, Ev.ev.eq_21, Ev.ev.eq_22, Ev.ev.eq_23, Ev.evs, Ev.evo, Ev.evt, Ev.tst, Ev.R.bind, Ev.ob, Ev.truth, Ev.assign, Ev.fill, Ev.start, Ev.lim, f_is_whole, isAny, isTy, wh, cmpop]
theorem whole_ok {S : Store} {x : D} (d : Nat) (lo hi : Int) (h : Good S x) : calls fns (d + 1) 6 [x, .int lo, .int hi] S = .ok (.bl (wh lo hi x)) S := whole_any 6 rfl d lo hi h
theorem whole2_ok {S : Store} {x : D} (d : Nat) (lo hi : Int) (h : Good S x) : calls fns (d + 1) 11 [x, .int lo, .int hi] S = .ok (.bl (wh lo hi x)) S := whole_any 11 rfl d lo hi h
def base : D → Bool
  | .int i => decide (i = 2 ∨ i = 3 ∨ i = 5)
  | _ => false
theorem base_ok {S : Store} {x : D} (d : Nat) (h : Good S x) : calls fns (d + 2) 7 [x] S = .ok (.bl (base x)) S := by
  have hw := whole_ok d 2 5 h
  rw [show d + 2 = (d + 1) + 1 from rfl, calls]
  generalize calls fns (d + 1) = C at hw ⊢
  simp only [fns, List.getElem?_cons_succ, List.getElem?_cons_zero]
  cases x with
  | int i =>
    simp [Ev.calls, Ev.runs, Ev.run, Ev.ev.eq_1, Ev.ev.eq_2, Ev.ev.eq_3, Ev.ev.eq_4, Ev.ev.eq_5, Ev.ev.eq_6, Ev.ev.eq_7, Ev.ev.eq_8, Ev.ev.eq_9, Ev.ev.eq_10, Ev.ev.eq_11, Ev.ev.eq_12, Ev.ev.eq_13, Ev.ev.eq_14, Ev.ev.eq_15, Ev.ev.eq_16, Ev.ev.eq_17, Ev.ev.eq_18, Ev.ev.eq_19, Ev.ev.eq_20, Ev.ev.eq_21, Ev.ev.eq_22, Ev.ev.eq_23, Ev.evs, Ev.evo, Ev.evt, Ev.tst, Ev.R.bind, Ev.ob, Ev.truth, Ev.assign, Ev.fill, Ev.start, Ev.lim, f_is_base, hw, wh, base]
    by_cases c : 2 ≤ i ∧ i ≤ 5
    · simp [c.1, c.2]
    · have : ¬ (i = 2 ∨ i = 3 ∨ i = 5) := by omega
      have : (decide (2 ≤ i) && decide (i ≤ 5)) = false := by
        by_cases c1 : 2 ≤ i
        · have : ¬ i ≤ 5 := fun z => c ⟨c1, z⟩
          simp [this]
        · simp [c1]
      simp [*]
      omega
  | _ => simp [Ev.calls, Ev.runs, Ev.run, Ev.ev.eq_1, Ev.ev.eq_2, Ev.ev.eq_3, Ev.ev.eq_4, Ev.ev.eq_5, Ev.ev.eq_6, Ev.ev.eq_7, Ev.ev.eq_8, Ev.ev.eq_9, Ev.ev.eq_10, Ev.ev.eq_11, Ev.ev.eq_12, Ev.ev.eq_13, Ev.ev.eq_14, Ev.ev.eq_15, Ev.ev.eq_16, Ev.ev.eq_17, Ev.ev.eq_18, Ev.ev.eq_19, Ev.ev.eq_20, Ev.ev.eq_21, Ev.ev.eq_22, Ev.ev.eq_23, Ev.evs, Ev.evo, Ev.evt, Ev.tst, Ev.R.bind, Ev.ob, Ev.truth, Ev.assign, Ev.fill, Ev.start, Ev.lim, f_is_base, hw, wh, base]
def sp : D → Bool
  | .tup [.int p, .int n] => (decide (p = 2) && (decide (1 ≤ n) && decide (n ≤ 6))) || (decide (p = 3) && (decide (1 ≤ n) && decide (n ≤ 4))) || (decide (p = 5) && (decide (1 ≤ n) && decide (n ≤ 3)))
  | _ => false

theorem len2 {ds : List D} : ((ds.length : Int) = 2) ↔ ∃ a b, ds = [a, b] := by
  constructor
  · intro h
    match ds with
    | [a, b] => exact ⟨a, b, rfl⟩
    | [] => simp at h
    | [_] => simp at h
    | _ :: _ :: _ :: r => simp at h; omega
  · rintro ⟨a, b, rfl⟩; rfl
theorem sp_len {ds : List D} (h : ¬ (ds.length : Int) = 2) : sp (.tup ds) = false := by
  unfold sp
  split
  · rename_i e; cases e; exact absurd rfl h
  · rfl
theorem eqD_int {S : Store} {a b : Int} : eqD S eqDepth (.int a) (.int b) = some (decide (a = b)) := rfl
theorem space_ok {S : Store} {x : D} (d : Nat) (h : Good2 S x) : calls fns (d + 3) 8 [x] S = .ok (.bl (sp x)) S := by
  rw [show d + 3 = (d + 2) + 1 from rfl, calls]
  have hb := fun {x : D} (h : Good S x) => base_ok (S := S) d h
  have hw := fun {x : D} (lo hi : Int) (h : Good S x) => whole_ok (S := S) (d + 1) lo hi h
  generalize calls fns (d + 2) = C at hb hw ⊢
  simp only [fns, List.getElem?_cons_succ, List.getElem?_cons_zero]
  cases x with
  | fn _ => have := h.1 .int; simp [isTy] at this
  | exc _ _ => have := h.1 .int; simp [isTy] at this
  | loc n =>
    have h1 := ty_loc h.1 (t := .tuple) (by decide) (by decide)
    simp [Ev.calls, Ev.runs, Ev.run, Ev.ev.eq_1, Ev.ev.eq_2, Ev.ev.eq_3, Ev.ev.eq_4, Ev.ev.eq_5, Ev.ev.eq_6, Ev.ev.eq_7, Ev.ev.eq_8, Ev.ev.eq_9, Ev.ev.eq_10, Ev.ev.eq_11, Ev.ev.eq_12, Ev.ev.eq_13, Ev.ev.eq_14, Ev.ev.eq_15, Ev.ev.eq_16, Ev.ev.eq_17, Ev.ev.eq_18, Ev.ev.eq_19, Ev.ev.eq_20, Ev.ev.eq_21, Ev.ev.eq_22, Ev.ev.eq_23, Ev.evs, Ev.evo, Ev.evt, Ev.tst, Ev.R.bind, Ev.ob, Ev.truth, Ev.assign, Ev.fill, Ev.start, Ev.lim, f_is_space, isAny, h1, sp]
  | tup ds =>
    by_cases c : (ds.length : Int) = 2
    · obtain ⟨a, b, rfl⟩ := len2.mp c
      have ha := hb (h.2 _ rfl a (by simp))
      have hn : ∀ hi, _ := fun hi => hw 1 hi (h.2 _ rfl b (by simp))
      simp [Ev.calls, Ev.runs, Ev.run, Ev.ev.eq_1, Ev.ev.eq_2, Ev.ev.eq_3, Ev.ev.eq_4, Ev.ev.eq_5, Ev.ev.eq_6, Ev.ev.eq_7, Ev.ev.eq_8, Ev.ev.eq_9, Ev.ev.eq_10, Ev.ev.eq_11, Ev.ev.eq_12, Ev.ev.eq_13, Ev.ev.eq_14, Ev.ev.eq_15, Ev.ev.eq_16, Ev.ev.eq_17, Ev.ev.eq_18, Ev.ev.eq_19, Ev.ev.eq_20, Ev.ev.eq_21, Ev.ev.eq_22, Ev.ev.eq_23, Ev.evs, Ev.evo, Ev.evt, Ev.tst, Ev.R.bind, Ev.ob, Ev.truth, Ev.assign, Ev.fill, Ev.start, Ev.lim, f_is_space, isAny, isTy, bltin, seqOf, cmpop, eqD_int, ha]
      cases a with
      | int i =>
        by_cases ci : i = 2 ∨ i = 3 ∨ i = 5
        · cases b with
          | int j => rcases ci with ci | ci | ci <;> subst ci <;> simp [base, List.lookup, hn, wh, sp]
          | _ => rcases ci with ci | ci | ci <;> subst ci <;> simp [base, List.lookup, hn, wh, sp]
        · have c2 : decide (i = 2 ∨ i = 3 ∨ i = 5) = false := decide_eq_false ci
          have c3 : i ≠ 2 ∧ i ≠ 3 ∧ i ≠ 5 := by omega
          simp [base, c2, c3]
          cases b <;> simp [sp, c3]
      | _ => cases b <;> simp [base, sp]
    · rw [sp_len c]
      simp [Ev.calls, Ev.runs, Ev.run, Ev.ev.eq_1, Ev.ev.eq_2, Ev.ev.eq_3, Ev.ev.eq_4, Ev.ev.eq_5, Ev.ev.eq_6, Ev.ev.eq_7, Ev.ev.eq_8, Ev.ev.eq_9, Ev.ev.eq_10, Ev.ev.eq_11, Ev.ev.eq_12, Ev.ev.eq_13, Ev.ev.eq_14, Ev.ev.eq_15, Ev.ev.eq_16, Ev.ev.eq_17, Ev.ev.eq_18, Ev.ev.eq_19, Ev.ev.eq_20, Ev.ev.eq_21, Ev.ev.eq_22, Ev.ev.eq_23, Ev.evs, Ev.evo, Ev.evt, Ev.tst, Ev.R.bind, Ev.ob, Ev.truth, Ev.assign, Ev.fill, Ev.start, Ev.lim, f_is_space, isAny, isTy, bltin, seqOf, cmpop, eqD_int, c]
  | _ => simp [Ev.calls, Ev.runs, Ev.run, Ev.ev.eq_1, Ev.ev.eq_2, Ev.ev.eq_3, Ev.ev.eq_4, Ev.ev.eq_5, Ev.ev.eq_6, Ev.ev.eq_7, Ev.ev.eq_8, Ev.ev.eq_9, Ev.ev.eq_10, Ev.ev.eq_11, Ev.ev.eq_12, Ev.ev.eq_13, Ev.ev.eq_14, Ev.ev.eq_15, Ev.ev.eq_16, Ev.ev.eq_17, Ev.ev.eq_18, Ev.ev.eq_19, Ev.ev.eq_20, Ev.ev.eq_21, Ev.ev.eq_22, Ev.ev.eq_23, Ev.evs, Ev.evo, Ev.evt, Ev.tst, Ev.R.bind, Ev.ob, Ev.truth, Ev.assign, Ev.fill, Ev.start, Ev.lim, f_is_space, isAny, isTy, sp]
end K11

set_option linter.all false
set_option maxRecDepth 100000
namespace K11
open Ev
theorem last_lst {S : Store} {xs : List D} : lstAt (S ++ [.lst xs]) S.length = some xs := by
  unfold lstAt
  rw [List.getElem?_append_right (Nat.le_refl _), Nat.sub_self]
  rfl
theorem set_last {S : Store} {o o' : Ob} : (S ++ [o]).set S.length o' = S ++ [o'] := by
  rw [List.set_append_right _ _ (Nat.le_refl _), Nat.sub_self]; rfl
theorem compL_tup {C : Calls} {elt : E} {caps : Lc} {S : Store} {g : D → D} : ∀ (ds : List D) (o : Option D) (ys : List D), ds.length + ys.length ≤ lim → (∀ x ∈ ds, ∀ ys, ev C elt (some x :: caps) (S ++ [.lst ys]) = .ok (g x) (S ++ [.lst ys])) →
    ∃ σ', compL ⟨ds0, []⟩ (fun x σ S1 => (ob (assign [0] x S1 σ) S1).bind fun σ S1 => (evt C [] σ S1).bind fun b S1 => if b then (ev C elt σ S1).bind fun y S1 => (push S.length y S1).bind fun _ S1 => .ok σ S1 else .ok σ S1) ds (o :: caps) (S ++ [.lst ys]) = .ok σ' (S ++ [.lst (ys ++ ds.map g)])
  | [], o, ys, _, _ => ⟨_, by rw [List.map_nil, List.append_nil]; rfl⟩
  | x :: ds, o, ys, hl, h => by
    obtain ⟨σ', e⟩ := compL_tup (C := C) (elt := elt) (caps := caps) (S := S) (g := g) (ds0 := ds0) ds (some x) (ys ++ [g x]) (by simp at hl ⊢; omega) fun y hy => h y (List.mem_cons_of_mem _ hy)
    refine ⟨σ', ?_⟩
    rw [compL]
    have h1 := h x (List.mem_cons_self ..) ys
    simp only [Walk.still, List.all_nil, if_true]
    show R.bind (R.bind (ev C elt (some x :: caps) (S ++ [.lst ys])) _) _ = _
    rw [h1]
    have hp : push S.length (g x) (S ++ [.lst ys]) = .ok () (S ++ [.lst (ys ++ [g x])]) := by
      unfold push
      rw [last_lst]
      show (if ys.length < lim then _ else _) = _
      rw [if_pos (by simp at hl; omega), set_last]
    show R.bind (R.bind (push S.length (g x) (S ++ [.lst ys])) _) _ = _
    rw [hp]
    show compL _ _ ds (some x :: caps) (S ++ [.lst (ys ++ [g x])]) = _
    rw [e, List.append_assoc]
    rfl
theorem comp_tup {C : Calls} {cap : List Nat} {i : Nat} {elt : E} {σ : Lc} {S : Store} {ds : List D} {g : D → D} (hi : (σ[i]?).join = some (.tup ds)) (hl : ds.length ≤ lim) (h : ∀ x ∈ ds, ∀ ys, ev C elt (some x :: cap.map fun i => (σ[i]?).join) (S ++ [.lst ys]) = .ok (g x) (S ++ [.lst ys])) :
    ev C (.comp1 cap 1 [0] (.of (.v i)) [] elt) σ S = .ok (.loc S.length) (S ++ [.lst (ds.map g)]) := by
  obtain ⟨σ', e⟩ := compL_tup (ds0 := ds) ds none [] (by simpa using hl) h
  rw [ev, evw, ev, hi]
  show R.bind (compL ⟨ds, []⟩ _ ds (none :: cap.map fun i => (σ[i]?).join) (S ++ [.lst []])) _ = _
  rw [e]
  rfl
theorem truths_bl {g : D → Bool} : ∀ ds : List D, truths (ds.map fun x => .bl (g x)) = some (ds.map g)
  | [] => rfl
  | x :: ds => by rw [List.map_cons, truths, truths_bl ds]; rfl
theorem all_last {S : Store} {ds : List D} {g : D → Bool} : bltin .all [.loc S.length] (S ++ [.lst (ds.map fun x => .bl (g x))]) = .ok (.bl (ds.all g)) (S ++ [.lst (ds.map fun x => .bl (g x))]) := by
  show R.bind (ob (lstAt _ _) _) _ = _
  rw [last_lst]
  show R.bind (ob (truths _) _) _ = _
  rw [truths_bl]
  show R.ok (D.bl ((ds.map g).all id)) _ = _
  rw [List.all_map]
  rfl
/-- a row of the space -/
def rw' (p n : Int) : D → Bool
  | .tup ds => decide ((ds.length : Int) = n) && ds.all (wh 0 (p - 1))
  | _ => false
theorem row_ok {S : Store} {x : D} {p n : Int} (d : Nat) (hn : n ≤ 1000) (h : Good2 S x) : ∃ T, calls fns (d + 2) 9 [.tup [.int p, .int n], x] S = .ok (.bl (rw' p n x)) (S ++ T) := by
  rw [show d + 2 = (d + 1) + 1 from rfl, calls]
  have hw := fun {x : D} (ys : List D) (lo hi : Int) (h : Good S x) => whole_ok (S := S ++ [.lst ys]) d lo hi (h.app _)
  generalize calls fns (d + 1) = C at hw ⊢
  simp only [fns, List.getElem?_cons_succ, List.getElem?_cons_zero]
  cases x with
  | fn _ => have := h.1 .int; simp [isTy] at this
  | exc _ _ => have := h.1 .int; simp [isTy] at this
  | loc k =>
    have h1 := ty_loc h.1 (t := .tuple) (by decide) (by decide)
    exact ⟨[], by simp [Ev.calls, Ev.runs, Ev.run, Ev.ev.eq_1, Ev.ev.eq_2, Ev.ev.eq_3, Ev.ev.eq_4, Ev.ev.eq_5, Ev.ev.eq_6, Ev.ev.eq_7, Ev.ev.eq_8, Ev.ev.eq_9, Ev.ev.eq_10, Ev.ev.eq_11, Ev.ev.eq_12, Ev.ev.eq_13, Ev.ev.eq_14, Ev.ev.eq_15, Ev.ev.eq_16, Ev.ev.eq_17, Ev.ev.eq_18, Ev.ev.eq_19, Ev.ev.eq_20, Ev.ev.eq_21, Ev.ev.eq_22, Ev.ev.eq_23, Ev.evs, Ev.evo, Ev.evt, Ev.tst, Ev.R.bind, Ev.ob, Ev.truth, Ev.assign, Ev.fill, Ev.start, Ev.lim, f_is_row, isAny, h1, rw']⟩
  | tup ds =>
    by_cases c : (ds.length : Int) = n
    · refine ⟨[.lst (ds.map fun x => .bl (wh 0 (p - 1) x))], ?_⟩
      have hc := comp_tup (C := C) (cap := [2]) (i := 1) (elt := .call 6 [(.v 0), (.c (.int 0)), (.bin .sub (.v 1) (.c (.int 1)))]) (σ := [some (.tup [.int p, .int n]), some (.tup ds), some (.int p), some (.int n)]) (S := S) (ds := ds) (g := fun x => .bl (wh 0 (p - 1) x)) rfl (by unfold lim; omega) (fun x hx ys => by
        have h1 := hw ys 0 (p - 1) (h.2 _ rfl x hx)
        simp [Ev.calls, Ev.runs, Ev.run, Ev.ev.eq_1, Ev.ev.eq_2, Ev.ev.eq_3, Ev.ev.eq_4, Ev.ev.eq_5, Ev.ev.eq_6, Ev.ev.eq_7, Ev.ev.eq_8, Ev.ev.eq_9, Ev.ev.eq_10, Ev.ev.eq_11, Ev.ev.eq_12, Ev.ev.eq_13, Ev.ev.eq_14, Ev.ev.eq_15, Ev.ev.eq_16, Ev.ev.eq_17, Ev.ev.eq_18, Ev.ev.eq_19, Ev.ev.eq_20, Ev.ev.eq_21, Ev.ev.eq_22, Ev.ev.eq_23, Ev.evs, Ev.evo, Ev.evt, Ev.tst, Ev.R.bind, Ev.ob, Ev.truth, Ev.assign, Ev.fill, Ev.start, Ev.lim, binop, h1])
      simp [Ev.calls, Ev.runs, Ev.run, Ev.ev.eq_1, Ev.ev.eq_2, Ev.ev.eq_3, Ev.ev.eq_4, Ev.ev.eq_5, Ev.ev.eq_6, Ev.ev.eq_7, Ev.ev.eq_8, Ev.ev.eq_9, Ev.ev.eq_10, Ev.ev.eq_11, Ev.ev.eq_12, Ev.ev.eq_13, Ev.ev.eq_14, Ev.ev.eq_15, Ev.ev.eq_16, Ev.ev.eq_17, Ev.ev.eq_18, Ev.ev.eq_19, Ev.ev.eq_20, Ev.ev.eq_21, Ev.ev.eq_22, Ev.ev.eq_23, Ev.evs, Ev.evo, Ev.evt, Ev.tst, Ev.R.bind, Ev.ob, Ev.truth, Ev.assign, Ev.fill, Ev.start, Ev.lim, f_is_row, isAny, isTy, bltin, seqOf, cmpop, eqD_int, c, hc, rw', last_lst, truths_bl, List.all_map, Function.comp]
    · refine ⟨[], ?_⟩
      simp [Ev.calls, Ev.runs, Ev.run, Ev.ev.eq_1, Ev.ev.eq_2, Ev.ev.eq_3, Ev.ev.eq_4, Ev.ev.eq_5, Ev.ev.eq_6, Ev.ev.eq_7, Ev.ev.eq_8, Ev.ev.eq_9, Ev.ev.eq_10, Ev.ev.eq_11, Ev.ev.eq_12, Ev.ev.eq_13, Ev.ev.eq_14, Ev.ev.eq_15, Ev.ev.eq_16, Ev.ev.eq_17, Ev.ev.eq_18, Ev.ev.eq_19, Ev.ev.eq_20, Ev.ev.eq_21, Ev.ev.eq_22, Ev.ev.eq_23, Ev.evs, Ev.evo, Ev.evt, Ev.tst, Ev.R.bind, Ev.ob, Ev.truth, Ev.assign, Ev.fill, Ev.start, Ev.lim, f_is_row, isAny, isTy, bltin, seqOf, cmpop, eqD_int, c, rw']
  | _ => exact ⟨[], by simp [Ev.calls, Ev.runs, Ev.run, Ev.ev.eq_1, Ev.ev.eq_2, Ev.ev.eq_3, Ev.ev.eq_4, Ev.ev.eq_5, Ev.ev.eq_6, Ev.ev.eq_7, Ev.ev.eq_8, Ev.ev.eq_9, Ev.ev.eq_10, Ev.ev.eq_11, Ev.ev.eq_12, Ev.ev.eq_13, Ev.ev.eq_14, Ev.ev.eq_15, Ev.ev.eq_16, Ev.ev.eq_17, Ev.ev.eq_18, Ev.ev.eq_19, Ev.ev.eq_20, Ev.ev.eq_21, Ev.ev.eq_22, Ev.ev.eq_23, Ev.evs, Ev.evo, Ev.evt, Ev.tst, Ev.R.bind, Ev.ob, Ev.truth, Ev.assign, Ev.fill, Ev.start, Ev.lim, f_is_row, isAny, isTy, rw']⟩
theorem lrow_ok {S : Store} {x : D} {p n : Int} (d : Nat) (hn : n ≤ 1000) (h : Good2 S x) : ∃ T, calls fns (d + 2) 13 [.tup [.int p, .int n], x] S = .ok (.bl (rw' p n x)) (S ++ T) := by
  rw [show d + 2 = (d + 1) + 1 from rfl, calls]
  have hw := fun {x : D} (ys : List D) (lo hi : Int) (h : Good S x) => whole2_ok (S := S ++ [.lst ys]) d lo hi (h.app _)
  generalize calls fns (d + 1) = C at hw ⊢
  simp only [fns, List.getElem?_cons_succ, List.getElem?_cons_zero]
  cases x with
  | fn _ => have := h.1 .int; simp [isTy] at this
  | exc _ _ => have := h.1 .int; simp [isTy] at this
  | loc k =>
    have h1 := ty_loc h.1 (t := .tuple) (by decide) (by decide)
    exact ⟨[], by simp [Ev.calls, Ev.runs, Ev.run, Ev.ev.eq_1, Ev.ev.eq_2, Ev.ev.eq_3, Ev.ev.eq_4, Ev.ev.eq_5, Ev.ev.eq_6, Ev.ev.eq_7, Ev.ev.eq_8, Ev.ev.eq_9, Ev.ev.eq_10, Ev.ev.eq_11, Ev.ev.eq_12, Ev.ev.eq_13, Ev.ev.eq_14, Ev.ev.eq_15, Ev.ev.eq_16, Ev.ev.eq_17, Ev.ev.eq_18, Ev.ev.eq_19, Ev.ev.eq_20, Ev.ev.eq_21, Ev.ev.eq_22, Ev.ev.eq_23, Ev.evs, Ev.evo, Ev.evt, Ev.tst, Ev.R.bind, Ev.ob, Ev.truth, Ev.assign, Ev.fill, Ev.start, Ev.lim, f__law_is_row, isAny, h1, rw']⟩
  | tup ds =>
    by_cases c : (ds.length : Int) = n
    · refine ⟨[.lst (ds.map fun x => .bl (wh 0 (p - 1) x))], ?_⟩
      have hc := comp_tup (C := C) (cap := [0]) (i := 1) (elt := .call 11 [(.v 0), (.c (.int 0)), (.bin .sub (.ix (.v 1) (.c (.int 0))) (.c (.int 1)))]) (σ := [some (.tup [.int p, .int n]), some (.tup ds)]) (S := S) (ds := ds) (g := fun x => .bl (wh 0 (p - 1) x)) rfl (by unfold lim; omega) (fun x hx ys => by
        have h1 := hw ys 0 (p - 1) (h.2 _ rfl x hx)
        simp [Ev.calls, Ev.runs, Ev.run, Ev.ev.eq_1, Ev.ev.eq_2, Ev.ev.eq_3, Ev.ev.eq_4, Ev.ev.eq_5, Ev.ev.eq_6, Ev.ev.eq_7, Ev.ev.eq_8, Ev.ev.eq_9, Ev.ev.eq_10, Ev.ev.eq_11, Ev.ev.eq_12, Ev.ev.eq_13, Ev.ev.eq_14, Ev.ev.eq_15, Ev.ev.eq_16, Ev.ev.eq_17, Ev.ev.eq_18, Ev.ev.eq_19, Ev.ev.eq_20, Ev.ev.eq_21, Ev.ev.eq_22, Ev.ev.eq_23, Ev.evs, Ev.evo, Ev.evt, Ev.tst, Ev.R.bind, Ev.ob, Ev.truth, Ev.assign, Ev.fill, Ev.start, Ev.lim, binop, h1, getix, at', ixN])
      simp [Ev.calls, Ev.runs, Ev.run, Ev.ev.eq_1, Ev.ev.eq_2, Ev.ev.eq_3, Ev.ev.eq_4, Ev.ev.eq_5, Ev.ev.eq_6, Ev.ev.eq_7, Ev.ev.eq_8, Ev.ev.eq_9, Ev.ev.eq_10, Ev.ev.eq_11, Ev.ev.eq_12, Ev.ev.eq_13, Ev.ev.eq_14, Ev.ev.eq_15, Ev.ev.eq_16, Ev.ev.eq_17, Ev.ev.eq_18, Ev.ev.eq_19, Ev.ev.eq_20, Ev.ev.eq_21, Ev.ev.eq_22, Ev.ev.eq_23, Ev.evs, Ev.evo, Ev.evt, Ev.tst, Ev.R.bind, Ev.ob, Ev.truth, Ev.assign, Ev.fill, Ev.start, Ev.lim, f__law_is_row, isAny, isTy, bltin, seqOf, cmpop, eqD_int, getix, at', ixN, c, hc, rw', last_lst, truths_bl, List.all_map, Function.comp]
    · refine ⟨[], ?_⟩
      simp [Ev.calls, Ev.runs, Ev.run, Ev.ev.eq_1, Ev.ev.eq_2, Ev.ev.eq_3, Ev.ev.eq_4, Ev.ev.eq_5, Ev.ev.eq_6, Ev.ev.eq_7, Ev.ev.eq_8, Ev.ev.eq_9, Ev.ev.eq_10, Ev.ev.eq_11, Ev.ev.eq_12, Ev.ev.eq_13, Ev.ev.eq_14, Ev.ev.eq_15, Ev.ev.eq_16, Ev.ev.eq_17, Ev.ev.eq_18, Ev.ev.eq_19, Ev.ev.eq_20, Ev.ev.eq_21, Ev.ev.eq_22, Ev.ev.eq_23, Ev.evs, Ev.evo, Ev.evt, Ev.tst, Ev.R.bind, Ev.ob, Ev.truth, Ev.assign, Ev.fill, Ev.start, Ev.lim, f__law_is_row, isAny, isTy, bltin, seqOf, cmpop, eqD_int, getix, at', ixN, c, rw']
  | _ => exact ⟨[], by simp [Ev.calls, Ev.runs, Ev.run, Ev.ev.eq_1, Ev.ev.eq_2, Ev.ev.eq_3, Ev.ev.eq_4, Ev.ev.eq_5, Ev.ev.eq_6, Ev.ev.eq_7, Ev.ev.eq_8, Ev.ev.eq_9, Ev.ev.eq_10, Ev.ev.eq_11, Ev.ev.eq_12, Ev.ev.eq_13, Ev.ev.eq_14, Ev.ev.eq_15, Ev.ev.eq_16, Ev.ev.eq_17, Ev.ev.eq_18, Ev.ev.eq_19, Ev.ev.eq_20, Ev.ev.eq_21, Ev.ev.eq_22, Ev.ev.eq_23, Ev.evs, Ev.evo, Ev.evt, Ev.tst, Ev.R.bind, Ev.ob, Ev.truth, Ev.assign, Ev.fill, Ev.start, Ev.lim, f__law_is_row, isAny, isTy, rw']⟩
def goods : List D := [.tup [.int 2, .int 1], .tup [.int 2, .int 2], .tup [.int 2, .int 3], .tup [.int 2, .int 4], .tup [.int 2, .int 5], .tup [.int 2, .int 6], .tup [.int 3, .int 1], .tup [.int 3, .int 2], .tup [.int 3, .int 3], .tup [.int 3, .int 4], .tup [.int 5, .int 1], .tup [.int 5, .int 2], .tup [.int 5, .int 3]]
theorem in_goods {S : Store} {p n : Int} (h : (1 ≤ p ∧ p ≤ 6) ∧ 1 ≤ n ∧ n ≤ 6) : inL S (.tup [.int p, .int n]) goods = some (sp (.tup [.int p, .int n])) := by
  have hp : p = 1 ∨ p = 2 ∨ p = 3 ∨ p = 4 ∨ p = 5 ∨ p = 6 := by omega
  have hn : n = 1 ∨ n = 2 ∨ n = 3 ∨ n = 4 ∨ n = 5 ∨ n = 6 := by omega
  rcases hp with z | z | z | z | z | z <;> subst z <;> rcases hn with z | z | z | z | z | z <;> subst z <;> rfl
theorem due_ok {S : Store} {x : D} (d : Nat) (h0 : Good2 S x) : ∃ T, calls fns (d + 2) 12 [x] S = .ok (.bl (sp x)) (S ++ T) := by
  rw [show d + 2 = (d + 1) + 1 from rfl, calls]
  have hw := fun {x : D} (ys : List D) (lo hi : Int) (h : Good (S ++ [.lst goods]) x) => whole2_ok (S := S ++ [.lst goods] ++ [.lst ys]) d lo hi (h.app _)
  generalize calls fns (d + 1) = C at hw ⊢
  simp only [fns, List.getElem?_cons_succ, List.getElem?_cons_zero]
  have h := h0.app [.lst goods]
  have hg : ∀ T, (S ++ .lst goods :: T)[S.length]? = some (.lst goods) := fun T => by
    rw [List.getElem?_append_right (Nat.le_refl _), Nat.sub_self]; rfl
  cases x with
  | fn _ => have := h.1 .int; simp [isTy] at this
  | exc _ _ => have := h.1 .int; simp [isTy] at this
  | loc k =>
    have h1 := ty_loc h.1 (t := .tuple) (by decide) (by decide)
    exact ⟨[.lst goods], by simp [Ev.calls, Ev.runs, Ev.run, Ev.ev.eq_1, Ev.ev.eq_2, Ev.ev.eq_3, Ev.ev.eq_4, Ev.ev.eq_5, Ev.ev.eq_6, Ev.ev.eq_7, Ev.ev.eq_8, Ev.ev.eq_9, Ev.ev.eq_10, Ev.ev.eq_11, Ev.ev.eq_12, Ev.ev.eq_13, Ev.ev.eq_14, Ev.ev.eq_15, Ev.ev.eq_16, Ev.ev.eq_17, Ev.ev.eq_18, Ev.ev.eq_19, Ev.ev.eq_20, Ev.ev.eq_21, Ev.ev.eq_22, Ev.ev.eq_23, Ev.evs, Ev.evo, Ev.evt, Ev.tst, Ev.R.bind, Ev.ob, Ev.truth, Ev.assign, Ev.fill, Ev.start, Ev.lim, f__law_due, goods.eq_1 ▸ h1, sp, isAny]; rfl⟩
  | tup ds =>
    by_cases c : (ds.length : Int) = 2
    · obtain ⟨a, b, rfl⟩ := len2.mp c
      refine ⟨[.lst goods, .lst ([a, b].map fun x => .bl (wh 1 6 x))], ?_⟩
      have hc := comp_tup (C := C) (cap := []) (i := 0) (elt := .call 11 [(.v 0), (.c (.int 1)), (.c (.int 6))]) (σ := [some (.tup [a, b]), some (.loc S.length)]) (S := S ++ [.lst goods]) (ds := [a, b]) (g := fun x => .bl (wh 1 6 x)) rfl (by unfold lim; simp) (fun x hx ys => by
        have h1 := hw ys 1 6 (h.2 _ rfl x hx)
        simp only [List.append_assoc, List.cons_append, List.nil_append] at h1 ⊢
        simp [Ev.calls, Ev.runs, Ev.run, Ev.ev.eq_1, Ev.ev.eq_2, Ev.ev.eq_3, Ev.ev.eq_4, Ev.ev.eq_5, Ev.ev.eq_6, Ev.ev.eq_7, Ev.ev.eq_8, Ev.ev.eq_9, Ev.ev.eq_10, Ev.ev.eq_11, Ev.ev.eq_12, Ev.ev.eq_13, Ev.ev.eq_14, Ev.ev.eq_15, Ev.ev.eq_16, Ev.ev.eq_17, Ev.ev.eq_18, Ev.ev.eq_19, Ev.ev.eq_20, Ev.ev.eq_21, Ev.ev.eq_22, Ev.ev.eq_23, Ev.evs, Ev.evo, Ev.evt, Ev.tst, Ev.R.bind, Ev.ob, Ev.truth, Ev.assign, Ev.fill, Ev.start, Ev.lim, h1])
      have hl := last_lst (S := S ++ [.lst goods]) (xs := [a, b].map fun x => .bl (wh 1 6 x))
      have hin : ∀ S p n, (1 ≤ p ∧ p ≤ 6) ∧ 1 ≤ n ∧ n ≤ 6 → inL S (.tup [.int p, .int n]) goods = some (sp (.tup [.int p, .int n])) := fun S p n h => in_goods h
      simp only [goods, List.map_cons, List.map_nil, List.append_assoc, List.cons_append, List.nil_append, List.length_append, List.length_cons, List.length_nil, Nat.zero_add] at hc hl hg hin ⊢
      have no : ∀ lo hi x, wh lo hi x = true → ∃ i, x = .int i ∧ lo ≤ i ∧ i ≤ hi := fun lo hi x e => by
        cases x <;> simp [wh] at e
        exact ⟨_, rfl, e⟩
      by_cases ca : wh 1 6 a = true
      · by_cases cb : wh 1 6 b = true
        · obtain ⟨i, rfl, hi⟩ := no _ _ _ ca
          obtain ⟨j, rfl, hj⟩ := no _ _ _ cb
          have := hin (S ++ [Ob.lst goods, .lst [.bl true, .bl true]]) i j ⟨hi, hj⟩
          simp only [goods] at this
          simp only [ca, cb] at hc hl
          simp [Ev.calls, Ev.runs, Ev.run, Ev.ev.eq_1, Ev.ev.eq_2, Ev.ev.eq_3, Ev.ev.eq_4, Ev.ev.eq_5, Ev.ev.eq_6, Ev.ev.eq_7, Ev.ev.eq_8, Ev.ev.eq_9, Ev.ev.eq_10, Ev.ev.eq_11, Ev.ev.eq_12, Ev.ev.eq_13, Ev.ev.eq_14, Ev.ev.eq_15, Ev.ev.eq_16, Ev.ev.eq_17, Ev.ev.eq_18, Ev.ev.eq_19, Ev.ev.eq_20, Ev.ev.eq_21, Ev.ev.eq_22, Ev.ev.eq_23, Ev.evs, Ev.evo, Ev.evt, Ev.tst, Ev.R.bind, Ev.ob, Ev.truth, Ev.assign, Ev.fill, Ev.start, Ev.lim, f__law_due, isAny, isTy, bltin, seqOf, cmpop, eqD_int, hc, hl, truths, ptruth, isIn, inOb, hg, ca, cb, this]
        · have cb' : wh 1 6 b = false := by simpa using cb
          have : sp (.tup [a, b]) = false := by
            cases a <;> cases b <;> simp [sp, wh] at ca cb ⊢
            omega
          simp only [ca, cb'] at hc hl
          simp [Ev.calls, Ev.runs, Ev.run, Ev.ev.eq_1, Ev.ev.eq_2, Ev.ev.eq_3, Ev.ev.eq_4, Ev.ev.eq_5, Ev.ev.eq_6, Ev.ev.eq_7, Ev.ev.eq_8, Ev.ev.eq_9, Ev.ev.eq_10, Ev.ev.eq_11, Ev.ev.eq_12, Ev.ev.eq_13, Ev.ev.eq_14, Ev.ev.eq_15, Ev.ev.eq_16, Ev.ev.eq_17, Ev.ev.eq_18, Ev.ev.eq_19, Ev.ev.eq_20, Ev.ev.eq_21, Ev.ev.eq_22, Ev.ev.eq_23, Ev.evs, Ev.evo, Ev.evt, Ev.tst, Ev.R.bind, Ev.ob, Ev.truth, Ev.assign, Ev.fill, Ev.start, Ev.lim, f__law_due, isAny, isTy, bltin, seqOf, cmpop, eqD_int, hc, hl, truths, ptruth, isIn, inOb, hg, ca, cb', this]
      · have ca' : wh 1 6 a = false := by simpa using ca
        have : sp (.tup [a, b]) = false := by
            cases a <;> cases b <;> simp [sp, wh] at ca ⊢
            omega
        simp only [ca'] at hc hl
        simp [Ev.calls, Ev.runs, Ev.run, Ev.ev.eq_1, Ev.ev.eq_2, Ev.ev.eq_3, Ev.ev.eq_4, Ev.ev.eq_5, Ev.ev.eq_6, Ev.ev.eq_7, Ev.ev.eq_8, Ev.ev.eq_9, Ev.ev.eq_10, Ev.ev.eq_11, Ev.ev.eq_12, Ev.ev.eq_13, Ev.ev.eq_14, Ev.ev.eq_15, Ev.ev.eq_16, Ev.ev.eq_17, Ev.ev.eq_18, Ev.ev.eq_19, Ev.ev.eq_20, Ev.ev.eq_21, Ev.ev.eq_22, Ev.ev.eq_23, Ev.evs, Ev.evo, Ev.evt, Ev.tst, Ev.R.bind, Ev.ob, Ev.truth, Ev.assign, Ev.fill, Ev.start, Ev.lim, f__law_due, isAny, isTy, bltin, seqOf, cmpop, eqD_int, hc, hl, truths, ptruth, isIn, inOb, hg, ca', this]
    · refine ⟨[.lst goods], ?_⟩
      rw [sp_len c]
      simp [Ev.calls, Ev.runs, Ev.run, Ev.ev.eq_1, Ev.ev.eq_2, Ev.ev.eq_3, Ev.ev.eq_4, Ev.ev.eq_5, Ev.ev.eq_6, Ev.ev.eq_7, Ev.ev.eq_8, Ev.ev.eq_9, Ev.ev.eq_10, Ev.ev.eq_11, Ev.ev.eq_12, Ev.ev.eq_13, Ev.ev.eq_14, Ev.ev.eq_15, Ev.ev.eq_16, Ev.ev.eq_17, Ev.ev.eq_18, Ev.ev.eq_19, Ev.ev.eq_20, Ev.ev.eq_21, Ev.ev.eq_22, Ev.ev.eq_23, Ev.evs, Ev.evo, Ev.evt, Ev.tst, Ev.R.bind, Ev.ob, Ev.truth, Ev.assign, Ev.fill, Ev.start, Ev.lim, f__law_due, isAny, isTy, bltin, seqOf, cmpop, eqD_int, c, goods]
  | _ => exact ⟨[.lst goods], by simp [Ev.calls, Ev.runs, Ev.run, Ev.ev.eq_1, Ev.ev.eq_2, Ev.ev.eq_3, Ev.ev.eq_4, Ev.ev.eq_5, Ev.ev.eq_6, Ev.ev.eq_7, Ev.ev.eq_8, Ev.ev.eq_9, Ev.ev.eq_10, Ev.ev.eq_11, Ev.ev.eq_12, Ev.ev.eq_13, Ev.ev.eq_14, Ev.ev.eq_15, Ev.ev.eq_16, Ev.ev.eq_17, Ev.ev.eq_18, Ev.ev.eq_19, Ev.ev.eq_20, Ev.ev.eq_21, Ev.ev.eq_22, Ev.ev.eq_23, Ev.evs, Ev.evo, Ev.evt, Ev.tst, Ev.R.bind, Ev.ob, Ev.truth, Ev.assign, Ev.fill, Ev.start, Ev.lim, f__law_due, isAny, isTy, sp, goods]⟩
end K11

set_option linter.all false
set_option maxRecDepth 100000
namespace K11
open Ev
section
variable {C : Calls} {σ : Lc} {S S1 S2 S' : Store} {e ei : E} {es : List E} {ss : List Sm} {x : D} {xs : List D} {i : Int} {n : Nat}
theorem ix_menu (h1 : evs C es σ S = .ok xs S1) (hl : xs.length ≤ 1000) (h2 : ev C ei σ (S1 ++ [.lst xs]) = .ok (.int i) S2) (keep : S2[S1.length]? = some (.lst xs)) (h0 : 0 ≤ i) (hi : i < xs.length) :
    ∃ x, x ∈ xs ∧ xs[i.toNat]? = some x ∧ ev C (.ix (.lst es) ei) σ S = .ok x S2 := by
  have hlt : i.toNat < xs.length := by omega
  refine ⟨xs[i.toNat], List.getElem_mem hlt, List.getElem?_eq_getElem hlt, ?_⟩
  rw [ev, ev, h1]
  show R.bind (if xs.length ≤ lim then _ else _) _ = _
  rw [if_pos (by unfold lim; omega)]
  show R.bind (ev C ei σ (S1 ++ [.lst xs])) _ = _
  rw [h2]
  show getix (.loc S1.length) (.int i) S2 = _
  simp [getix, seqAt, keep, at', ixN, h0, hi, ob, hlt]
theorem ev_ix {a b : E} {y : D} (h1 : ev C a σ S = .ok x S1) (h2 : ev C b σ S1 = .ok y S2) : ev C (.ix a b) σ S = getix x y S2 := by
  rw [ev, h1]
  show R.bind (ev C b σ S1) _ = _
  rw [h2]
  rfl
theorem ev_bin {a b : E} {y : D} {op : Bop} (h1 : ev C a σ S = .ok x S1) (h2 : ev C b σ S1 = .ok y S2) : ev C (.bin op a b) σ S = binop op x y S2 := by
  rw [ev, h1]
  show R.bind (ev C b σ S1) _ = _
  rw [h2]
  rfl
theorem ev_call {f : Nat} (h1 : evs C es σ S = .ok xs S1) : ev C (.call f es) σ S = C f xs S1 := by
  rw [ev, h1]; rfl
theorem get_lst {k : Nat} {ys : List D} {j : Nat} (h : S[k]? = some (.lst ys)) (hj : j < ys.length) : getix (.loc k) (.int j) S = .ok ys[j] S := by
  simp [getix, seqAt, h, at', ixN, ob, hj]
theorem runs_asg1 {k : Nat} (h : ev C e σ S = .ok x S') : runs C (.asg [k] e :: ss) σ S = runs C ss (σ.set k (some x)) S' := by
  rw [runs, run, h]; rfl
theorem runs_ret (h : ev C e σ S = .ok x S') : runs C (.ret e :: ss) σ S = .ok (.ret x) S' := by
  rw [runs, run, h]; rfl
theorem call_ret {f : Nat} {fn : Fn} {d : Nat} (hf : fns[f]? = some fn) (hl : xs.length = fn.ps) (h : runs (calls fns d) fn.body (start fn.ns xs) S = .ok (.ret x) S') : calls fns (d + 1) f xs S = .ok x S' := by
  rw [calls, hf]
  show (if xs.length = fn.ps then _ else _) = _
  rw [if_pos hl, h]
  rfl
theorem Gr.at {k : Nat} {o : Ob} (g : Gr n S S') (hk : k ≠ n) (h : S[k]? = some o) : S'[k]? = some o := g.1 k o hk h
theorem last_at {o : Ob} : (S ++ [o])[S.length]? = some o := by rw [List.getElem?_append_right (Nat.le_refl _), Nat.sub_self]; rfl
theorem Dr.ne (h : Dr n S) : S.length ≠ n := fun e => by
  obtain ⟨a, b, h1, _⟩ := h
  have := lt_of_some h1
  omega
end
def Tk (C : Calls) : Prop := ∀ {n : Nat} {S : Store} (m : Int), Dr n S → 0 < m → m < 1073741824 → ∃ v S', Gr n S S' ∧ 0 ≤ v ∧ v < m ∧ C 2 [.loc n, .int m] S = .ok (.int v) S'
theorem tk (d : Nat) : Tk (calls fns (d + 1)) := fun m h m0 m1 => let ⟨v, S', g, _, v0, v1, e⟩ := take_ok d m h m0 m1; ⟨v, S', g, v0, v1, e⟩
def menuP : List D := [.int 2, .int 3, .int 5, .int 4, .int 1, .int 7, .int 0, .int (-2), .bl true, .non, .str (PySem.Str.ofString "2"), .tup [.int 2], .int (10 ^ 29)]
def menuN : List D := [.int 1, .int 2, .int 3, .int 4, .int 5, .int 6, .int 7, .int 0, .int (-1), .bl true, .non, .str (PySem.Str.ofString "3"), .tup [.int 3]]
def simple : D → Bool
  | .non | .bl _ | .int _ | .str _ | .tup _ => true
  | _ => false
def plain : D → Bool
  | .tup ds => ds.all simple
  | .non | .bl _ | .int _ | .str _ => true
  | _ => false
theorem simple_good {S : Store} {x : D} (h : simple x = true) : Good S x := by
  cases x <;> first | exact good_non | exact good_bl | exact good_int | exact good_str | exact good_tup | cases h
theorem plain_good {S : Store} {x : D} (h : plain x = true) : Good S x := by
  cases x <;> first | exact good_non | exact good_bl | exact good_int | exact good_str | exact good_tup | cases h
theorem plain_good2 {S : Store} {x : D} (h : plain x = true) : Good2 S x := ⟨plain_good h, fun ds e d hd => by subst e; exact simple_good (List.all_eq_true.mp h d hd)⟩
def menu14 : List Nat := [0, 0, 0, 0, 0, 1, 2, 3, 4, 5, 6, 7, 8, 9]
theorem draw_p {C : Calls} {S : Store} {n : Nat} {r : Lc} (T : Tk C) (h : Dr n S) : ∃ p S1, Gr n S S1 ∧ plain p = true ∧ ev C (.ix (.lst [(.c (.int 2)), (.c (.int 3)), (.c (.int 5)), (.c (.int 4)), (.c (.int 1)), (.c (.int 7)), (.c (.int 0)), (.neg (.c (.int 2))), (.c (.bl true)), (.c .non), (.c (.str (PySem.Str.ofString "2"))), (.tup [(.c (.int 2))]), (.bin .pow (.c (.int 10)) (.c (.int 29)))]) (.ix (.lst [(.c (.int 0)), (.c (.int 1)), (.c (.int 2)), (.call 2 [(.v 0), (.c (.int 13))])]) (.call 2 [(.v 0), (.c (.int 4))]))) (some (.loc n) :: r) S = .ok p S1 := by
  have h1 := h.app [.lst menuP]
  obtain ⟨v, S1, g1, v0, v1, e1⟩ := T 13 h1 (by omega) (by omega)
  have h2 := g1.2.app [.lst [.int 0, .int 1, .int 2, .int v]]
  obtain ⟨w, S2, g2, w0, w1, e2⟩ := T 4 h2 (by omega) (by omega)
  have k2 := g2.at g1.2.ne last_at
  have g12 := g1.trans ((Gr.app g1.2 [.lst [.int 0, .int 1, .int 2, .int v]]).trans g2)
  have k1 := g12.at h.ne last_at
  have ain : ∃ j, (0 ≤ j ∧ j < 13) ∧ ev C (.ix (.lst [(.c (.int 0)), (.c (.int 1)), (.c (.int 2)), (.call 2 [(.v 0), (.c (.int 13))])]) (.call 2 [(.v 0), (.c (.int 4))])) (some (.loc n) :: r) (S ++ [.lst menuP]) = .ok (.int j) S2 := by
    obtain ⟨x, m, _, e⟩ := ix_menu (C := C) (es := [(.c (.int 0)), (.c (.int 1)), (.c (.int 2)), (.call 2 [(.v 0), (.c (.int 13))])]) (ei := .call 2 [(.v 0), (.c (.int 4))]) (σ := some (.loc n) :: r) (S := S ++ [.lst menuP]) (xs := [.int 0, .int 1, .int 2, .int v]) (S1 := S1) (S2 := S2) (i := w)
      (by simp [Ev.calls, Ev.runs, Ev.run, Ev.ev.eq_1, Ev.ev.eq_2, Ev.ev.eq_3, Ev.ev.eq_4, Ev.ev.eq_5, Ev.ev.eq_6, Ev.ev.eq_7, Ev.ev.eq_8, Ev.ev.eq_9, Ev.ev.eq_10, Ev.ev.eq_11, Ev.ev.eq_12, Ev.ev.eq_13, Ev.ev.eq_14, Ev.ev.eq_15, Ev.ev.eq_16, Ev.ev.eq_17, Ev.ev.eq_18, Ev.ev.eq_19, Ev.ev.eq_20, Ev.ev.eq_21, Ev.ev.eq_22, Ev.ev.eq_23, Ev.evs, Ev.evo, Ev.evt, Ev.tst, Ev.R.bind, Ev.ob, Ev.truth, Ev.assign, Ev.fill, Ev.start, Ev.lim, e1] ) (by simp) (by simp [Ev.calls, Ev.runs, Ev.run, Ev.ev.eq_1, Ev.ev.eq_2, Ev.ev.eq_3, Ev.ev.eq_4, Ev.ev.eq_5, Ev.ev.eq_6, Ev.ev.eq_7, Ev.ev.eq_8, Ev.ev.eq_9, Ev.ev.eq_10, Ev.ev.eq_11, Ev.ev.eq_12, Ev.ev.eq_13, Ev.ev.eq_14, Ev.ev.eq_15, Ev.ev.eq_16, Ev.ev.eq_17, Ev.ev.eq_18, Ev.ev.eq_19, Ev.ev.eq_20, Ev.ev.eq_21, Ev.ev.eq_22, Ev.ev.eq_23, Ev.evs, Ev.evo, Ev.evt, Ev.tst, Ev.R.bind, Ev.ob, Ev.truth, Ev.assign, Ev.fill, Ev.start, Ev.lim, e2]) k2 w0 w1
    simp at m
    rcases m with m | m | m | m <;> subst m
    · exact ⟨0, by omega, e⟩
    · exact ⟨1, by omega, e⟩
    · exact ⟨2, by omega, e⟩
    · exact ⟨v, by omega, e⟩
  obtain ⟨j, hj, ej⟩ := ain
  obtain ⟨x, m, _, e⟩ := ix_menu (C := C) (es := [(.c (.int 2)), (.c (.int 3)), (.c (.int 5)), (.c (.int 4)), (.c (.int 1)), (.c (.int 7)), (.c (.int 0)), (.neg (.c (.int 2))), (.c (.bl true)), (.c .non), (.c (.str (PySem.Str.ofString "2"))), (.tup [(.c (.int 2))]), (.bin .pow (.c (.int 10)) (.c (.int 29)))]) (σ := some (.loc n) :: r) (S := S) (xs := menuP) (S1 := S) (S2 := S2) (i := j) (by simp [Ev.calls, Ev.runs, Ev.run, Ev.ev.eq_1, Ev.ev.eq_2, Ev.ev.eq_3, Ev.ev.eq_4, Ev.ev.eq_5, Ev.ev.eq_6, Ev.ev.eq_7, Ev.ev.eq_8, Ev.ev.eq_9, Ev.ev.eq_10, Ev.ev.eq_11, Ev.ev.eq_12, Ev.ev.eq_13, Ev.ev.eq_14, Ev.ev.eq_15, Ev.ev.eq_16, Ev.ev.eq_17, Ev.ev.eq_18, Ev.ev.eq_19, Ev.ev.eq_20, Ev.ev.eq_21, Ev.ev.eq_22, Ev.ev.eq_23, Ev.evs, Ev.evo, Ev.evt, Ev.tst, Ev.R.bind, Ev.ob, Ev.truth, Ev.assign, Ev.fill, Ev.start, Ev.lim, binop, menuP]) (by simp [menuP]) ej k1 hj.1 hj.2
  refine ⟨x, S2, (Gr.app h [.lst menuP]).trans g12, ?_, e⟩
  have : menuP.all plain = true := rfl
  exact List.all_eq_true.mp this x m
theorem draw_n {C : Calls} {S : Store} {n : Nat} {r : Lc} (T : Tk C) (h : Dr n S) : ∃ p S1, Gr n S S1 ∧ plain p = true ∧ ev C (.ix (.lst [(.c (.int 1)), (.c (.int 2)), (.c (.int 3)), (.c (.int 4)), (.c (.int 5)), (.c (.int 6)), (.c (.int 7)), (.c (.int 0)), (.neg (.c (.int 1))), (.c (.bl true)), (.c .non), (.c (.str (PySem.Str.ofString "3"))), (.tup [(.c (.int 3))])]) (.call 2 [(.v 0), (.c (.int 13))])) (some (.loc n) :: r) S = .ok p S1 := by
  have h1 := h.app [.lst menuN]
  obtain ⟨v, S1, g1, v0, v1, e1⟩ := T 13 h1 (by omega) (by omega)
  have k1 := g1.at h.ne last_at
  obtain ⟨x, m, _, e⟩ := ix_menu (C := C) (es := [(.c (.int 1)), (.c (.int 2)), (.c (.int 3)), (.c (.int 4)), (.c (.int 5)), (.c (.int 6)), (.c (.int 7)), (.c (.int 0)), (.neg (.c (.int 1))), (.c (.bl true)), (.c .non), (.c (.str (PySem.Str.ofString "3"))), (.tup [(.c (.int 3))])]) (ei := .call 2 [(.v 0), (.c (.int 13))]) (σ := some (.loc n) :: r) (S := S) (xs := menuN) (S1 := S) (S2 := S1) (i := v) (by simp [Ev.calls, Ev.runs, Ev.run, Ev.ev.eq_1, Ev.ev.eq_2, Ev.ev.eq_3, Ev.ev.eq_4, Ev.ev.eq_5, Ev.ev.eq_6, Ev.ev.eq_7, Ev.ev.eq_8, Ev.ev.eq_9, Ev.ev.eq_10, Ev.ev.eq_11, Ev.ev.eq_12, Ev.ev.eq_13, Ev.ev.eq_14, Ev.ev.eq_15, Ev.ev.eq_16, Ev.ev.eq_17, Ev.ev.eq_18, Ev.ev.eq_19, Ev.ev.eq_20, Ev.ev.eq_21, Ev.ev.eq_22, Ev.ev.eq_23, Ev.evs, Ev.evo, Ev.evt, Ev.tst, Ev.R.bind, Ev.ob, Ev.truth, Ev.assign, Ev.fill, Ev.start, Ev.lim, binop, menuN]) (by simp [menuN]) (by simp [Ev.calls, Ev.runs, Ev.run, Ev.ev.eq_1, Ev.ev.eq_2, Ev.ev.eq_3, Ev.ev.eq_4, Ev.ev.eq_5, Ev.ev.eq_6, Ev.ev.eq_7, Ev.ev.eq_8, Ev.ev.eq_9, Ev.ev.eq_10, Ev.ev.eq_11, Ev.ev.eq_12, Ev.ev.eq_13, Ev.ev.eq_14, Ev.ev.eq_15, Ev.ev.eq_16, Ev.ev.eq_17, Ev.ev.eq_18, Ev.ev.eq_19, Ev.ev.eq_20, Ev.ev.eq_21, Ev.ev.eq_22, Ev.ev.eq_23, Ev.evs, Ev.evo, Ev.evt, Ev.tst, Ev.R.bind, Ev.ob, Ev.truth, Ev.assign, Ev.fill, Ev.start, Ev.lim, e1]) k1 v0 v1
  refine ⟨x, S1, (Gr.app h [.lst menuN]).trans g1, ?_, e⟩
  have : menuN.all plain = true := rfl
  exact List.all_eq_true.mp this x m
theorem space_like_ok {S : Store} {n : Nat} (d : Nat) (h : Dr n S) : ∃ x S', Gr n S S' ∧ Good2 S' x ∧ calls fns (d + 2) 5 [.loc n] S = .ok x S' := by
  have T : Tk (calls fns (d + 1)) := tk d
  obtain ⟨p, S1, g1, hp, e1⟩ := draw_p (r := [none, none, none]) T h
  obtain ⟨q, S2, g2, hq, e2⟩ := draw_n (r := [some p, none, none]) T g1.2
  -- the menu of things
  let menu : List D := [.tup [p, q], .loc S2.length, .tup [p], .tup [p, q, .int 1], .non, .loc (S2.length + 1), p, .tup [.tup [p, q]], .tup [q, p], .tup []]
  let S3 := S2 ++ [.lst [p, q]] ++ [.dt []] ++ [.lst menu]
  have h3 : Dr n S3 := ((g2.2.app _).app _).app _
  let ixs : List D := [.int 0, .int 0, .int 0, .int 0, .int 0, .int 1, .int 2, .int 3, .int 4, .int 5, .int 6, .int 7, .int 8, .int 9]
  obtain ⟨v, S4, g4, v0, v1, e4⟩ := T 14 (h3.app [.lst ixs]) (by omega) (by omega)
  have g34 := (Gr.app h3 [.lst ixs]).trans g4
  have a1 : ev (calls fns (d + 1)) (.lst [(.tup [(.v 1), (.v 2)]), (.lst [(.v 1), (.v 2)]), (.tup [(.v 1)]), (.tup [(.v 1), (.v 2), (.c (.int 1))]), (.c .non), .dnew, (.v 1), (.tup [(.tup [(.v 1), (.v 2)])]), (.tup [(.v 2), (.v 1)]), (.tup [])]) [some (.loc n), some p, some q, none] S2 = .ok (.loc (S2.length + 2)) S3 := by
    simp [Ev.calls, Ev.runs, Ev.run, Ev.ev.eq_1, Ev.ev.eq_2, Ev.ev.eq_3, Ev.ev.eq_4, Ev.ev.eq_5, Ev.ev.eq_6, Ev.ev.eq_7, Ev.ev.eq_8, Ev.ev.eq_9, Ev.ev.eq_10, Ev.ev.eq_11, Ev.ev.eq_12, Ev.ev.eq_13, Ev.ev.eq_14, Ev.ev.eq_15, Ev.ev.eq_16, Ev.ev.eq_17, Ev.ev.eq_18, Ev.ev.eq_19, Ev.ev.eq_20, Ev.ev.eq_21, Ev.ev.eq_22, Ev.ev.eq_23, Ev.evs, Ev.evo, Ev.evt, Ev.tst, Ev.R.bind, Ev.ob, Ev.truth, Ev.assign, Ev.fill, Ev.start, Ev.lim, S3, menu]
  obtain ⟨j, m, _, e5⟩ := ix_menu (C := calls fns (d + 1)) (es := [(.c (.int 0)), (.c (.int 0)), (.c (.int 0)), (.c (.int 0)), (.c (.int 0)), (.c (.int 1)), (.c (.int 2)), (.c (.int 3)), (.c (.int 4)), (.c (.int 5)), (.c (.int 6)), (.c (.int 7)), (.c (.int 8)), (.c (.int 9))]) (ei := .call 2 [(.v 0), (.c (.int 14))]) (σ := [some (.loc n), some p, some q, some (.loc (S2.length + 2))]) (S := S3) (xs := ixs) (S1 := S3) (S2 := S4) (i := v)
    (by simp [Ev.evs, Ev.ev.eq_1, Ev.R.bind, ixs]) (by simp [ixs]) (by
      have : evs (calls fns (d + 1)) [(.v 0), (.c (.int 14))] [some (.loc n), some p, some q, some (.loc (S2.length + 2))] (S3 ++ [.lst ixs]) = .ok [.loc n, .int 14] (S3 ++ [.lst ixs]) := rfl
      rw [ev, this]; exact e4) (g4.at h3.ne last_at) v0 v1
  have lm : menu.length = 10 := rfl
  have jj : ∃ k : Nat, j = .int k ∧ k < 10 := by
    simp [ixs] at m
    rcases m with m | m | m | m | m | m | m | m | m | m <;> subst m
    · exact ⟨0, rfl, by decide⟩
    · exact ⟨1, rfl, by decide⟩
    · exact ⟨2, rfl, by decide⟩
    · exact ⟨3, rfl, by decide⟩
    · exact ⟨4, rfl, by decide⟩
    · exact ⟨5, rfl, by decide⟩
    · exact ⟨6, rfl, by decide⟩
    · exact ⟨7, rfl, by decide⟩
    · exact ⟨8, rfl, by decide⟩
    · exact ⟨9, rfl, by decide⟩
  obtain ⟨k, rfl, hk⟩ := jj
  have hkm : k < menu.length := by rw [lm]; exact hk
  have km : S4[S2.length + 2]? = some (.lst menu) := by
    refine g34.at ?_ ?_
    · obtain ⟨a, b, z, _⟩ := g2.2
      have := lt_of_some z
      omega
    · have := last_at (S := S2 ++ [.lst [p, q]] ++ [.dt []]) (o := .lst menu)
      simpa [S3] using this
  refine ⟨menu[k], S4, (g1.trans g2).trans (((Gr.app g2.2 _).trans (Gr.app (g2.2.app _) _)).trans ((Gr.app ((g2.2.app _).app _) _).trans g34)), ?_, ?_⟩
  · have g3 : ∀ y ∈ menu, Good2 S3 y := by
      have gp : Good S3 p := plain_good hp
      have gq : Good S3 q := plain_good hq
      intro y hy
      have b1 : S3[S2.length]? = some (.lst [p, q]) := by simp [S3]
      have b2 : S3[S2.length + 1]? = some (.dt []) := by simp [S3]
      simp only [menu, List.mem_cons, List.not_mem_nil, or_false] at hy
      rcases hy with hy | hy | hy | hy | hy | hy | hy | hy | hy | hy <;> subst hy
      · exact good2_tup (by simp [gp, gq])
      · exact (good_lst b1).two (by simp)
      · exact good2_tup (by simp [gp])
      · exact good2_tup (by simp [gp, gq, good_int])
      · exact good_non.two (by simp)
      · exact (good_dt b2).two (by simp)
      · exact plain_good2 hp
      · exact good2_tup (by simp [good_tup])
      · exact good2_tup (by simp [gp, gq])
      · exact good2_tup (by simp)
    exact (g3 _ (List.getElem_mem hkm)).gr g34
  · refine call_ret rfl rfl ?_
    show runs _ (.asg [1] _ :: .asg [2] _ :: .asg [3] _ :: .ret _ :: []) [some (.loc n), none, none, none] S = _
    rw [runs_asg1 e1]
    show runs _ (.asg [2] _ :: .asg [3] _ :: .ret _ :: []) [some (.loc n), some p, none, none] S1 = _
    rw [runs_asg1 e2]
    show runs _ (.asg [3] _ :: .ret _ :: []) [some (.loc n), some p, some q, none] S2 = _
    rw [runs_asg1 a1]
    show runs _ (.ret _ :: []) [some (.loc n), some p, some q, some (.loc (S2.length + 2))] S3 = _
    refine runs_ret ?_
    rw [ev_ix (x := .loc (S2.length + 2)) rfl e5]
    exact get_lst km hkm
end K11

set_option linter.all false
set_option maxRecDepth 100000
namespace K11
open Ev
def spc (x : D) : Prop := ∃ p n, x = .tup [.int p, .int n] ∧ 2 ≤ p ∧ p ≤ 5 ∧ 1 ≤ n ∧ n ≤ 6
def spaces16 : List D := [.tup [.int 2, .int 1], .tup [.int 2, .int 2], .tup [.int 2, .int 3], .tup [.int 2, .int 4], .tup [.int 3, .int 1], .tup [.int 3, .int 2], .tup [.int 3, .int 3], .tup [.int 5, .int 1], .tup [.int 5, .int 2], .tup [.int 2, .int 3], .tup [.int 2, .int 4], .tup [.int 3, .int 3], .tup [.int 2, .int 5], .tup [.int 2, .int 6], .tup [.int 3, .int 4], .tup [.int 5, .int 3]]
theorem lst_at {S S' : Store} {n k : Nat} {xs : List D} (h : S[k]? = some (.lst xs)) : seqAt S k = some xs := by unfold seqAt; rw [h]
theorem lst_at' {S S' : Store} {n k : Nat} {xs : List D} (h : S[k]? = some (.lst xs)) : lstAt S k = some xs := by unfold lstAt; rw [h]
theorem dspace_ok {S : Store} {n : Nat} (d : Nat) (h : Dr n S) : ∃ x S', Gr n S S' ∧ spc x ∧ calls fns (d + 2) 3 [.loc n, .int 125] S = .ok x S' := by
  have T : Tk (calls fns (d + 1)) := tk d
  let l1 : List D := spaces16.take 12
  let l2 : List D := spaces16.drop 12
  let S1 := S ++ [.lst l1]
  let S2 := S1 ++ [.lst l2]
  let S3 := S2 ++ [.lst spaces16]
  have h1 : Dr n S1 := h.app _
  have h2 : Dr n S2 := h1.app _
  have h3 : Dr n S3 := h2.app _
  obtain ⟨v, S4, g4, v0, v1, e4⟩ := T 16 h3 (by omega) (by omega)
  have km : S4[S2.length]? = some (.lst spaces16) := g4.at h2.ne last_at
  have a1 : ev (calls fns (d + 1)) (.lst [(.tup [(.c (.int 2)), (.c (.int 1))]), (.tup [(.c (.int 2)), (.c (.int 2))]), (.tup [(.c (.int 2)), (.c (.int 3))]), (.tup [(.c (.int 2)), (.c (.int 4))]), (.tup [(.c (.int 3)), (.c (.int 1))]), (.tup [(.c (.int 3)), (.c (.int 2))]), (.tup [(.c (.int 3)), (.c (.int 3))]), (.tup [(.c (.int 5)), (.c (.int 1))]), (.tup [(.c (.int 5)), (.c (.int 2))]), (.tup [(.c (.int 2)), (.c (.int 3))]), (.tup [(.c (.int 2)), (.c (.int 4))]), (.tup [(.c (.int 3)), (.c (.int 3))])]) [some (.loc n), some (.int 125), none] S = .ok (.loc S.length) S1 := rfl
  have a2 : ev (calls fns (d + 1)) (.lst [(.tup [(.c (.int 2)), (.c (.int 5))]), (.tup [(.c (.int 2)), (.c (.int 6))]), (.tup [(.c (.int 3)), (.c (.int 4))]), (.tup [(.c (.int 5)), (.c (.int 3))])]) [some (.loc n), some (.int 125), some (.loc S.length)] S1 = .ok (.loc S1.length) S2 := rfl
  have b1 : lstAt S2 S.length = some l1 := lst_at' (S' := S) (n := 0) (by simp [S2, S1])
  have b2 : lstAt S2 S1.length = some l2 := lst_at' (S' := S) (n := 0) last_at
  have a3 : binop .add (.loc S.length) (.loc S1.length) S2 = .ok (.loc S2.length) S3 := by
    simp only [binop, b1, b2]
    rfl
  have hv : v.toNat < spaces16.length := by show v.toNat < 16; omega
  refine ⟨spaces16[v.toNat], S4, ((Gr.app h _).trans (Gr.app h1 _)).trans ((Gr.app h2 _).trans g4), ?_, ?_⟩
  · have al : ∀ y ∈ spaces16, spc y := by
      intro y hy
      simp only [spaces16, List.mem_cons, List.not_mem_nil, or_false] at hy
      rcases hy with hy | hy | hy | hy | hy | hy | hy | hy | hy | hy | hy | hy | hy | hy | hy | hy <;> subst hy <;> exact ⟨_, _, rfl, by decide, by decide, by decide, by decide⟩
    exact al _ (List.getElem_mem hv)
  · refine call_ret rfl rfl ?_
    show runs _ (.asg [2] _ :: .ite (.cmp .gt (.v 1) (.c (.int 27))) [.asg [2] _] [] :: .ret _ :: []) [some (.loc n), some (.int 125), none] S = _
    rw [runs_asg1 a1]
    show runs _ (.ite (.cmp .gt (.v 1) (.c (.int 27))) [.asg [2] _] [] :: .ret _ :: []) [some (.loc n), some (.int 125), some (.loc S.length)] S1 = _
    rw [runs]
    have : run (calls fns (d + 1)) (.ite (.cmp .gt (.v 1) (.c (.int 27))) [.asg [2] (.bin .add (.v 2) (.lst [(.tup [(.c (.int 2)), (.c (.int 5))]), (.tup [(.c (.int 2)), (.c (.int 6))]), (.tup [(.c (.int 3)), (.c (.int 4))]), (.tup [(.c (.int 5)), (.c (.int 3))])]))] []) [some (.loc n), some (.int 125), some (.loc S.length)] S1 = .ok (.nx [some (.loc n), some (.int 125), some (.loc S2.length)]) S3 := by
      show runs (calls fns (d + 1)) [.asg [2] _] [some (.loc n), some (.int 125), some (.loc S.length)] S1 = _
      rw [runs_asg1 (x := .loc S2.length) (S' := S3) (by rw [ev_bin (x := .loc S.length) (S1 := S1) rfl a2]; exact a3)]
      rfl
    rw [this]
    show runs _ (.ret _ :: []) [some (.loc n), some (.int 125), some (.loc S2.length)] S3 = _
    refine runs_ret ?_
    have c1 : evs (calls fns (d + 1)) [.v 0, .blt .len [.v 2]] [some (.loc n), some (.int 125), some (.loc S2.length)] S3 = .ok [.loc n, .int 16] S3 := by
      have : seqAt S3 S2.length = some spaces16 := lst_at (S' := S) (n := 0) last_at
      simp [Ev.evs, Ev.ev.eq_2, Ev.ev.eq_19, bltin, R.bind, ob, seqOf, this]
      rfl
    rw [ev_ix (x := .loc S2.length) (S1 := S3) (y := .int v) (S2 := S4) rfl (by rw [ev_call c1]; exact e4)]
    have := get_lst km hv
    rw [Int.toNat_of_nonneg v0] at this
    exact this
/-- things drawn one behind the other, pushed to the list at k -/
theorem compL_draw {C : Calls} {elt : E} {caps : Lc} {n k : Nat} {ds0 : List D} (hk : k ≠ n) (G : Store → D → Prop) (mono : ∀ S S' y, Gr n S S' → G S y → G S' y) (mono2 : ∀ S ys ys' y, S[k]? = some (.lst ys) → G S y → G (S.set k (.lst ys')) y)
    (h : ∀ x S, Dr n S → ∃ y S', Gr n S S' ∧ G S' y ∧ ev C elt (some x :: caps) S = .ok y S') :
    ∀ (ds : List D) (o : Option D) (S0 S : Store) (ys : List D), S0[k]? = none → Gr n S0 S → S[k]? = some (.lst ys) → (∀ y ∈ ys, G S y) → ds.length + ys.length ≤ lim → ∃ zs σ' S', Gr n S0 S' ∧ S'[k]? = some (.lst (ys ++ zs)) ∧ (∀ y ∈ ys ++ zs, G S' y) ∧ zs.length = ds.length ∧
      compL ⟨ds0, []⟩ (fun x σ S1 => (ob (assign [0] x S1 σ) S1).bind fun σ S1 => (evt C [] σ S1).bind fun b S1 => if b then (ev C elt σ S1).bind fun y S1 => (push k y S1).bind fun _ S1 => .ok σ S1 else .ok σ S1) ds (o :: caps) S = .ok σ' S'
  | [], o, S0, S, ys, _, hg, hs, gy, _ => ⟨[], _, S, hg, by rw [List.append_nil]; exact hs, by rw [List.append_nil]; exact gy, rfl, rfl⟩
  | x :: ds, o, S0, S, ys, h0, hg, hs, gys, hl => by
    obtain ⟨y, S1, g1, gy, e1⟩ := h x S hg.2
    have k1 := g1.1 k _ hk hs
    have hp : push k y S1 = .ok () (S1.set k (.lst (ys ++ [y]))) := by
      unfold push lstAt
      rw [k1]
      show (if ys.length < lim then _ else _) = _
      rw [if_pos (by simp at hl; omega)]
    have g2 : Gr n S0 (S1.set k (.lst (ys ++ [y]))) := by
      refine ⟨fun j o hj e => ?_, ?_⟩
      · have : k ≠ j := fun z => by rw [← z, h0] at e; cases e
        rw [List.getElem?_set_ne this]
        exact g1.1 j o hj (hg.1 j o hj e)
      · obtain ⟨a, b, z, w⟩ := g1.2
        exact ⟨a, b, by rw [List.getElem?_set_ne hk]; exact z, w⟩
    obtain ⟨zs, σ', S2, g3, k3, gz, hz, e2⟩ := compL_draw (C := C) (elt := elt) (caps := caps) (ds0 := ds0) hk G mono mono2 h ds (some x) S0 (S1.set k (.lst (ys ++ [y]))) (ys ++ [y]) h0 g2 (List.getElem?_set_self (lt_of_some k1)) (fun z hz => mono2 _ _ _ _ k1 (by
      rcases List.mem_append.mp hz with hz | hz
      · exact mono _ _ _ g1 (gys z hz)
      · rw [List.mem_singleton.mp hz]; exact gy)) (by simp at hl ⊢; omega)
    refine ⟨y :: zs, σ', S2, g3, by rw [k3, List.append_assoc]; rfl, fun z hz => gz z (by rw [List.append_assoc]; exact hz), by simp [hz], ?_⟩
    rw [compL]
    simp only [Walk.still, List.all_nil, if_true]
    show R.bind (R.bind (ev C elt (some x :: caps) S) _) _ = _
    rw [e1]
    show R.bind (R.bind (push k y S1) _) _ = _
    rw [hp]
    exact e2
/-- [elt for t in range(e)], drawn -/
theorem comp_draw {C : Calls} {cap : List Nat} {er elt : E} {σ : Lc} {S : Store} {n : Nat} {k : Int} (G : Store → D → Prop) (mono : ∀ S S' y, Gr n S S' → G S y → G S' y) (mono2 : ∀ (k : Nat) S ys ys' y, S[k]? = some (.lst ys) → G S y → G (S.set k (.lst ys')) y) (hd : Dr n S) (hr : ev C er σ S = .ok (.int k) S) (hk : k ≤ 1000) (hk0 : -1000 ≤ k)
    (h : ∀ x S, Dr n S → ∃ y S', Gr n S S' ∧ G S' y ∧ ev C elt (some x :: cap.map fun i => (σ[i]?).join) S = .ok y S') :
    ∃ ys S', Gr n S S' ∧ S'[S.length]? = some (.lst ys) ∧ (∀ y ∈ ys, G S' y) ∧ ys.length = k.toNat ∧ ev C (.comp1 cap 1 [0] (.rng1 er) [] elt) σ S = .ok (.loc S.length) S' := by
  obtain ⟨ys, σ', S', g, k3, gy, hl, e⟩ := compL_draw (ds0 := rangeL 0 k.toNat) hd.ne G mono (mono2 S.length) h (rangeL 0 k.toNat) none S (S ++ [.lst []]) [] (List.getElem?_eq_none (Nat.le_refl _)) (Gr.app hd _) last_at (by simp) (by simp [rangeL]; unfold lim; omega)
  have hl' : ys.length = k.toNat := by rw [hl]; simp [rangeL]
  refine ⟨ys, S', g, k3, gy, hl', ?_⟩
  rw [ev, evw, hr]
  have hs : small k = true := by unfold small; exact decide_eq_true (by omega)
  show R.bind (if small k = true then _ else _) _ = _
  rw [if_pos hs]
  show R.bind (compL ⟨rangeL 0 k.toNat, []⟩ _ (rangeL 0 k.toNat) (none :: cap.map fun i => (σ[i]?).join) (S ++ [.lst []])) _ = _
  rw [e]
  rfl
theorem Good.set {S : Store} {k : Nat} {ys ys' : List D} {y : D} (hk : S[k]? = some (.lst ys)) (h : Good S y) : Good (S.set k (.lst ys')) y := by
  cases y with
  | loc j =>
    by_cases e : k = j
    · subst e
      exact good_lst (List.getElem?_set_self (lt_of_some hk))
    · intro t
      rw [ty_ob, List.getElem?_set_ne e, ← ty_ob]
      exact h t
  | _ => exact h
theorem Good2.set {S : Store} {k : Nat} {ys ys' : List D} {y : D} (hk : S[k]? = some (.lst ys)) (h : Good2 S y) : Good2 (S.set k (.lst ys')) y := ⟨h.1.set hk, fun ds e d hd => (h.2 ds e d hd).set hk⟩
theorem drow_ok {S : Store} {n : Nat} {p m : Int} (d : Nat) (h : Dr n S) (p0 : 2 ≤ p) (p1 : p ≤ 5) (m0 : 1 ≤ m) (m1 : m ≤ 6) : ∃ ds S', Gr n S S' ∧ (∀ y ∈ ds, ∃ v, y = .int v) ∧ ds.length ≤ 1000 ∧ calls fns (d + 2) 4 [.loc n, .tup [.int p, .int m]] S = .ok (.tup ds) S' := by
  have T : Tk (calls fns (d + 1)) := tk d
  obtain ⟨v, S1, g1, v0, v1, e1⟩ := T (m + 1) h (by omega) (by omega)
  obtain ⟨w, S2, g2, w0, w1, e2⟩ := T 3 g1.2 (by omega) (by omega)
  let a : Int := v * b2i (decide (w = 0))
  have a0 : 0 ≤ a ∧ a ≤ m := by
    have : a = 0 ∨ a = v := by
      show v * b2i (decide (w = 0)) = 0 ∨ v * b2i (decide (w = 0)) = v
      cases decide (w = 0)
      · left; simp [b2i]
      · right; simp [b2i]
    omega
  have x1 : ev (calls fns (d + 1)) (.bin .mul (.call 2 [(.v 0), (.bin .add (.ix (.v 1) (.c (.int 1))) (.c (.int 1)))]) (.blt .toInt [(.cmp .eq (.call 2 [(.v 0), (.c (.int 3))]) (.c (.int 0)))])) [some (.loc n), some (.tup [.int p, .int m]), none] S = .ok (.int a) S2 := by
    have y1 : ev (calls fns (d + 1)) (.call 2 [(.v 0), (.bin .add (.ix (.v 1) (.c (.int 1))) (.c (.int 1)))]) [some (.loc n), some (.tup [.int p, .int m]), none] S = .ok (.int v) S1 := by
      rw [ev_call (xs := [.loc n, .int (m + 1)]) (S1 := S) rfl]; exact e1
    have y2 : ev (calls fns (d + 1)) (.blt .toInt [(.cmp .eq (.call 2 [(.v 0), (.c (.int 3))]) (.c (.int 0)))]) [some (.loc n), some (.tup [.int p, .int m]), none] S1 = .ok (.int (b2i (decide (w = 0)))) S2 := by
      have z : ev (calls fns (d + 1)) (.call 2 [(.v 0), (.c (.int 3))]) [some (.loc n), some (.tup [.int p, .int m]), none] S1 = .ok (.int w) S2 := by
        rw [ev_call (xs := [.loc n, .int 3]) (S1 := S1) rfl]; exact e2
      simp [Ev.ev.eq_19, Ev.evs, Ev.ev.eq_13, z, R.bind, Ev.ev.eq_1, cmpop, eqD_int, ob, bltin]
    rw [ev_bin y1 y2]
    have f1 : fits v = true := fits_of v0 (by omega)
    have f2 : fits (b2i (decide (w = 0))) = true := by cases decide (w = 0) <;> exact fits_of (by decide) (by decide)
    simp [binop, f1, f2, a]
  obtain ⟨ys, S3, g3, k3, gy, hl, x2⟩ := comp_draw (C := calls fns (d + 1)) (cap := [0, 1]) (er := .bin .sub (.ix (.v 1) (.c (.int 1))) (.v 2)) (elt := .call 2 [(.v 1), (.ix (.v 2) (.c (.int 0)))]) (σ := [some (.loc n), some (.tup [.int p, .int m]), some (.int a)]) (n := n) (k := m - a)
    (fun _ y => ∃ v, y = .int v) (fun _ _ _ _ z => z) (fun _ _ _ _ _ _ z => z) g2.2 rfl (by omega) (by omega) (fun x S hS => by
      obtain ⟨u, S', g, u0, u1, e⟩ := T p hS (by omega) (by omega)
      exact ⟨.int u, S', g, ⟨u, rfl⟩, by rw [ev_call (xs := [.loc n, .int p]) (S1 := S) rfl]; exact e⟩)
  let zs : List D := (List.replicate a.toNat [D.int 0]).flatten
  have zl : ∀ k : Nat, (List.replicate k [D.int 0]).flatten.length = k := fun k => by induction k with | zero => rfl | succ k ih => rw [List.replicate_succ, List.flatten_cons, List.length_append, ih]; simp; omega
  have zz : ∀ k : Nat, ∀ y ∈ (List.replicate k [D.int 0]).flatten, ∃ v, y = .int v := fun k y hy => by
    obtain ⟨l, h1, h2⟩ := List.mem_flatten.mp hy
    have := (List.mem_replicate.mp h1).2
    subst this
    exact ⟨0, by simpa using h2⟩
  have len : zs.length = a.toNat := zl _
  refine ⟨zs ++ ys, S3, (g1.trans g2).trans g3, fun y hy => ?_, by rw [List.length_append, len, hl]; omega, ?_⟩
  · rcases List.mem_append.mp hy with hy | hy
    · exact zz _ y hy
    · exact gy y hy
  · refine call_ret rfl rfl ?_
    show runs _ (.asg [2] _ :: .ret _ :: []) [some (.loc n), some (.tup [.int p, .int m]), none] S = _
    rw [runs_asg1 x1]
    show runs _ (.ret _ :: []) [some (.loc n), some (.tup [.int p, .int m]), some (.int a)] S2 = _
    refine runs_ret ?_
    have y1 : ev (calls fns (d + 1)) (.bin .mul (.tup [(.c (.int 0))]) (.v 2)) [some (.loc n), some (.tup [.int p, .int m]), some (.int a)] S2 = .ok (.tup zs) S2 := by
      rw [ev_bin (x := .tup [.int 0]) (S1 := S2) (y := .int a) (S2 := S2) rfl rfl]
      have c : 0 ≤ a ∧ a < 1000 := by omega
      simp [binop, c, zs]
    have y2 : ev (calls fns (d + 1)) (.blt .tuple [(.comp1 [0, 1] 1 [0] (.rng1 (.bin .sub (.ix (.v 1) (.c (.int 1))) (.v 2))) [] (.call 2 [(.v 1), (.ix (.v 2) (.c (.int 0)))]))]) [some (.loc n), some (.tup [.int p, .int m]), some (.int a)] S2 = .ok (.tup ys) S3 := by
      simp [Ev.ev.eq_19, Ev.evs, x2, R.bind, bltin, lst_at' (S' := S) (n := 0) k3, ob]
    rw [ev_bin y1 y2]
    have c : zs.length + ys.length ≤ lim := by rw [len, hl]; unfold lim; omega
    simp only [binop, if_pos c]
end K11

set_option linter.all false
set_option maxRecDepth 100000
namespace K11
open Ev
theorem cut_len (ds : List D) (a b : Option Int) : (cut ds a b).length ≤ ds.length := by
  unfold cut
  rw [List.length_take, List.length_drop]
  omega
theorem cut_mem {ds : List D} {a b : Option Int} {x : D} (h : x ∈ cut ds a b) : x ∈ ds := by
  unfold cut at h
  exact List.mem_of_mem_drop (List.mem_of_mem_take h)
theorem bent_ok {S : Store} {n : Nat} {p m : Int} {ds : List D} (d : Nat) (h : Dr n S) (hd : ∀ y ∈ ds, ∃ v, y = .int v) (hl : ds.length ≤ 1000) : ∃ x S', Gr n S S' ∧ Good2 S' x ∧ calls fns (d + 2) 10 [.loc n, .tup [.int p, .int m], .tup ds] S = .ok x S' := by
  have T : Tk (calls fns (d + 1)) := tk d
  obtain ⟨v, S1, g1, v0, v1, e1⟩ := T (ds.length + 1) h (by omega) (by omega)
  let menu : List D := [.int p, .int (-1), .bl true, .bl false, .non, .str (PySem.Str.ofString "0"), .tup [.int 0], .int (10 ^ 29), .int 0, .int 1, .int (p - 1)]
  obtain ⟨w, S2, g2, w0, w1, e2⟩ := T 11 (g1.2.app [.lst menu]) (by omega) (by omega)
  have g12 := (Gr.app g1.2 [.lst menu]).trans g2
  obtain ⟨odd, om, _, x2⟩ := ix_menu (C := calls fns (d + 1)) (es := [(.ix (.v 1) (.c (.int 0))), (.neg (.c (.int 1))), (.c (.bl true)), (.c (.bl false)), (.c .non), (.c (.str (PySem.Str.ofString "0"))), (.tup [(.c (.int 0))]), (.bin .pow (.c (.int 10)) (.c (.int 29))), (.c (.int 0)), (.c (.int 1)), (.bin .sub (.ix (.v 1) (.c (.int 0))) (.c (.int 1)))]) (ei := .call 2 [(.v 0), (.c (.int 11))])
    (σ := [some (.loc n), some (.tup [.int p, .int m]), some (.tup ds), some (.int v), none, none]) (S := S1) (xs := menu) (S1 := S1) (S2 := S2) (i := w) (by simp [Ev.evs, Ev.ev.eq_1, Ev.ev.eq_2, Ev.ev.eq_3, Ev.ev.eq_7, Ev.ev.eq_8, Ev.ev.eq_15, R.bind, ob, getix, at', ixN, binop, lim, menu]) (by simp [menu])
    (by rw [ev_call (xs := [.loc n, .int 11]) (S1 := S1 ++ [.lst menu]) rfl]; exact e2) (g2.at g1.2.ne last_at) w0 w1
  have po : plain odd = true := by
    have : menu.all plain = true := rfl
    exact List.all_eq_true.mp this odd om
  let t1 : List D := cut ds none (some v) ++ [odd] ++ cut ds (some (v + 1)) none
  let t2 : List D := cut ds none (some v) ++ [odd] ++ cut ds (some v) none
  let t3 : List D := cut ds none (some v) ++ cut ds (some (v + 1)) none
  let l4 : List D := [.tup t1, .tup t2, .tup t3, .loc S2.length]
  let S3 := S2 ++ [.lst ds]
  let S4 := S3 ++ [.lst l4]
  have c1 := cut_len ds none (some v)
  have c2 := cut_len ds (some (v + 1)) none
  have c3 := cut_len ds (some v) none
  let σ2 : Lc := [some (.loc n), some (.tup [.int p, .int m]), some (.tup ds), some (.int v), some odd, none]
  have x3 : ev (calls fns (d + 1)) (.lst [(.bin .add (.bin .add (.sl (.v 2) none (some (.v 3))) (.tup [(.v 4)])) (.sl (.v 2) (some (.bin .add (.v 3) (.c (.int 1)))) none)), (.bin .add (.bin .add (.sl (.v 2) none (some (.v 3))) (.tup [(.v 4)])) (.sl (.v 2) (some (.v 3)) none)), (.bin .add (.sl (.v 2) none (some (.v 3))) (.sl (.v 2) (some (.bin .add (.v 3) (.c (.int 1)))) none)), (.blt .list [(.v 2)])]) σ2 S2 = .ok (.loc S3.length) S4 := by
    have q1 : (cut ds none (some v)).length + 1 ≤ 16777216 := by omega
    have q2 : (cut ds none (some v)).length + 1 + (cut ds (some (v + 1)) none).length ≤ 16777216 := by omega
    have q3 : (cut ds none (some v)).length + 1 + (cut ds (some v) none).length ≤ 16777216 := by omega
    have q4 : (cut ds none (some v)).length + (cut ds (some (v + 1)) none).length ≤ 16777216 := by omega
    have q5 : (cut ds none (some v)).length + ((cut ds (some (v + 1)) none).length + 1) ≤ 16777216 := by omega
    have q6 : (cut ds none (some v)).length + ((cut ds (some v) none).length + 1) ≤ 16777216 := by omega
    simp [Ev.calls, Ev.runs, Ev.run, Ev.ev.eq_1, Ev.ev.eq_2, Ev.ev.eq_3, Ev.ev.eq_4, Ev.ev.eq_5, Ev.ev.eq_6, Ev.ev.eq_7, Ev.ev.eq_8, Ev.ev.eq_9, Ev.ev.eq_10, Ev.ev.eq_11, Ev.ev.eq_12, Ev.ev.eq_13, Ev.ev.eq_14, Ev.ev.eq_15, Ev.ev.eq_16, Ev.ev.eq_17, Ev.ev.eq_18, Ev.ev.eq_19, Ev.ev.eq_20, Ev.ev.eq_21, Ev.ev.eq_22, Ev.ev.eq_23, Ev.evs, Ev.evo, Ev.evt, Ev.tst, Ev.R.bind, Ev.ob, Ev.truth, Ev.assign, Ev.fill, Ev.start, Ev.lim, σ2, slice, binop, bltin, seqOf, q1, q2, q3, q4, q5, q6, S4, S3, l4, t1, t2, t3]
  let l5 : List D := [.tup ds.reverse, .non, .loc S4.length, .loc (S4.length + 1), .tup [.tup ds]]
  let S5 := S4 ++ [.dt []] ++ [.lst [odd]] ++ [.lst l5]
  let σ3 : Lc := [some (.loc n), some (.tup [.int p, .int m]), some (.tup ds), some (.int v), some odd, some (.loc S3.length)]
  have x4 : ev (calls fns (d + 1)) (.lst [(.rev (.v 2)), (.c .non), .dnew, (.lst [(.v 4)]), (.tup [(.v 2)])]) σ3 S4 = .ok (.loc (S4.length + 2)) S5 := by
    simp [Ev.calls, Ev.runs, Ev.run, Ev.ev.eq_1, Ev.ev.eq_2, Ev.ev.eq_3, Ev.ev.eq_4, Ev.ev.eq_5, Ev.ev.eq_6, Ev.ev.eq_7, Ev.ev.eq_8, Ev.ev.eq_9, Ev.ev.eq_10, Ev.ev.eq_11, Ev.ev.eq_12, Ev.ev.eq_13, Ev.ev.eq_14, Ev.ev.eq_15, Ev.ev.eq_16, Ev.ev.eq_17, Ev.ev.eq_18, Ev.ev.eq_19, Ev.ev.eq_20, Ev.ev.eq_21, Ev.ev.eq_22, Ev.ev.eq_23, Ev.evs, Ev.evo, Ev.evt, Ev.tst, Ev.R.bind, Ev.ob, Ev.truth, Ev.assign, Ev.fill, Ev.start, Ev.lim, σ3, reversed, S5, l5]
  let S6 := S5 ++ [.lst (l4 ++ l5)]
  have b1 : S5[S3.length]? = some (.lst l4) := by simp [S5, S4]
  have b2 : S5[S4.length + 2]? = some (.lst l5) := by simp [S5]
  have x5 : ev (calls fns (d + 1)) (.bin .add (.v 5) (.lst [(.rev (.v 2)), (.c .non), .dnew, (.lst [(.v 4)]), (.tup [(.v 2)])])) σ3 S4 = .ok (.loc S5.length) S6 := by
    rw [ev_bin (x := .loc S3.length) (S1 := S4) rfl x4]
    simp only [binop, lst_at' (S' := S) (n := 0) b1, lst_at' (S' := S) (n := 0) b2]
    rfl
  have h3 : Dr n S3 := g12.2.app _
  have h4 : Dr n S4 := h3.app _
  have h5 : Dr n S5 := ((h4.app _).app _).app _
  have h6 : Dr n S6 := h5.app _
  have g26 : Gr n S2 S6 := ((Gr.app g12.2 _).trans (Gr.app h3 _)).trans ((((Gr.app h4 _).trans (Gr.app (h4.app _) _)).trans (Gr.app ((h4.app _).app _) _)).trans (Gr.app h5 _))
  let ixs : List D := [.int 0, .int 0, .int 0, .int 0, .int 1, .int 2, .int 3, .int 4, .int 5, .int 6, .int 7, .int 8]
  obtain ⟨u, S7, g7, u0, u1, e7⟩ := T 12 (h6.app [.lst ixs]) (by omega) (by omega)
  obtain ⟨j, jm, _, x6⟩ := ix_menu (C := calls fns (d + 1)) (es := [(.c (.int 0)), (.c (.int 0)), (.c (.int 0)), (.c (.int 0)), (.c (.int 1)), (.c (.int 2)), (.c (.int 3)), (.c (.int 4)), (.c (.int 5)), (.c (.int 6)), (.c (.int 7)), (.c (.int 8))]) (ei := .call 2 [(.v 0), (.c (.int 12))])
    (σ := σ3) (S := S6) (xs := ixs) (S1 := S6) (S2 := S7) (i := u) rfl (by simp [ixs]) (by rw [ev_call (xs := [.loc n, .int 12]) (S1 := S6 ++ [.lst ixs]) rfl]; exact e7) (g7.at h6.ne last_at) u0 u1
  have g67 := (Gr.app h6 [.lst ixs]).trans g7
  have lm : (l4 ++ l5).length = 9 := rfl
  have jj : ∃ k : Nat, j = .int k ∧ k < 9 := by
    simp [ixs] at jm
    rcases jm with m | m | m | m | m | m | m | m | m <;> subst m
    · exact ⟨0, rfl, by decide⟩
    · exact ⟨1, rfl, by decide⟩
    · exact ⟨2, rfl, by decide⟩
    · exact ⟨3, rfl, by decide⟩
    · exact ⟨4, rfl, by decide⟩
    · exact ⟨5, rfl, by decide⟩
    · exact ⟨6, rfl, by decide⟩
    · exact ⟨7, rfl, by decide⟩
    · exact ⟨8, rfl, by decide⟩
  obtain ⟨k, rfl, hk⟩ := jj
  have hkm : k < (l4 ++ l5).length := by rw [lm]; exact hk
  have km : S7[S5.length]? = some (.lst (l4 ++ l5)) := g67.at h5.ne last_at
  refine ⟨(l4 ++ l5)[k], S7, (g1.trans g12).trans (g26.trans g67), ?_, ?_⟩
  · have gi : ∀ S, ∀ y ∈ ds, Good S y := fun S y hy => by obtain ⟨v, rfl⟩ := hd y hy; exact good_int
    have go : ∀ S, Good S odd := fun S => plain_good po
    have g3 : ∀ y ∈ l4 ++ l5, Good2 S6 y := by
      intro y hy
      have c1 : S6[S2.length]? = some (.lst ds) := by simp [S6, S5, S4, S3]
      have c2 : S6[S4.length]? = some (.dt []) := by simp [S6, S5]
      have c3 : S6[S4.length + 1]? = some (.lst [odd]) := by simp [S6, S5]
      simp only [l4, l5, List.cons_append, List.nil_append, List.mem_cons, List.not_mem_nil, or_false] at hy
      rcases hy with hy | hy | hy | hy | hy | hy | hy | hy | hy <;> subst hy
      · refine good2_tup fun z hz => ?_
        simp only [t1, List.mem_append, List.mem_singleton] at hz
        rcases hz with (hz | hz) | hz
        · exact gi _ z (cut_mem hz)
        · rw [hz]; exact go _
        · exact gi _ z (cut_mem hz)
      · refine good2_tup fun z hz => ?_
        simp only [t2, List.mem_append, List.mem_singleton] at hz
        rcases hz with (hz | hz) | hz
        · exact gi _ z (cut_mem hz)
        · rw [hz]; exact go _
        · exact gi _ z (cut_mem hz)
      · refine good2_tup fun z hz => ?_
        simp only [t3, List.mem_append] at hz
        rcases hz with hz | hz
        · exact gi _ z (cut_mem hz)
        · exact gi _ z (cut_mem hz)
      · exact (good_lst c1).two (by simp)
      · exact good2_tup fun z hz => gi _ z (List.mem_reverse.mp hz)
      · exact good_non.two (by simp)
      · exact (good_dt c2).two (by simp)
      · exact (good_lst c3).two (by simp)
      · exact good2_tup (by simp [good_tup])
    exact (g3 _ (List.getElem_mem hkm)).gr g67
  · refine call_ret rfl rfl ?_
    have x1 : ev (calls fns (d + 1)) (.call 2 [(.v 0), (.bin .add (.blt .len [(.v 2)]) (.c (.int 1)))]) [some (.loc n), some (.tup [.int p, .int m]), some (.tup ds), none, none, none] S = .ok (.int v) S1 := by
      rw [ev_call (xs := [.loc n, .int (ds.length + 1)]) (S1 := S) (by simp [Ev.calls, Ev.runs, Ev.run, Ev.ev.eq_1, Ev.ev.eq_2, Ev.ev.eq_3, Ev.ev.eq_4, Ev.ev.eq_5, Ev.ev.eq_6, Ev.ev.eq_7, Ev.ev.eq_8, Ev.ev.eq_9, Ev.ev.eq_10, Ev.ev.eq_11, Ev.ev.eq_12, Ev.ev.eq_13, Ev.ev.eq_14, Ev.ev.eq_15, Ev.ev.eq_16, Ev.ev.eq_17, Ev.ev.eq_18, Ev.ev.eq_19, Ev.ev.eq_20, Ev.ev.eq_21, Ev.ev.eq_22, Ev.ev.eq_23, Ev.evs, Ev.evo, Ev.evt, Ev.tst, Ev.R.bind, Ev.ob, Ev.truth, Ev.assign, Ev.fill, Ev.start, Ev.lim, bltin, seqOf, binop])]; exact e1
    show runs _ (.asg [3] _ :: .asg [4] _ :: .asg [5] _ :: .ret _ :: []) [some (.loc n), some (.tup [.int p, .int m]), some (.tup ds), none, none, none] S = _
    rw [runs_asg1 x1]
    show runs _ (.asg [4] _ :: .asg [5] _ :: .ret _ :: []) [some (.loc n), some (.tup [.int p, .int m]), some (.tup ds), some (.int v), none, none] S1 = _
    rw [runs_asg1 x2]
    show runs _ (.asg [5] _ :: .ret _ :: []) σ2 S2 = _
    rw [runs_asg1 x3]
    show runs _ (.ret _ :: []) σ3 S4 = _
    refine runs_ret ?_
    rw [ev_ix x5 x6]
    exact get_lst km hkm
end K11

set_option linter.all false
set_option maxRecDepth 100000
namespace K11
open Ev
theorem ok_bind {α β : Type} {a : α} {S : Store} {f : α → Store → R β} : (R.ok a S).bind f = f a S := rfl
theorem ob_some {α : Type} {a : α} {S : Store} : ob (some a) S = .ok a S := rfl
theorem cell_ok {S : Store} {ns : List Int} {k : Int} (d : Nat) (hs : S[0]? = some (.scr ns)) (k0 : 0 ≤ k) : ∃ c, calls fns (d + 1) 0 [.loc 0, .int k] S = .ok (.int c) S := by
  have h1 : seqAt S 0 = some (ns.map .int) := by unfold seqAt; rw [hs]
  by_cases c : k < ns.length
  · have hk : k.toNat < ns.length := by omega
    refine ⟨ns[k.toNat], ?_⟩
    simp [Ev.calls, Ev.runs, Ev.run, Ev.ev.eq_1, Ev.ev.eq_2, Ev.ev.eq_3, Ev.ev.eq_4, Ev.ev.eq_5, Ev.ev.eq_6, Ev.ev.eq_7, Ev.ev.eq_8, Ev.ev.eq_9, Ev.ev.eq_10, Ev.ev.eq_11, Ev.ev.eq_12, Ev.ev.eq_13, Ev.ev.eq_14, Ev.ev.eq_15, Ev.ev.eq_16, Ev.ev.eq_17, Ev.ev.eq_18, Ev.ev.eq_19, Ev.ev.eq_20, Ev.ev.eq_21, Ev.ev.eq_22, Ev.ev.eq_23, Ev.evs, Ev.evo, Ev.evt, Ev.tst, Ev.R.bind, Ev.ob, Ev.truth, Ev.assign, Ev.fill, Ev.start, Ev.lim, fns, f__law_cell_at, bltin, seqOf, h1, cmpop, c, getix, at', ixN, k0, hk]
  · refine ⟨0, ?_⟩
    simp [Ev.calls, Ev.runs, Ev.run, Ev.ev.eq_1, Ev.ev.eq_2, Ev.ev.eq_3, Ev.ev.eq_4, Ev.ev.eq_5, Ev.ev.eq_6, Ev.ev.eq_7, Ev.ev.eq_8, Ev.ev.eq_9, Ev.ev.eq_10, Ev.ev.eq_11, Ev.ev.eq_12, Ev.ev.eq_13, Ev.ev.eq_14, Ev.ev.eq_15, Ev.ev.eq_16, Ev.ev.eq_17, Ev.ev.eq_18, Ev.ev.eq_19, Ev.ev.eq_20, Ev.ev.eq_21, Ev.ev.eq_22, Ev.ev.eq_23, Ev.evs, Ev.evo, Ev.evt, Ev.tst, Ev.R.bind, Ev.ob, Ev.truth, Ev.assign, Ev.fill, Ev.start, Ev.lim, fns, f__law_cell_at, bltin, seqOf, h1, cmpop, c]
theorem state_ok {S : Store} {ns : List Int} {k : Int} (d : Nat) (hs : S[0]? = some (.scr ns)) (k0 : 0 ≤ k) : ∃ o, Dr S.length (S ++ [o]) ∧ calls fns (d + 2) 1 [.loc 0, .int k] S = .ok (.loc S.length) (S ++ [o]) := by
  obtain ⟨c, e⟩ := cell_ok d hs k0
  rw [show d + 2 = (d + 1) + 1 from rfl, calls]
  generalize calls fns (d + 1) = C at e ⊢
  by_cases h : 10 ^ 18 ≤ c
  · refine ⟨.lst [.int (c - 10 ^ 18), .bl true], ⟨_, _, last_at, by omega, by simp⟩, ?_⟩
    have h' : (1000000000000000000 : Int) ≤ c := by simpa using h
    simp [Ev.calls, Ev.runs, Ev.run, Ev.ev.eq_1, Ev.ev.eq_2, Ev.ev.eq_3, Ev.ev.eq_4, Ev.ev.eq_5, Ev.ev.eq_6, Ev.ev.eq_7, Ev.ev.eq_8, Ev.ev.eq_9, Ev.ev.eq_10, Ev.ev.eq_11, Ev.ev.eq_12, Ev.ev.eq_13, Ev.ev.eq_14, Ev.ev.eq_15, Ev.ev.eq_16, Ev.ev.eq_17, Ev.ev.eq_18, Ev.ev.eq_19, Ev.ev.eq_20, Ev.ev.eq_21, Ev.ev.eq_22, Ev.ev.eq_23, Ev.evs, Ev.evo, Ev.evt, Ev.tst, Ev.R.bind, Ev.ob, Ev.truth, Ev.assign, Ev.fill, Ev.start, Ev.lim, fns, f__law_state, e, cmpop, binop, h']
  · refine ⟨.lst [.int (c % 2147483647), .bl false], ⟨_, _, last_at, by omega, by omega⟩, ?_⟩
    have h' : ¬ (1000000000000000000 : Int) ≤ c := by simpa using h
    simp [Ev.calls, Ev.runs, Ev.run, Ev.ev.eq_1, Ev.ev.eq_2, Ev.ev.eq_3, Ev.ev.eq_4, Ev.ev.eq_5, Ev.ev.eq_6, Ev.ev.eq_7, Ev.ev.eq_8, Ev.ev.eq_9, Ev.ev.eq_10, Ev.ev.eq_11, Ev.ev.eq_12, Ev.ev.eq_13, Ev.ev.eq_14, Ev.ev.eq_15, Ev.ev.eq_16, Ev.ev.eq_17, Ev.ev.eq_18, Ev.ev.eq_19, Ev.ev.eq_20, Ev.ev.eq_21, Ev.ev.eq_22, Ev.ev.eq_23, Ev.evs, Ev.evo, Ev.evt, Ev.tst, Ev.R.bind, Ev.ob, Ev.truth, Ev.assign, Ev.fill, Ev.start, Ev.lim, fns, f__law_state, e, cmpop, binop, h']
theorem forL_inv {w : Walk} {body : D → Lc → Store → R Fl} (P : Lc → Store → Prop) (hst : ∀ σ S, P σ S → w.still S = true) : ∀ (xs : List D), (∀ x ∈ xs, ∀ σ S, P σ S → ∃ σ' S', P σ' S' ∧ body x σ S = .ok (.nx σ') S') → ∀ σ S, P σ S → ∃ σ' S', P σ' S' ∧ forL w body xs σ S = .ok (.nx σ') S'
  | [], _, σ, S, h => ⟨σ, S, h, by rw [forL, if_pos (hst σ S h)]⟩
  | x :: xs, hb, σ, S, h => by
    obtain ⟨σ1, S1, h1, e1⟩ := hb x (List.mem_cons_self ..) σ S h
    obtain ⟨σ2, S2, h2, e2⟩ := forL_inv P hst xs (fun y hy => hb y (List.mem_cons_of_mem _ hy)) σ1 S1 h1
    refine ⟨σ2, S2, h2, ?_⟩
    rw [forL, if_pos (hst σ S h), e1]
    exact e2
theorem runs_nx {C : Calls} {s : Sm} {ss : List Sm} {σ σ' : Lc} {S S' : Store} (h : run C s σ S = .ok (.nx σ') S') : runs C (s :: ss) σ S = runs C ss σ' S' := by rw [runs, h]; rfl
/-- found is what is due: nothing is returned -/
theorem look {C : Calls} {σ : Lc} {S S' : Store} {b : Bool} {c : E} (h1 : (σ[5]?).join = some (.bl b)) (h2 : ev C c σ S = .ok (.bl b) S') : run C (.ite (.or (.not (.isi (.v 5) [.bool])) (.cmp .ne (.v 5) c)) [.ret (.c (.bl false))] []) σ S = .ok (.nx σ) S' := by
  have e : ∀ b : Bool, eqD S' eqDepth (.bl b) (.bl b) = some true := fun b => by cases b <;> rfl
  simp [Ev.calls, Ev.runs, Ev.run, Ev.ev.eq_1, Ev.ev.eq_2, Ev.ev.eq_3, Ev.ev.eq_4, Ev.ev.eq_5, Ev.ev.eq_6, Ev.ev.eq_7, Ev.ev.eq_8, Ev.ev.eq_9, Ev.ev.eq_10, Ev.ev.eq_11, Ev.ev.eq_12, Ev.ev.eq_13, Ev.ev.eq_14, Ev.ev.eq_15, Ev.ev.eq_16, Ev.ev.eq_17, Ev.ev.eq_18, Ev.ev.eq_19, Ev.ev.eq_20, Ev.ev.eq_21, Ev.ev.eq_22, Ev.ev.eq_23, Ev.evs, Ev.evo, Ev.evt, Ev.tst, Ev.R.bind, Ev.ob, Ev.truth, Ev.assign, Ev.fill, Ev.start, Ev.lim, h1, isAny, isTy, h2, cmpop, e]
def Q0 (ns : List Int) (σ : Lc) (S : Store) : Prop := ∃ a1 a2 a3 a4 a5 a6 a7, σ = [some (.loc 0), a1, a2, a3, a4, a5, a6, a7] ∧ S[0]? = some (.scr ns)
def Q1 (ns : List Int) (n : Nat) (σ : Lc) (S : Store) : Prop := ∃ a1 a3 a4 a5 a6 a7, σ = [some (.loc 0), a1, some (.loc n), a3, a4, a5, a6, a7] ∧ S[0]? = some (.scr ns) ∧ n ≠ 0 ∧ Dr n S
def Q2 (ns : List Int) (n k : Nat) (xs : List D) (p m : Int) (σ : Lc) (S : Store) : Prop := ∃ a1 a3 a4 a5 a7, σ = [some (.loc 0), a1, some (.loc n), a3, a4, a5, some (.tup [.int p, .int m]), a7] ∧ S[0]? = some (.scr ns) ∧ n ≠ 0 ∧ Dr n S ∧ S[k]? = some (.lst xs) ∧ ∀ y ∈ xs, Good2 S y
theorem range_mem {lo : Int} {k : Nat} {x : D} (h : x ∈ rangeL lo k) : ∃ i, x = .int i ∧ lo ≤ i := by
  unfold rangeL at h
  obtain ⟨j, _, e⟩ := List.mem_map.mp h
  exact ⟨_, e.symm, by omega⟩
/-- one cell's looks -/
theorem body_ok {ns : List Int} {x : D} {σ : Lc} {S : Store} {d : Nat} (hx : ∃ i, x = .int i ∧ 0 ≤ i) (hq : Q0 ns σ S) : ∃ σ' S', Q0 ns σ' S' ∧ (ob (assign [1] x S σ) S).bind (fun σ S => runs (calls fns (d + 3)) [.asg [2] (.call 1 [(.v 0), (.v 1)]),
   .forr [3] (.rng1 (.c (.int 4))) [.asg [4] (.call 5 [(.v 2)]),
   .asg [5] (.call 8 [(.v 4)]),
   .ite (.or (.not (.isi (.v 5) [.bool])) (.cmp .ne (.v 5) (.call 12 [(.v 4)]))) [.ret (.c (.bl false))] []],
   .asg [6] (.call 3 [(.v 2), (.c (.int 125))]),
   .asg [7] (.call 4 [(.v 2), (.v 6)]),
   .forr [4] (.of (.bin .add (.lst [(.v 7)]) (.comp1 [2, 6, 7] 1 [0] (.rng1 (.c (.int 4))) [] (.call 10 [(.v 1), (.v 2), (.v 3)])))) [.asg [5] (.call 9 [(.v 6), (.v 4)]),
   .ite (.or (.not (.isi (.v 5) [.bool])) (.cmp .ne (.v 5) (.call 13 [(.v 6), (.v 4)]))) [.ret (.c (.bl false))] []]] σ S) = .ok (.nx σ') S' := by
  obtain ⟨i, rfl, i0⟩ := hx
  obtain ⟨a1, a2, a3, a4, a5, a6, a7, rfl, hs⟩ := hq
  show ∃ σ' S', Q0 ns σ' S' ∧ runs (calls fns (d + 3)) _ [some (.loc 0), some (.int i), a2, a3, a4, a5, a6, a7] S = .ok (.nx σ') S'
  obtain ⟨o, h1, e1⟩ := state_ok (d + 1) hs i0
  have n0 : S.length ≠ 0 := by have := lt_of_some hs; omega
  generalize hn : S.length = n at h1 n0 e1
  have s1 : (S ++ [o])[0]? = some (.scr ns) := by rw [List.getElem?_append_left (lt_of_some hs)]; exact hs
  generalize S ++ [o] = S1 at h1 s1 e1
  rw [runs_asg1 (x := .loc n) (S' := S1) (by rw [ev_call (xs := [.loc 0, .int i]) (S1 := S) rfl]; exact e1)]
  -- the four looks at spaces
  have f1 : ∃ σ' S', Q1 ns n σ' S' ∧ run (calls fns (d + 3)) (.forr [3] (.rng1 (.c (.int 4))) [.asg [4] (.call 5 [(.v 2)]),
   .asg [5] (.call 8 [(.v 4)]),
   .ite (.or (.not (.isi (.v 5) [.bool])) (.cmp .ne (.v 5) (.call 12 [(.v 4)]))) [.ret (.c (.bl false))] []]) [some (.loc 0), some (.int i), some (.loc n), a3, a4, a5, a6, a7] S1 = .ok (.nx σ') S' := by
    have ew : evw (calls fns (d + 3)) (.rng1 (.c (.int 4))) [some (.loc 0), some (.int i), some (.loc n), a3, a4, a5, a6, a7] S1 = .ok ⟨rangeL 0 4, []⟩ S1 := by
      simp [evw, Ev.ev.eq_1, R.bind, small]
    rw [run, ew]
    simp only [ok_bind]
    refine forL_inv (w := ⟨rangeL 0 4, []⟩) (Q1 ns n) (fun _ _ _ => rfl) (rangeL 0 4) (fun x _ σ S hq => ?_) [some (.loc 0), some (.int i), some (.loc n), a3, a4, a5, a6, a7] S1 ⟨_, _, _, _, _, _, rfl, s1, n0, h1⟩
    obtain ⟨a1, a3, a4, a5, a6, a7, rfl, hs, n0, hd⟩ := hq
    show ∃ σ' S', Q1 ns n σ' S' ∧ runs (calls fns (d + 3)) _ [some (.loc 0), a1, some (.loc n), some x, a4, a5, a6, a7] S = .ok (.nx σ') S'
    obtain ⟨t, S2, g2, gt, e2⟩ := space_like_ok (d + 1) hd
    have e3 := space_ok d gt
    obtain ⟨T, e4⟩ := due_ok (d + 1) gt
    refine ⟨[some (.loc 0), a1, some (.loc n), some x, some t, some (.bl (sp t)), a6, a7], S2 ++ T, ⟨_, _, _, _, _, _, rfl, ?_, n0, g2.2.app T⟩, ?_⟩
    · exact (Gr.app g2.2 T).at (Ne.symm n0) (g2.at (Ne.symm n0) hs)
    · rw [runs_asg1 (x := t) (S' := S2) (by rw [ev_call (xs := [.loc n]) (S1 := S) rfl]; exact e2)]
      show runs (calls fns (d + 3)) _ [some (.loc 0), a1, some (.loc n), some x, some t, a5, a6, a7] S2 = _
      rw [runs_asg1 (x := .bl (sp t)) (S' := S2) (by rw [ev_call (xs := [t]) (S1 := S2) rfl]; exact e3)]
      show runs (calls fns (d + 3)) _ [some (.loc 0), a1, some (.loc n), some x, some t, some (.bl (sp t)), a6, a7] S2 = _
      rw [runs_nx (look (b := sp t) rfl (by rw [ev_call (xs := [t]) (S1 := S2) rfl]; exact e4))]
      rfl
  obtain ⟨σ2, S2, ⟨a1, a3, a4, a5, a6, a7, rfl, hs2, _, hd2⟩, e2⟩ := f1
  show ∃ σ' S', Q0 ns σ' S' ∧ runs (calls fns (d + 3)) _ [some (.loc 0), some (.int i), some (.loc n), _, _, _, _, _] S1 = .ok (.nx σ') S'
  rw [runs_nx e2]
  obtain ⟨sx, S3, g3, ⟨p, m, rfl, p0, p1, m0, m1⟩, e3⟩ := dspace_ok (d + 1) hd2
  rw [runs_asg1 (x := .tup [.int p, .int m]) (S' := S3) (by rw [ev_call (xs := [.loc n, .int 125]) (S1 := S2) rfl]; exact e3)]
  show ∃ σ' S', Q0 ns σ' S' ∧ runs (calls fns (d + 3)) _ [some (.loc 0), a1, some (.loc n), a3, a4, a5, some (.tup [.int p, .int m]), a7] S3 = .ok (.nx σ') S'
  obtain ⟨ds, S4, g4, hds, hdl, e4⟩ := drow_ok (d + 1) g3.2 p0 p1 m0 m1
  rw [runs_asg1 (x := .tup ds) (S' := S4) (by rw [ev_call (xs := [.loc n, .tup [.int p, .int m]]) (S1 := S3) rfl]; exact e4)]
  show ∃ σ' S', Q0 ns σ' S' ∧ runs (calls fns (d + 3)) _ [some (.loc 0), a1, some (.loc n), a3, a4, a5, some (.tup [.int p, .int m]), some (.tup ds)] S4 = .ok (.nx σ') S'
  -- the rows
  have h4 := g4.2
  have h5 := h4.app [.lst [.tup ds]]
  obtain ⟨ys, S5, g5, k5', gy, yl, e5⟩ := comp_draw (C := calls fns (d + 3)) (cap := [2, 6, 7]) (er := .c (.int 4)) (elt := .call 10 [(.v 1), (.v 2), (.v 3)]) (σ := [some (.loc 0), a1, some (.loc n), a3, a4, a5, some (.tup [.int p, .int m]), some (.tup ds)]) (S := S4 ++ [.lst [.tup ds]]) (n := n) (k := 4)
    (fun S y => Good2 S y) (fun _ _ _ g h => h.gr g) (fun _ _ _ _ _ hk h => h.set hk) h5 rfl (by omega) (by omega) (fun x S hS => by
      obtain ⟨y, S', g, gy, e⟩ := bent_ok (p := p) (m := m) (d + 1) hS hds hdl
      exact ⟨y, S', g, gy, by rw [ev_call (xs := [.loc n, .tup [.int p, .int m], .tup ds]) (S1 := S) rfl]; exact e⟩)
  have k5 : S5[S4.length]? = some (.lst [.tup ds]) := g5.at h4.ne last_at
  let S6 := S5
  let S7 := S6 ++ [.lst (.tup ds :: ys)]
  have x6 : ev (calls fns (d + 3)) (.bin .add (.lst [(.v 7)]) (.comp1 [2, 6, 7] 1 [0] (.rng1 (.c (.int 4))) [] (.call 10 [(.v 1), (.v 2), (.v 3)]))) [some (.loc 0), a1, some (.loc n), a3, a4, a5, some (.tup [.int p, .int m]), some (.tup ds)] S4 = .ok (.loc S6.length) S7 := by
    have y7 : ev (calls fns (d + 3)) (.lst [.v 7]) [some (.loc 0), a1, some (.loc n), a3, a4, a5, some (.tup [.int p, .int m]), some (.tup ds)] S4 = .ok (.loc S4.length) (S4 ++ [.lst [.tup ds]]) := by simp [Ev.ev.eq_4, Ev.evs, Ev.ev.eq_2, R.bind, ob, lim]
    rw [ev_bin y7 e5]
    simp only [binop, lst_at' (S' := S) (n := 0) k5, lst_at' (S' := S) (n := 0) k5']
    have : [D.tup ds].length + ys.length ≤ lim := by rw [yl]; unfold lim; simp
    rw [if_pos this]
    rfl
  have g47 : Gr n S4 S7 := (Gr.app h4 [.lst [.tup ds]]).trans (g5.trans (Gr.app g5.2 _))
  have hd7 := g47.2
  have s7 : S7[0]? = some (.scr ns) := ((g3.trans g4).trans g47).at (Ne.symm n0) hs2
  have k7 : S7[S6.length]? = some (.lst (.tup ds :: ys)) := last_at
  have n7 : S6.length ≠ n := g5.2.ne
  have all7 : ∀ y ∈ D.tup ds :: ys, Good2 S7 y := by
    intro y hy
    rcases List.mem_cons.mp hy with rfl | hy
    · exact good2_tup fun z hz => by obtain ⟨v, rfl⟩ := hds z hz; exact good_int
    · exact (gy y hy).app _
  have f2 : ∃ σ' S', Q2 ns n S6.length (.tup ds :: ys) p m σ' S' ∧ run (calls fns (d + 3)) (.forr [4] (.of (.bin .add (.lst [(.v 7)]) (.comp1 [2, 6, 7] 1 [0] (.rng1 (.c (.int 4))) [] (.call 10 [(.v 1), (.v 2), (.v 3)])))) [.asg [5] (.call 9 [(.v 6), (.v 4)]),
   .ite (.or (.not (.isi (.v 5) [.bool])) (.cmp .ne (.v 5) (.call 13 [(.v 6), (.v 4)]))) [.ret (.c (.bl false))] []]) [some (.loc 0), a1, some (.loc n), a3, a4, a5, some (.tup [.int p, .int m]), some (.tup ds)] S4 = .ok (.nx σ') S' := by
    rw [run, evw, x6]
    have hw : walkOf S7 (.loc S6.length) = some ⟨.tup ds :: ys, [(S6.length, .tup ds :: ys)]⟩ := by unfold walkOf; simp only [k7]
    show ∃ σ' S', _ ∧ R.bind (ob (walkOf S7 (.loc S6.length)) S7) _ = _
    rw [hw]
    simp only [ob_some, ok_bind]
    refine forL_inv (w := ⟨.tup ds :: ys, [(S6.length, .tup ds :: ys)]⟩) (Q2 ns n S6.length (.tup ds :: ys) p m) (fun σ S hq => ?_) (.tup ds :: ys) (fun x hx σ S hq => ?_) [some (.loc 0), a1, some (.loc n), a3, a4, a5, some (.tup [.int p, .int m]), some (.tup ds)] S7 ⟨_, _, _, _, _, rfl, s7, n0, hd7, k7, all7⟩
    · obtain ⟨_, _, _, _, _, _, _, _, _, hk, _⟩ := hq
      simp [Walk.still, hk]
    · obtain ⟨a1, a3, a4, a5, a7, rfl, hs, n0, hd, hk, hg⟩ := hq
      show ∃ σ' S', Q2 ns n S6.length (.tup ds :: ys) p m σ' S' ∧ runs (calls fns (d + 3)) _ [some (.loc 0), a1, some (.loc n), a3, some x, a5, some (.tup [.int p, .int m]), a7] S = .ok (.nx σ') S'
      obtain ⟨T1, e1⟩ := row_ok (p := p) (n := m) (d + 1) (by omega) (hg x hx)
      obtain ⟨T2, e2⟩ := lrow_ok (p := p) (n := m) (d + 1) (by omega) ((hg x hx).app T1)
      have ga := Gr.app hd T1
      have gb := Gr.app ga.2 T2
      have gc := ga.trans gb
      refine ⟨[some (.loc 0), a1, some (.loc n), a3, some x, some (.bl (rw' p m x)), some (.tup [.int p, .int m]), a7], S ++ T1 ++ T2, ⟨_, _, _, _, _, rfl, gc.at (Ne.symm n0) hs, n0, gc.2, gc.at n7 hk, fun y hy => (hg y hy).gr gc⟩, ?_⟩
      rw [runs_asg1 (x := .bl (rw' p m x)) (S' := S ++ T1) (by rw [ev_call (xs := [.tup [.int p, .int m], x]) (S1 := S) rfl]; exact e1)]
      show runs (calls fns (d + 3)) _ [some (.loc 0), a1, some (.loc n), a3, some x, some (.bl (rw' p m x)), some (.tup [.int p, .int m]), a7] (S ++ T1) = _
      rw [runs_nx (look (b := rw' p m x) rfl (by rw [ev_call (xs := [.tup [.int p, .int m], x]) (S1 := S ++ T1) rfl]; exact e2))]
      rfl
  obtain ⟨σ8, S8, ⟨_, _, _, _, _, rfl, s8, _⟩, e8⟩ := f2
  exact ⟨_, S8, ⟨_, _, _, _, _, _, _, rfl, s8⟩, by rw [runs_nx e8]; rfl⟩
theorem law_ok {ns : List Int} {S : Store} (d : Nat) (hs : S[0]? = some (.scr ns)) : ∃ S', S'[0]? = some (.scr ns) ∧ calls fns (d + 4) 14 [.loc 0] S = .ok (.bl true) S' := by
  have h1 : seqAt S 0 = some (ns.map .int) := by unfold seqAt; rw [hs]
  let k : Int := if (if 12 < (ns.length : Int) then (12 : Int) else ns.length) > 1 then (if 12 < (ns.length : Int) then (12 : Int) else ns.length) else 1
  have hk : small k = true := by unfold small; exact decide_eq_true (by show _ ∧ _; simp only [k]; split <;> split <;> omega)
  obtain ⟨σ1, S1, ⟨a1, a2, a3, a4, a5, a6, a7, rfl, s1⟩, e1⟩ := forL_inv (w := ⟨rangeL 0 k.toNat, []⟩) (Q0 ns) (fun _ _ _ => rfl) (rangeL 0 k.toNat) (fun x hx σ S hq => body_ok (d := d) (range_mem hx) hq) [some (.loc 0), none, none, none, none, none, none, none] S ⟨_, _, _, _, _, _, _, rfl, hs⟩
  refine ⟨S1, s1, call_ret rfl rfl ?_⟩
  show runs (calls fns (d + 3)) (.forr [1] (.rng1 (.blt .max2 [(.c (.int 1)), (.blt .min2 [(.blt .len [(.v 0)]), (.c (.int 12))])])) _ :: .ret _ :: []) [some (.loc 0), none, none, none, none, none, none, none] S = _
  have er : ev (calls fns (d + 3)) (.blt .max2 [(.c (.int 1)), (.blt .min2 [(.blt .len [(.v 0)]), (.c (.int 12))])]) [some (.loc 0), none, none, none, none, none, none, none] S = .ok (.int k) S := by
    simp [Ev.calls, Ev.runs, Ev.run, Ev.ev.eq_1, Ev.ev.eq_2, Ev.ev.eq_3, Ev.ev.eq_4, Ev.ev.eq_5, Ev.ev.eq_6, Ev.ev.eq_7, Ev.ev.eq_8, Ev.ev.eq_9, Ev.ev.eq_10, Ev.ev.eq_11, Ev.ev.eq_12, Ev.ev.eq_13, Ev.ev.eq_14, Ev.ev.eq_15, Ev.ev.eq_16, Ev.ev.eq_17, Ev.ev.eq_18, Ev.ev.eq_19, Ev.ev.eq_20, Ev.ev.eq_21, Ev.ev.eq_22, Ev.ev.eq_23, Ev.evs, Ev.evo, Ev.evt, Ev.tst, Ev.R.bind, Ev.ob, Ev.truth, Ev.assign, Ev.fill, Ev.start, Ev.lim, bltin, seqOf, h1, k]
  have ew : evw (calls fns (d + 3)) (.rng1 (.blt .max2 [(.c (.int 1)), (.blt .min2 [(.blt .len [(.v 0)]), (.c (.int 12))])])) [some (.loc 0), none, none, none, none, none, none, none] S = .ok ⟨rangeL 0 k.toNat, []⟩ S := by
    rw [evw, er]
    show (if small k = true then _ else _) = _
    rw [if_pos hk]
  rw [runs_nx (σ' := [some (.loc 0), a1, a2, a3, a4, a5, a6, a7]) (S' := S1) (by rw [run, ew]; exact e1)]
  refine runs_ret ?_
  have z : ∀ p n : Int, ev (calls fns (d + 3)) (.call 8 [(.tup [(.c (.int p)), (.c (.int n))])]) [some (.loc 0), a1, a2, a3, a4, a5, a6, a7] S1 = .ok (.bl (sp (.tup [.int p, .int n]))) S1 := fun p n => by
    rw [ev_call (xs := [.tup [.int p, .int n]]) (S1 := S1) rfl]
    exact space_ok d (good2_tup (by simp [good_int]))
  have z1 : sp (.tup [.int 2, .int 6]) = true := rfl
  have z2 : sp (.tup [.int 2, .int 7]) = false := rfl
  have z3 : sp (.tup [.int 5, .int 4]) = false := rfl
  simp [Ev.ev.eq_10, Ev.ev.eq_13, z, z1, z2, z3, R.bind, Ev.ev.eq_1, cmpop]
end K11

set_option Elab.async false
set_option linter.all false
set_option maxRecDepth 100000
namespace K11
open PySem PySem.Spec PyProof.Rows L2 Wr
open Sd (TabK TabLit tabK_of sp_law spF fn_zero hu7 CompScope se_const se_name se_tup se_lst se_dict se_bin se_un se_bool se_cmp se_sub se_call se_comp se_ite cm_eq cm_ne cm_lt cm_le cm_gt cm_ge cm_is cm_isn cm_in cm_nin blt_len blt_max blt_min blt_int blt_tuple blt_list blt_all)
def top (i : Nat) : Stmt := PySem.Challenge.pw_fewspaces_k11_spaces_and_rows_looked_at.main.body.getD i (.Pass ⟨0, 0, 0, 0⟩)
abbrev s0 : Stmt := top 8
abbrev s1 : Stmt := top 9
abbrev s2 : Stmt := top 10
abbrev s3 : Stmt := top 11
abbrev s4 : Stmt := top 13
abbrev s5 : Stmt := top 22
abbrev s6 : Stmt := top 1
abbrev s7 : Stmt := top 4
abbrev s8 : Stmt := top 5
abbrev s9 : Stmt := top 6
abbrev s10 : Stmt := top 20
abbrev s11 : Stmt := top 18
abbrev s12 : Stmt := top 21
abbrev s13 : Stmt := top 19
abbrev s14 : Stmt := top 23
theorem nd_0 : (["_law_place", "_law_state_here", "_law_space_here"] : List Str).Nodup := by decide +kernel
theorem nd_1 : (["number", "p"] : List Str).Nodup := by decide +kernel
theorem nd_2 : (["_law_one"] : List Str).Nodup := by decide +kernel
theorem nd_3 : (["_law_number", "_law_space_here"] : List Str).Nodup := by decide +kernel
theorem nd_4 : (["_law_turn", "_law_state_here", "_law_space_here", "_law_row_here"] : List Str).Nodup := by decide +kernel
theorem sc0 : FnScope ["_law_script", "_law_k"] ["_law_script", "_law_k"] (defScope s0) := ⟨rfl, rfl, rfl, by decide +kernel, rfl, by decide +kernel, by decide +kernel⟩
theorem sc1 : FnScope ["_law_script", "_law_k", "_law_cell"] ["_law_script", "_law_k"] (defScope s1) := ⟨rfl, rfl, rfl, by decide +kernel, rfl, by decide +kernel, by decide +kernel⟩
theorem sc2 : FnScope ["_law_state_here", "_law_many", "_law_found", "_law_mixed"] ["_law_state_here", "_law_many"] (defScope s2) := ⟨rfl, rfl, rfl, by decide +kernel, rfl, by decide +kernel, by decide +kernel⟩
theorem sc3 : FnScope ["_law_state_here", "_law_most", "_law_some"] ["_law_state_here", "_law_most"] (defScope s3) := ⟨rfl, rfl, rfl, by decide +kernel, rfl, by decide +kernel, by decide +kernel⟩
theorem sc4 : FnScope ["_law_state_here", "_law_space_here", "_law_ahead"] ["_law_state_here", "_law_space_here"] (defScope s4) := ⟨rfl, rfl, rfl, by decide +kernel, rfl, by decide +kernel, by decide +kernel⟩
theorem sc5 : FnScope ["_law_state_here", "_law_p", "_law_n", "_law_some"] ["_law_state_here"] (defScope s5) := ⟨rfl, rfl, rfl, by decide +kernel, rfl, by decide +kernel, by decide +kernel⟩
theorem sc6 : FnScope ["thing", "least", "greatest"] ["thing", "least", "greatest"] (defScope s6) := ⟨rfl, rfl, rfl, by decide +kernel, rfl, by decide +kernel, by decide +kernel⟩
theorem sc7 : FnScope ["thing"] ["thing"] (defScope s7) := ⟨rfl, rfl, rfl, by decide +kernel, rfl, by decide +kernel, by decide +kernel⟩
theorem sc8 : FnScope ["thing", "p", "n"] ["thing"] (defScope s8) := ⟨rfl, rfl, rfl, by decide +kernel, rfl, by decide +kernel, by decide +kernel⟩
theorem sc9 : FnScope ["space", "thing", "p", "n"] ["space", "thing"] (defScope s9) := ⟨rfl, rfl, rfl, by decide +kernel, rfl, by decide +kernel, by decide +kernel⟩
theorem sc10 : FnScope ["_law_state_here", "_law_space_here", "_law_row_here", "_law_at", "_law_odd", "_law_some"] ["_law_state_here", "_law_space_here", "_law_row_here"] (defScope s10) := ⟨rfl, rfl, rfl, by decide +kernel, rfl, by decide +kernel, by decide +kernel⟩
theorem sc11 : FnScope ["_law_thing", "_law_least", "_law_most"] ["_law_thing", "_law_least", "_law_most"] (defScope s11) := ⟨rfl, rfl, rfl, by decide +kernel, rfl, by decide +kernel, by decide +kernel⟩
theorem sc12 : FnScope ["_law_thing", "_law_good"] ["_law_thing"] (defScope s12) := ⟨rfl, rfl, rfl, by decide +kernel, rfl, by decide +kernel, by decide +kernel⟩
theorem sc13 : FnScope ["_law_space_here", "_law_thing"] ["_law_space_here", "_law_thing"] (defScope s13) := ⟨rfl, rfl, rfl, by decide +kernel, rfl, by decide +kernel, by decide +kernel⟩
theorem sc14 : FnScope ["_law_script", "_law_k", "_law_state_here", "_law_turn", "_law_thing", "_law_found", "_law_space_here", "_law_row_here"] ["_law_script"] (defScope s14) := ⟨rfl, rfl, rfl, by decide +kernel, rfl, by decide +kernel, by decide +kernel⟩
def psOf : Nat → List Str
  | 0 => ["_law_script", "_law_k"]
  | 1 => ["_law_script", "_law_k"]
  | 2 => ["_law_state_here", "_law_many"]
  | 3 => ["_law_state_here", "_law_most"]
  | 4 => ["_law_state_here", "_law_space_here"]
  | 5 => ["_law_state_here"]
  | 6 => ["thing", "least", "greatest"]
  | 7 => ["thing"]
  | 8 => ["thing"]
  | 9 => ["space", "thing"]
  | 10 => ["_law_state_here", "_law_space_here", "_law_row_here"]
  | 11 => ["_law_thing", "_law_least", "_law_most"]
  | 12 => ["_law_thing"]
  | 13 => ["_law_space_here", "_law_thing"]
  | 14 => ["_law_script"]
  | _ => []
structure Top (P : Program) (w : World) (K : PySem.W.Frag) (mg : Str → Option Value) (f : Nat → Addr) (fd : Nat → FuncData) (tb_MOST_PLACES : Addr) : Prop where
  d0 : Fun K "_law_cell_at" "_law_cell_at" s0 (f 0) (fd 0)
  b0 : Binds K (fd 0) (psOf 0) []
  m0 : mg "_law_cell_at" = some (.ref (f 0))
  d1 : Fun K "_law_state" "_law_state" s1 (f 1) (fd 1)
  b1 : Binds K (fd 1) (psOf 1) []
  m1 : mg "_law_state" = some (.ref (f 1))
  d2 : Fun K "_law_take" "_law_take" s2 (f 2) (fd 2)
  b2 : Binds K (fd 2) (psOf 2) []
  m2 : mg "_law_take" = some (.ref (f 2))
  d3 : Fun K "_law_space" "_law_space" s3 (f 3) (fd 3)
  b3 : Binds K (fd 3) (psOf 3) []
  m3 : mg "_law_space" = some (.ref (f 3))
  d4 : Fun K "_law_row" "_law_row" s4 (f 4) (fd 4)
  b4 : Binds K (fd 4) (psOf 4) []
  m4 : mg "_law_row" = some (.ref (f 4))
  d5 : Fun K "_law_space_like" "_law_space_like" s5 (f 5) (fd 5)
  b5 : Binds K (fd 5) (psOf 5) []
  m5 : mg "_law_space_like" = some (.ref (f 5))
  d6 : Fun K "is_whole" "is_whole" s6 (f 6) (fd 6)
  b6 : Binds K (fd 6) (psOf 6) []
  m6 : mg "is_whole" = some (.ref (f 6))
  d7 : Fun K "is_base" "is_base" s7 (f 7) (fd 7)
  b7 : Binds K (fd 7) (psOf 7) []
  m7 : mg "is_base" = some (.ref (f 7))
  d8 : Fun K "is_space" "is_space" s8 (f 8) (fd 8)
  b8 : Binds K (fd 8) (psOf 8) []
  m8 : mg "is_space" = some (.ref (f 8))
  d9 : Fun K "is_row" "is_row" s9 (f 9) (fd 9)
  b9 : Binds K (fd 9) (psOf 9) []
  m9 : mg "is_row" = some (.ref (f 9))
  d10 : Fun K "_law_bent_row" "_law_bent_row" s10 (f 10) (fd 10)
  b10 : Binds K (fd 10) (psOf 10) []
  m10 : mg "_law_bent_row" = some (.ref (f 10))
  d11 : Fun K "_law_whole" "_law_whole" s11 (f 11) (fd 11)
  b11 : Binds K (fd 11) (psOf 11) []
  m11 : mg "_law_whole" = some (.ref (f 11))
  d12 : Fun K "_law_due" "_law_due" s12 (f 12) (fd 12)
  b12 : Binds K (fd 12) (psOf 12) []
  m12 : mg "_law_due" = some (.ref (f 12))
  d13 : Fun K "_law_is_row" "_law_is_row" s13 (f 13) (fd 13)
  b13 : Binds K (fd 13) (psOf 13) []
  m13 : mg "_law_is_row" = some (.ref (f 13))
  d14 : Fun K "law" "law" s14 (f 14) (fd 14)
  b14 : Binds K (fd 14) (psOf 14) []
  m14 : mg "law" = some (.ref (f 14))
  z_all : mg "all" = none
  z_bool : mg "bool" = none
  z_int : mg "int" = none
  z_isinstance : mg "isinstance" = none
  z_len : mg "len" = none
  z_list : mg "list" = none
  z_max : mg "max" = none
  z_min : mg "min" = none
  z_range : mg "range" = none
  z_tuple : mg "tuple" = none
  t_MOST_PLACES : TabK P w K tb_MOST_PLACES [(2, 6), (3, 4), (5, 3)]
  mt_MOST_PLACES : mg "MOST_PLACES" = some (.ref tb_MOST_PLACES)
section
variable {P : Program} {w : World} {K : PySem.W.Frag} {mg : Str → Option Value} {base : Heap} {f : Nat → Addr} {fd : Nat → FuncData} {tb_MOST_PLACES : Addr}
def All (P : Program) (w : World) (K : PySem.W.Frag) (mg : Str → Option Value) (base : Heap) (f : Nat → Addr) (fd : Nat → FuncData) (d : Nat) : Prop := ∀ i, i < 15 → FnOk P w K mg base CX0 d (f i) (fd i) (psOf i) (spF K (Ev.calls fns d) i)
set_option maxHeartbeats 0 in
theorem ok0 (T : Top P w K mg f fd tb_MOST_PLACES) {d : Nat} (h : All P w K mg base f fd d) : FnOk P w K mg base CX0 (d + 1) (f 0) (fd 0) (psOf 0) (spF K (Ev.calls fns (d + 1)) 0) :=
  fn_rule (P := P) (w := w) (base := base) (F := fns) (n := 0) (d := d) (k := d) (fn := f__law_cell_at) (N := ["_law_script", "_law_k"]) (ps := ["_law_script", "_law_k"]) rfl rfl rfl T.d0 sc0 fun cdv A outer s H E hr => by
    have hu := hu7 hr
    exact (cs_cons (cs_if (ct_cmp (cm_lt hu) (ce_v 1) (ce_bltB blt_len T.z_len (ca_cons (ce_v 0) ca_nil se_name))) (cs_cons (cs_ret (ce_ix (ce_v 0) (ce_v 1)))
    cs_nil) cs_nil)
    (cs_cons (cs_ret ce_int)
    cs_nil))
set_option maxHeartbeats 0 in
theorem ok1 (T : Top P w K mg f fd tb_MOST_PLACES) {d : Nat} (h : All P w K mg base f fd d) : FnOk P w K mg base CX0 (d + 1) (f 1) (fd 1) (psOf 1) (spF K (Ev.calls fns (d + 1)) 1) :=
  fn_rule (P := P) (w := w) (base := base) (F := fns) (n := 1) (d := d) (k := d) (fn := f__law_state) (N := ["_law_script", "_law_k", "_law_cell"]) (ps := ["_law_script", "_law_k"]) rfl rfl rfl T.d1 sc1 fun cdv A outer s H E hr => by
    have hu := hu7 hr
    exact (cs_cons (cs_asg (ce_call (h 0 (by decide)) hr T.m0 T.d0.kp T.b0 (ca_cons (ce_v 0) (ca_cons (ce_v 1) ca_nil se_name) se_name)) (cg_name sc1.nd))
    (cs_cons (cs_if (ct_cmp (cm_ge hu) (ce_v 2) (ce_pow ce_int ce_int)) (cs_cons (cs_ret (ce_lst (ca_cons (ce_sub (ce_v 2) (ce_pow ce_int ce_int)) (ca_cons ce_bl ca_nil se_const) se_bin)))
    cs_nil) cs_nil)
    (cs_cons (cs_ret (ce_lst (ca_cons (ce_mod (ce_v 2) ce_int) (ca_cons ce_bl ca_nil se_const) se_bin)))
    cs_nil)))
set_option maxHeartbeats 0 in
theorem ok2 (T : Top P w K mg f fd tb_MOST_PLACES) {d : Nat} (h : All P w K mg base f fd d) : FnOk P w K mg base CX0 (d + 1) (f 2) (fd 2) (psOf 2) (spF K (Ev.calls fns (d + 1)) 2) :=
  fn_rule (P := P) (w := w) (base := base) (F := fns) (n := 2) (d := d) (k := d) (fn := f__law_take) (N := ["_law_state_here", "_law_many", "_law_found", "_law_mixed"]) (ps := ["_law_state_here", "_law_many"]) rfl rfl rfl T.d2 sc2 fun cdv A outer s H E hr => by
    have hu := hu7 hr
    exact (cs_cons (cs_if (ct_val (ce_ix (ce_v 0) ce_int)) (cs_cons (cs_asg (ce_mod (ce_ix (ce_v 0) ce_int) (ce_v 1)) (cg_name sc2.nd))
    (cs_cons (cs_put (ce_v 0) ce_int (ce_fdiv (ce_ix (ce_v 0) ce_int) (ce_v 1)))
    (cs_cons (cs_ret (ce_v 2))
    cs_nil))) cs_nil)
    (cs_cons (cs_put (ce_v 0) ce_int (ce_mod (ce_add (ce_mul (ce_ix (ce_v 0) ce_int) ce_int) ce_int) ce_int))
    (cs_cons (cs_asg (ce_mod (ce_add (ce_add (ce_mul (ce_ix (ce_v 0) ce_int) (ce_ix (ce_v 0) ce_int)) (ce_mul ce_int (ce_ix (ce_v 0) ce_int))) ce_int) ce_int) (cg_name sc2.nd))
    (cs_cons (cs_asg (ce_mod (ce_add (ce_mul (ce_v 3) (ce_v 3)) (ce_mul ce_int (ce_v 3))) ce_int) (cg_name sc2.nd))
    (cs_cons (cs_ret (ce_mod (ce_fdiv (ce_v 3) ce_int) (ce_v 1)))
    cs_nil)))))
set_option maxHeartbeats 0 in
theorem ok3 (T : Top P w K mg f fd tb_MOST_PLACES) {d : Nat} (h : All P w K mg base f fd d) : FnOk P w K mg base CX0 (d + 1) (f 3) (fd 3) (psOf 3) (spF K (Ev.calls fns (d + 1)) 3) :=
  fn_rule (P := P) (w := w) (base := base) (F := fns) (n := 3) (d := d) (k := d) (fn := f__law_space) (N := ["_law_state_here", "_law_most", "_law_some"]) (ps := ["_law_state_here", "_law_most"]) rfl rfl rfl T.d3 sc3 fun cdv A outer s H E hr => by
    have hu := hu7 hr
    exact (cs_cons (cs_asg (ce_lst (ca_cons (ce_tup (ca_cons ce_int (ca_cons ce_int ca_nil se_const) se_const)) (ca_cons (ce_tup (ca_cons ce_int (ca_cons ce_int ca_nil se_const) se_const)) (ca_cons (ce_tup (ca_cons ce_int (ca_cons ce_int ca_nil se_const) se_const)) (ca_cons (ce_tup (ca_cons ce_int (ca_cons ce_int ca_nil se_const) se_const)) (ca_cons (ce_tup (ca_cons ce_int (ca_cons ce_int ca_nil se_const) se_const)) (ca_cons (ce_tup (ca_cons ce_int (ca_cons ce_int ca_nil se_const) se_const)) (ca_cons (ce_tup (ca_cons ce_int (ca_cons ce_int ca_nil se_const) se_const)) (ca_cons (ce_tup (ca_cons ce_int (ca_cons ce_int ca_nil se_const) se_const)) (ca_cons (ce_tup (ca_cons ce_int (ca_cons ce_int ca_nil se_const) se_const)) (ca_cons (ce_tup (ca_cons ce_int (ca_cons ce_int ca_nil se_const) se_const)) (ca_cons (ce_tup (ca_cons ce_int (ca_cons ce_int ca_nil se_const) se_const)) (ca_cons (ce_tup (ca_cons ce_int (ca_cons ce_int ca_nil se_const) se_const)) ca_nil se_tup) se_tup) se_tup) se_tup) se_tup) se_tup) se_tup) se_tup) se_tup) se_tup) se_tup) se_tup)) (cg_name sc3.nd))
    (cs_cons (cs_if (ct_cmp (cm_gt hu) (ce_v 1) ce_int) (cs_cons (cs_asg (ce_add (ce_v 2) (ce_lst (ca_cons (ce_tup (ca_cons ce_int (ca_cons ce_int ca_nil se_const) se_const)) (ca_cons (ce_tup (ca_cons ce_int (ca_cons ce_int ca_nil se_const) se_const)) (ca_cons (ce_tup (ca_cons ce_int (ca_cons ce_int ca_nil se_const) se_const)) (ca_cons (ce_tup (ca_cons ce_int (ca_cons ce_int ca_nil se_const) se_const)) ca_nil se_tup) se_tup) se_tup) se_tup))) (cg_name sc3.nd))
    cs_nil) cs_nil)
    (cs_cons (cs_ret (ce_ix (ce_v 2) (ce_call (h 2 (by decide)) hr T.m2 T.d2.kp T.b2 (ca_cons (ce_v 0) (ca_cons (ce_bltB blt_len T.z_len (ca_cons (ce_v 2) ca_nil se_name)) ca_nil se_call) se_name))))
    cs_nil)))
set_option maxHeartbeats 0 in
theorem ok4 (T : Top P w K mg f fd tb_MOST_PLACES) {d : Nat} (h : All P w K mg base f fd d) : FnOk P w K mg base CX0 (d + 1) (f 4) (fd 4) (psOf 4) (spF K (Ev.calls fns (d + 1)) 4) :=
  fn_rule (P := P) (w := w) (base := base) (F := fns) (n := 4) (d := d) (k := d) (fn := f__law_row) (N := ["_law_state_here", "_law_space_here", "_law_ahead"]) (ps := ["_law_state_here", "_law_space_here"]) rfl rfl rfl T.d4 sc4 fun cdv A outer s H E hr => by
    have hu := hu7 hr
    exact (cs_cons (cs_asg (ce_mul (ce_call (h 2 (by decide)) hr T.m2 T.d2.kp T.b2 (ca_cons (ce_v 0) (ca_cons (ce_add (ce_ix (ce_v 1) ce_int) ce_int) ca_nil se_bin) se_name)) (ce_bltT blt_int T.z_int (ca_cons (ce_cmp (cm_eq hu) (ce_call (h 2 (by decide)) hr T.m2 T.d2.kp T.b2 (ca_cons (ce_v 0) (ca_cons ce_int ca_nil se_const) se_name)) ce_int) ca_nil se_cmp))) (cg_name sc4.nd))
    (cs_cons (cs_ret (ce_add (ce_mul (ce_tup (ca_cons ce_int ca_nil se_const)) (ce_v 2)) (ce_bltT blt_tuple T.z_tuple (ca_cons (ce_comp1 (N := ["_law_place", "_law_state_here", "_law_space_here"]) rfl sc4.nd (by show CompScope (defScope s4) ["_law_state_here", "_law_space_here", "_law_ahead"] _ _ _ _; exact ⟨rfl, by decide +kernel, by decide +kernel, by decide +kernel, by decide +kernel, rfl, by decide +kernel⟩) (cw_rng1 T.z_range (ca_cons (ce_sub (ce_ix (ce_v 1) ce_int) (ce_v 2)) ca_nil se_bin)) (fun _ _ _ _ => ⟨(cg_name nd_0), cts_nil, (ce_call (h 2 (by decide)) hr T.m2 T.d2.kp T.b2 (ca_cons (ce_v 1) (ca_cons (ce_ix (ce_v 2) ce_int) ca_nil se_sub) se_name))⟩)) ca_nil se_comp))))
    cs_nil))
set_option maxHeartbeats 0 in
theorem ok5 (T : Top P w K mg f fd tb_MOST_PLACES) {d : Nat} (h : All P w K mg base f fd d) : FnOk P w K mg base CX0 (d + 1) (f 5) (fd 5) (psOf 5) (spF K (Ev.calls fns (d + 1)) 5) :=
  fn_rule (P := P) (w := w) (base := base) (F := fns) (n := 5) (d := d) (k := d) (fn := f__law_space_like) (N := ["_law_state_here", "_law_p", "_law_n", "_law_some"]) (ps := ["_law_state_here"]) rfl rfl rfl T.d5 sc5 fun cdv A outer s H E hr => by
    have hu := hu7 hr
    exact (cs_cons (cs_asg (ce_ix (ce_lst (ca_cons ce_int (ca_cons ce_int (ca_cons ce_int (ca_cons ce_int (ca_cons ce_int (ca_cons ce_int (ca_cons ce_int (ca_cons (ce_neg ce_int) (ca_cons ce_bl (ca_cons ce_non (ca_cons ce_str (ca_cons (ce_tup (ca_cons ce_int ca_nil se_const)) (ca_cons (ce_pow ce_int ce_int) ca_nil se_bin) se_tup) se_const) se_const) se_const) se_un) se_const) se_const) se_const) se_const) se_const) se_const) se_const)) (ce_ix (ce_lst (ca_cons ce_int (ca_cons ce_int (ca_cons ce_int (ca_cons (ce_call (h 2 (by decide)) hr T.m2 T.d2.kp T.b2 (ca_cons (ce_v 0) (ca_cons ce_int ca_nil se_const) se_name)) ca_nil se_call) se_const) se_const) se_const)) (ce_call (h 2 (by decide)) hr T.m2 T.d2.kp T.b2 (ca_cons (ce_v 0) (ca_cons ce_int ca_nil se_const) se_name)))) (cg_name sc5.nd))
    (cs_cons (cs_asg (ce_ix (ce_lst (ca_cons ce_int (ca_cons ce_int (ca_cons ce_int (ca_cons ce_int (ca_cons ce_int (ca_cons ce_int (ca_cons ce_int (ca_cons ce_int (ca_cons (ce_neg ce_int) (ca_cons ce_bl (ca_cons ce_non (ca_cons ce_str (ca_cons (ce_tup (ca_cons ce_int ca_nil se_const)) ca_nil se_tup) se_const) se_const) se_const) se_un) se_const) se_const) se_const) se_const) se_const) se_const) se_const) se_const)) (ce_call (h 2 (by decide)) hr T.m2 T.d2.kp T.b2 (ca_cons (ce_v 0) (ca_cons ce_int ca_nil se_const) se_name))) (cg_name sc5.nd))
    (cs_cons (cs_asg (ce_lst (ca_cons (ce_tup (ca_cons (ce_v 1) (ca_cons (ce_v 2) ca_nil se_name) se_name)) (ca_cons (ce_lst (ca_cons (ce_v 1) (ca_cons (ce_v 2) ca_nil se_name) se_name)) (ca_cons (ce_tup (ca_cons (ce_v 1) ca_nil se_name)) (ca_cons (ce_tup (ca_cons (ce_v 1) (ca_cons (ce_v 2) (ca_cons ce_int ca_nil se_const) se_name) se_name)) (ca_cons ce_non (ca_cons ce_dnew (ca_cons (ce_v 1) (ca_cons (ce_tup (ca_cons (ce_tup (ca_cons (ce_v 1) (ca_cons (ce_v 2) ca_nil se_name) se_name)) ca_nil se_tup)) (ca_cons (ce_tup (ca_cons (ce_v 2) (ca_cons (ce_v 1) ca_nil se_name) se_name)) (ca_cons (ce_tup ca_nil) ca_nil se_tup) se_tup) se_tup) se_name) se_dict) se_const) se_tup) se_tup) se_lst) se_tup)) (cg_name sc5.nd))
    (cs_cons (cs_ret (ce_ix (ce_v 3) (ce_ix (ce_lst (ca_cons ce_int (ca_cons ce_int (ca_cons ce_int (ca_cons ce_int (ca_cons ce_int (ca_cons ce_int (ca_cons ce_int (ca_cons ce_int (ca_cons ce_int (ca_cons ce_int (ca_cons ce_int (ca_cons ce_int (ca_cons ce_int (ca_cons ce_int ca_nil se_const) se_const) se_const) se_const) se_const) se_const) se_const) se_const) se_const) se_const) se_const) se_const) se_const) se_const)) (ce_call (h 2 (by decide)) hr T.m2 T.d2.kp T.b2 (ca_cons (ce_v 0) (ca_cons ce_int ca_nil se_const) se_name)))))
    cs_nil))))
set_option maxHeartbeats 0 in
theorem ok6 (T : Top P w K mg f fd tb_MOST_PLACES) {d : Nat} (h : All P w K mg base f fd d) : FnOk P w K mg base CX0 (d + 1) (f 6) (fd 6) (psOf 6) (spF K (Ev.calls fns (d + 1)) 6) :=
  fn_rule (P := P) (w := w) (base := base) (F := fns) (n := 6) (d := d) (k := d) (fn := f_is_whole) (N := ["thing", "least", "greatest"]) (ps := ["thing", "least", "greatest"]) rfl rfl rfl T.d6 sc6 fun cdv A outer s H E hr => by
    have hu := hu7 hr
    exact (cs_cons (cs_ret (ce_and (ce_isi (t := .int) (by intro m h; cases h) T.z_isinstance T.z_int (ce_v 0)) (ce_and (ce_not (ce_isi (t := .bool) (by intro m h; cases h) T.z_isinstance T.z_bool (ce_v 0))) (ce_one (ce_chain (cm_le hu) (cm_le hu) (ce_v 1) (ce_v 0) (ce_v 2))))))
    cs_nil)
set_option maxHeartbeats 0 in
theorem ok7 (T : Top P w K mg f fd tb_MOST_PLACES) {d : Nat} (h : All P w K mg base f fd d) : FnOk P w K mg base CX0 (d + 1) (f 7) (fd 7) (psOf 7) (spF K (Ev.calls fns (d + 1)) 7) :=
  fn_rule (P := P) (w := w) (base := base) (F := fns) (n := 7) (d := d) (k := d) (fn := f_is_base) (N := ["thing"]) (ps := ["thing"]) rfl rfl rfl T.d7 sc7 fun cdv A outer s H E hr => by
    have hu := hu7 hr
    exact (cs_cons (cs_ret (ce_and (ce_call (h 6 (by decide)) hr T.m6 T.d6.kp T.b6 (ca_cons (ce_v 0) (ca_cons ce_int (ca_cons ce_int ca_nil se_const) se_const) se_name)) (ce_one (ce_inT T.t_MOST_PLACES T.mt_MOST_PLACES (ce_v 0)))))
    cs_nil)
set_option maxHeartbeats 0 in
theorem ok8 (T : Top P w K mg f fd tb_MOST_PLACES) {d : Nat} (h : All P w K mg base f fd d) : FnOk P w K mg base CX0 (d + 1) (f 8) (fd 8) (psOf 8) (spF K (Ev.calls fns (d + 1)) 8) :=
  fn_rule (P := P) (w := w) (base := base) (F := fns) (n := 8) (d := d) (k := d) (fn := f_is_space) (N := ["thing", "p", "n"]) (ps := ["thing"]) rfl rfl rfl T.d8 sc8 fun cdv A outer s H E hr => by
    have hu := hu7 hr
    exact (cs_cons (cs_if (CWh.ct (cw_or (ct_not (ct_val (ce_isi (t := .tuple) (by intro m h; cases h) T.z_isinstance T.z_tuple (ce_v 0)))) (cw_or1 (ct_cmp (cm_ne hu) (ce_bltB blt_len T.z_len (ca_cons (ce_v 0) ca_nil se_name)) ce_int)))) (cs_cons (cs_ret ce_bl)
    cs_nil) cs_nil)
    (cs_cons (cs_asg (ce_v 0) (cg_tup rfl (cgs_cons sc8.nd (cgs_cons sc8.nd cgs_nil))))
    (cs_cons (cs_ret (ce_and (ce_call (h 7 (by decide)) hr T.m7 T.d7.kp T.b7 (ca_cons (ce_v 1) ca_nil se_name)) (ce_one (ce_call (h 6 (by decide)) hr T.m6 T.d6.kp T.b6 (ca_cons (ce_v 2) (ca_cons ce_int (ca_cons (ce_getT T.t_MOST_PLACES T.mt_MOST_PLACES (ce_v 1) (hs := by intro _ _; with_unfolding_all rfl)) ca_nil se_sub) se_const) se_name)))))
    cs_nil)))
set_option maxHeartbeats 0 in
theorem ok9 (T : Top P w K mg f fd tb_MOST_PLACES) {d : Nat} (h : All P w K mg base f fd d) : FnOk P w K mg base CX0 (d + 1) (f 9) (fd 9) (psOf 9) (spF K (Ev.calls fns (d + 1)) 9) :=
  fn_rule (P := P) (w := w) (base := base) (F := fns) (n := 9) (d := d) (k := d) (fn := f_is_row) (N := ["space", "thing", "p", "n"]) (ps := ["space", "thing"]) rfl rfl rfl T.d9 sc9 fun cdv A outer s H E hr => by
    have hu := hu7 hr
    exact (cs_cons (cs_asg (ce_v 0) (cg_tup rfl (cgs_cons sc9.nd (cgs_cons sc9.nd cgs_nil))))
    (cs_cons (cs_if (CWh.ct (cw_or (ct_not (ct_val (ce_isi (t := .tuple) (by intro m h; cases h) T.z_isinstance T.z_tuple (ce_v 1)))) (cw_or1 (ct_cmp (cm_ne hu) (ce_bltB blt_len T.z_len (ca_cons (ce_v 1) ca_nil se_name)) (ce_v 3))))) (cs_cons (cs_ret ce_bl)
    cs_nil) cs_nil)
    (cs_cons (cs_ret (ce_bltB (blt_all rfl) T.z_all (ca_cons (ce_comp1 (N := ["number", "p"]) rfl sc9.nd (by show CompScope (defScope s9) ["space", "thing", "p", "n"] _ _ _ _; exact ⟨rfl, by decide +kernel, by decide +kernel, by decide +kernel, by decide +kernel, rfl, by decide +kernel⟩) (cw_of (ce_v 1)) (fun _ _ _ _ => ⟨(cg_name nd_1), cts_nil, (ce_call (h 6 (by decide)) hr T.m6 T.d6.kp T.b6 (ca_cons (ce_v 0) (ca_cons ce_int (ca_cons (ce_sub (ce_v 1) ce_int) ca_nil se_bin) se_const) se_name))⟩)) ca_nil se_comp)))
    cs_nil)))
set_option maxHeartbeats 0 in
theorem ok10 (T : Top P w K mg f fd tb_MOST_PLACES) {d : Nat} (h : All P w K mg base f fd d) : FnOk P w K mg base CX0 (d + 1) (f 10) (fd 10) (psOf 10) (spF K (Ev.calls fns (d + 1)) 10) :=
  fn_rule (P := P) (w := w) (base := base) (F := fns) (n := 10) (d := d) (k := d) (fn := f__law_bent_row) (N := ["_law_state_here", "_law_space_here", "_law_row_here", "_law_at", "_law_odd", "_law_some"]) (ps := ["_law_state_here", "_law_space_here", "_law_row_here"]) rfl rfl rfl T.d10 sc10 fun cdv A outer s H E hr => by
    have hu := hu7 hr
    exact (cs_cons (cs_asg (ce_call (h 2 (by decide)) hr T.m2 T.d2.kp T.b2 (ca_cons (ce_v 0) (ca_cons (ce_add (ce_bltB blt_len T.z_len (ca_cons (ce_v 2) ca_nil se_name)) ce_int) ca_nil se_bin) se_name)) (cg_name sc10.nd))
    (cs_cons (cs_asg (ce_ix (ce_lst (ca_cons (ce_ix (ce_v 1) ce_int) (ca_cons (ce_neg ce_int) (ca_cons ce_bl (ca_cons ce_bl (ca_cons ce_non (ca_cons ce_str (ca_cons (ce_tup (ca_cons ce_int ca_nil se_const)) (ca_cons (ce_pow ce_int ce_int) (ca_cons ce_int (ca_cons ce_int (ca_cons (ce_sub (ce_ix (ce_v 1) ce_int) ce_int) ca_nil se_bin) se_const) se_const) se_bin) se_tup) se_const) se_const) se_const) se_const) se_un) se_sub)) (ce_call (h 2 (by decide)) hr T.m2 T.d2.kp T.b2 (ca_cons (ce_v 0) (ca_cons ce_int ca_nil se_const) se_name))) (cg_name sc10.nd))
    (cs_cons (cs_asg (ce_lst (ca_cons (ce_add (ce_add (ce_sl (ce_v 2) co_none (co_some (ce_v 3))) (ce_tup (ca_cons (ce_v 4) ca_nil se_name))) (ce_sl (ce_v 2) (co_some (ce_add (ce_v 3) ce_int)) co_none)) (ca_cons (ce_add (ce_add (ce_sl (ce_v 2) co_none (co_some (ce_v 3))) (ce_tup (ca_cons (ce_v 4) ca_nil se_name))) (ce_sl (ce_v 2) (co_some (ce_v 3)) co_none)) (ca_cons (ce_add (ce_sl (ce_v 2) co_none (co_some (ce_v 3))) (ce_sl (ce_v 2) (co_some (ce_add (ce_v 3) ce_int)) co_none)) (ca_cons (ce_bltT blt_list T.z_list (ca_cons (ce_v 2) ca_nil se_name)) ca_nil se_call) se_bin) se_bin) se_bin)) (cg_name sc10.nd))
    (cs_cons (cs_ret (ce_ix (ce_add (ce_v 5) (ce_lst (ca_cons (ce_rev (ce_v 2) (ce_neg ce_int)) (ca_cons ce_non (ca_cons ce_dnew (ca_cons (ce_lst (ca_cons (ce_v 4) ca_nil se_name)) (ca_cons (ce_tup (ca_cons (ce_v 2) ca_nil se_name)) ca_nil se_tup) se_lst) se_dict) se_const) se_sub))) (ce_ix (ce_lst (ca_cons ce_int (ca_cons ce_int (ca_cons ce_int (ca_cons ce_int (ca_cons ce_int (ca_cons ce_int (ca_cons ce_int (ca_cons ce_int (ca_cons ce_int (ca_cons ce_int (ca_cons ce_int (ca_cons ce_int ca_nil se_const) se_const) se_const) se_const) se_const) se_const) se_const) se_const) se_const) se_const) se_const) se_const)) (ce_call (h 2 (by decide)) hr T.m2 T.d2.kp T.b2 (ca_cons (ce_v 0) (ca_cons ce_int ca_nil se_const) se_name)))))
    cs_nil))))
set_option maxHeartbeats 0 in
theorem ok11 (T : Top P w K mg f fd tb_MOST_PLACES) {d : Nat} (h : All P w K mg base f fd d) : FnOk P w K mg base CX0 (d + 1) (f 11) (fd 11) (psOf 11) (spF K (Ev.calls fns (d + 1)) 11) :=
  fn_rule (P := P) (w := w) (base := base) (F := fns) (n := 11) (d := d) (k := d) (fn := f__law_whole) (N := ["_law_thing", "_law_least", "_law_most"]) (ps := ["_law_thing", "_law_least", "_law_most"]) rfl rfl rfl T.d11 sc11 fun cdv A outer s H E hr => by
    have hu := hu7 hr
    exact (cs_cons (cs_ret (ce_and (ce_isi (t := .int) (by intro m h; cases h) T.z_isinstance T.z_int (ce_v 0)) (ce_and (ce_not (ce_isi (t := .bool) (by intro m h; cases h) T.z_isinstance T.z_bool (ce_v 0))) (ce_one (ce_chain (cm_le hu) (cm_le hu) (ce_v 1) (ce_v 0) (ce_v 2))))))
    cs_nil)
set_option maxHeartbeats 0 in
theorem ok12 (T : Top P w K mg f fd tb_MOST_PLACES) {d : Nat} (h : All P w K mg base f fd d) : FnOk P w K mg base CX0 (d + 1) (f 12) (fd 12) (psOf 12) (spF K (Ev.calls fns (d + 1)) 12) :=
  fn_rule (P := P) (w := w) (base := base) (F := fns) (n := 12) (d := d) (k := d) (fn := f__law_due) (N := ["_law_thing", "_law_good"]) (ps := ["_law_thing"]) rfl rfl rfl T.d12 sc12 fun cdv A outer s H E hr => by
    have hu := hu7 hr
    exact (cs_cons (cs_asg (ce_lst (ca_cons (ce_tup (ca_cons ce_int (ca_cons ce_int ca_nil se_const) se_const)) (ca_cons (ce_tup (ca_cons ce_int (ca_cons ce_int ca_nil se_const) se_const)) (ca_cons (ce_tup (ca_cons ce_int (ca_cons ce_int ca_nil se_const) se_const)) (ca_cons (ce_tup (ca_cons ce_int (ca_cons ce_int ca_nil se_const) se_const)) (ca_cons (ce_tup (ca_cons ce_int (ca_cons ce_int ca_nil se_const) se_const)) (ca_cons (ce_tup (ca_cons ce_int (ca_cons ce_int ca_nil se_const) se_const)) (ca_cons (ce_tup (ca_cons ce_int (ca_cons ce_int ca_nil se_const) se_const)) (ca_cons (ce_tup (ca_cons ce_int (ca_cons ce_int ca_nil se_const) se_const)) (ca_cons (ce_tup (ca_cons ce_int (ca_cons ce_int ca_nil se_const) se_const)) (ca_cons (ce_tup (ca_cons ce_int (ca_cons ce_int ca_nil se_const) se_const)) (ca_cons (ce_tup (ca_cons ce_int (ca_cons ce_int ca_nil se_const) se_const)) (ca_cons (ce_tup (ca_cons ce_int (ca_cons ce_int ca_nil se_const) se_const)) (ca_cons (ce_tup (ca_cons ce_int (ca_cons ce_int ca_nil se_const) se_const)) ca_nil se_tup) se_tup) se_tup) se_tup) se_tup) se_tup) se_tup) se_tup) se_tup) se_tup) se_tup) se_tup) se_tup)) (cg_name sc12.nd))
    (cs_cons (cs_if (CWh.ct (cw_or (ct_not (ct_val (ce_isi (t := .tuple) (by intro m h; cases h) T.z_isinstance T.z_tuple (ce_v 0)))) (cw_or (ct_cmp (cm_ne hu) (ce_bltB blt_len T.z_len (ca_cons (ce_v 0) ca_nil se_name)) ce_int) (cw_or1 (ct_not (ct_val (ce_bltB (blt_all rfl) T.z_all (ca_cons (ce_comp1 (N := ["_law_one"]) rfl sc12.nd (by show CompScope (defScope s12) ["_law_thing", "_law_good"] _ _ _ _; exact ⟨rfl, by decide +kernel, by decide +kernel, by decide +kernel, by decide +kernel, rfl, by decide +kernel⟩) (cw_of (ce_v 0)) (fun _ _ _ _ => ⟨(cg_name nd_2), cts_nil, (ce_call (h 11 (by decide)) hr T.m11 T.d11.kp T.b11 (ca_cons (ce_v 0) (ca_cons ce_int (ca_cons ce_int ca_nil se_const) se_const) se_name))⟩)) ca_nil se_comp)))))))) (cs_cons (cs_ret ce_bl)
    cs_nil) cs_nil)
    (cs_cons (cs_ret (ce_cmp (cm_in hu) (ce_v 0) (ce_v 1)))
    cs_nil)))
set_option maxHeartbeats 0 in
theorem ok13 (T : Top P w K mg f fd tb_MOST_PLACES) {d : Nat} (h : All P w K mg base f fd d) : FnOk P w K mg base CX0 (d + 1) (f 13) (fd 13) (psOf 13) (spF K (Ev.calls fns (d + 1)) 13) :=
  fn_rule (P := P) (w := w) (base := base) (F := fns) (n := 13) (d := d) (k := d) (fn := f__law_is_row) (N := ["_law_space_here", "_law_thing"]) (ps := ["_law_space_here", "_law_thing"]) rfl rfl rfl T.d13 sc13 fun cdv A outer s H E hr => by
    have hu := hu7 hr
    exact (cs_cons (cs_if (CWh.ct (cw_or (ct_not (ct_val (ce_isi (t := .tuple) (by intro m h; cases h) T.z_isinstance T.z_tuple (ce_v 1)))) (cw_or1 (ct_cmp (cm_ne hu) (ce_bltB blt_len T.z_len (ca_cons (ce_v 1) ca_nil se_name)) (ce_ix (ce_v 0) ce_int))))) (cs_cons (cs_ret ce_bl)
    cs_nil) cs_nil)
    (cs_cons (cs_ret (ce_bltB (blt_all rfl) T.z_all (ca_cons (ce_comp1 (N := ["_law_number", "_law_space_here"]) rfl sc13.nd (by show CompScope (defScope s13) ["_law_space_here", "_law_thing"] _ _ _ _; exact ⟨rfl, by decide +kernel, by decide +kernel, by decide +kernel, by decide +kernel, rfl, by decide +kernel⟩) (cw_of (ce_v 1)) (fun _ _ _ _ => ⟨(cg_name nd_3), cts_nil, (ce_call (h 11 (by decide)) hr T.m11 T.d11.kp T.b11 (ca_cons (ce_v 0) (ca_cons ce_int (ca_cons (ce_sub (ce_ix (ce_v 1) ce_int) ce_int) ca_nil se_bin) se_const) se_name))⟩)) ca_nil se_comp)))
    cs_nil))
set_option maxHeartbeats 0 in
theorem ok14 (T : Top P w K mg f fd tb_MOST_PLACES) {d : Nat} (h : All P w K mg base f fd d) : FnOk P w K mg base CX0 (d + 1) (f 14) (fd 14) (psOf 14) (spF K (Ev.calls fns (d + 1)) 14) :=
  fn_rule (P := P) (w := w) (base := base) (F := fns) (n := 14) (d := d) (k := d) (fn := f_law) (N := ["_law_script", "_law_k", "_law_state_here", "_law_turn", "_law_thing", "_law_found", "_law_space_here", "_law_row_here"]) (ps := ["_law_script"]) rfl rfl rfl T.d14 sc14 fun cdv A outer s H E hr => by
    have hu := hu7 hr
    exact (cs_cons (cs_for PassesOwn.never rfl (cw_rng1 T.z_range (ca_cons (ce_bltB (blt_max rfl) T.z_max (ca_cons ce_int (ca_cons (ce_bltB (blt_min rfl) T.z_min (ca_cons (ce_bltB blt_len T.z_len (ca_cons (ce_v 0) ca_nil se_name)) (ca_cons ce_int ca_nil se_const) se_call)) ca_nil se_call) se_const)) ca_nil se_call)) (cg_name sc14.nd) (cs_cons (cs_asg (ce_call (h 1 (by decide)) hr T.m1 T.d1.kp T.b1 (ca_cons (ce_v 0) (ca_cons (ce_v 1) ca_nil se_name) se_name)) (cg_name sc14.nd))
    (cs_cons (cs_for PassesOwn.never rfl (cw_rng1 T.z_range (ca_cons ce_int ca_nil se_const)) (cg_name sc14.nd) (cs_cons (cs_asg (ce_call (h 5 (by decide)) hr T.m5 T.d5.kp T.b5 (ca_cons (ce_v 2) ca_nil se_name)) (cg_name sc14.nd))
    (cs_cons (cs_asg (ce_call (h 8 (by decide)) hr T.m8 T.d8.kp T.b8 (ca_cons (ce_v 4) ca_nil se_name)) (cg_name sc14.nd))
    (cs_cons (cs_if (CWh.ct (cw_or (ct_not (ct_val (ce_isi (t := .bool) (by intro m h; cases h) T.z_isinstance T.z_bool (ce_v 5)))) (cw_or1 (ct_cmp (cm_ne hu) (ce_v 5) (ce_call (h 12 (by decide)) hr T.m12 T.d12.kp T.b12 (ca_cons (ce_v 4) ca_nil se_name)))))) (cs_cons (cs_ret ce_bl)
    cs_nil) cs_nil)
    cs_nil))))
    (cs_cons (cs_asg (ce_call (h 3 (by decide)) hr T.m3 T.d3.kp T.b3 (ca_cons (ce_v 2) (ca_cons ce_int ca_nil se_const) se_name)) (cg_name sc14.nd))
    (cs_cons (cs_asg (ce_call (h 4 (by decide)) hr T.m4 T.d4.kp T.b4 (ca_cons (ce_v 2) (ca_cons (ce_v 6) ca_nil se_name) se_name)) (cg_name sc14.nd))
    (cs_cons (cs_for PassesOwn.never rfl (cw_of (ce_add (ce_lst (ca_cons (ce_v 7) ca_nil se_name)) (ce_comp1 (N := ["_law_turn", "_law_state_here", "_law_space_here", "_law_row_here"]) rfl sc14.nd (by show CompScope (defScope s14) ["_law_script", "_law_k", "_law_state_here", "_law_turn", "_law_thing", "_law_found", "_law_space_here", "_law_row_here"] _ _ _ _; exact ⟨rfl, by decide +kernel, by decide +kernel, by decide +kernel, by decide +kernel, rfl, by decide +kernel⟩) (cw_rng1 T.z_range (ca_cons ce_int ca_nil se_const)) (fun _ _ _ _ => ⟨(cg_name nd_4), cts_nil, (ce_call (h 10 (by decide)) hr T.m10 T.d10.kp T.b10 (ca_cons (ce_v 1) (ca_cons (ce_v 2) (ca_cons (ce_v 3) ca_nil se_name) se_name) se_name))⟩)))) (cg_name sc14.nd) (cs_cons (cs_asg (ce_call (h 9 (by decide)) hr T.m9 T.d9.kp T.b9 (ca_cons (ce_v 6) (ca_cons (ce_v 4) ca_nil se_name) se_name)) (cg_name sc14.nd))
    (cs_cons (cs_if (CWh.ct (cw_or (ct_not (ct_val (ce_isi (t := .bool) (by intro m h; cases h) T.z_isinstance T.z_bool (ce_v 5)))) (cw_or1 (ct_cmp (cm_ne hu) (ce_v 5) (ce_call (h 13 (by decide)) hr T.m13 T.d13.kp T.b13 (ca_cons (ce_v 6) (ca_cons (ce_v 4) ca_nil se_name) se_name)))))) (cs_cons (cs_ret ce_bl)
    cs_nil) cs_nil)
    cs_nil)))
    cs_nil))))))
    (cs_cons (cs_ret (ce_and (ce_cmp (cm_is hu) (ce_call (h 8 (by decide)) hr T.m8 T.d8.kp T.b8 (ca_cons (ce_tup (ca_cons ce_int (ca_cons ce_int ca_nil se_const) se_const)) ca_nil se_tup)) ce_bl) (ce_and (ce_cmp (cm_is hu) (ce_call (h 8 (by decide)) hr T.m8 T.d8.kp T.b8 (ca_cons (ce_tup (ca_cons ce_int (ca_cons ce_int ca_nil se_const) se_const)) ca_nil se_tup)) ce_bl) (ce_one (ce_cmp (cm_is hu) (ce_call (h 8 (by decide)) hr T.m8 T.d8.kp T.b8 (ca_cons (ce_tup (ca_cons ce_int (ca_cons ce_int ca_nil se_const) se_const)) ca_nil se_tup)) ce_bl)))))
    cs_nil))
theorem all_ok (T : Top P w K mg f fd tb_MOST_PLACES) : ∀ d, All P w K mg base f fd d
  | 0 => fun i _ => fn_zero
  | d + 1 => fun i hi => match i, hi with
    | 0, _ => ok0 T (all_ok T d)
    | 1, _ => ok1 T (all_ok T d)
    | 2, _ => ok2 T (all_ok T d)
    | 3, _ => ok3 T (all_ok T d)
    | 4, _ => ok4 T (all_ok T d)
    | 5, _ => ok5 T (all_ok T d)
    | 6, _ => ok6 T (all_ok T d)
    | 7, _ => ok7 T (all_ok T d)
    | 8, _ => ok8 T (all_ok T d)
    | 9, _ => ok9 T (all_ok T d)
    | 10, _ => ok10 T (all_ok T d)
    | 11, _ => ok11 T (all_ok T d)
    | 12, _ => ok12 T (all_ok T d)
    | 13, _ => ok13 T (all_ok T d)
    | 14, _ => ok14 T (all_ok T d)
    | i + 15, hi => absurd hi (by omega)
end
set_option maxHeartbeats 0 in
theorem all_mk {l : PySem.W.OpenLaw} {w : World} {K : PySem.W.Frag} {h : Heap} {mg : Str → Option Value} {fa f0 f1 f2 f3 f4 f5 f6 f7 f8 f9 f10 f11 f12 f13 f14 tb_MOST_PLACES : Addr} (X : K.In h) (G : h.Ns mainGlobals mg) (hfa : mg "law" = some (.ref fa))
    {od0 an0 od1 an1 od2 an2 od3 an3 od4 an4 od5 an5 od6 an6 od7 an7 od8 an8 od9 an9 od10 an10 od11 an11 od12 an12 od13 an13 od14 an14 : Option Addr} {sl0 sl1 sl2 sl3 sl4 sl5 sl6 sl7 sl8 sl9 sl10 sl11 sl12 sl13 sl14 : Array (Option Value)} {oc0 kV0 dc0 pm0 cd0 ct0 oc1 kV1 dc1 pm1 cd1 ct1 oc2 kV2 dc2 pm2 cd2 ct2 oc3 kV3 dc3 pm3 cd3 ct3 oc4 kV4 dc4 pm4 cd4 ct4 oc5 kV5 dc5 pm5 cd5 ct5 oc6 kV6 dc6 pm6 cd6 ct6 oc7 kV7 dc7 pm7 cd7 ct7 oc8 kV8 dc8 pm8 cd8 ct8 oc9 kV9 dc9 pm9 cd9 ct9 oc10 kV10 dc10 pm10 cd10 ct10 oc11 kV11 dc11 pm11 cd11 ct11 oc12 kV12 dc12 pm12 cd12 ct12 oc13 kV13 dc13 pm13 cd13 ct13 oc14 kV14 dc14 pm14 cd14 ct14 : Value} {es_MOST_PLACES : Array DictEntry} {n_MOST_PLACES : Nat}
    (a0 : PySem.W.nsIn K mainGlobals "_law_cell_at" = some (some (.ref f0))) (l0 : K.lookup f0 = some ⟨oc0, od0, .func (PySem.W.fnOf "_law_cell_at" "_law_cell_at" (defArgs s0) (defBody s0) (defScope s0) .none kV0 dc0 pm0 an0 cd0 ct0), sl0⟩) (c0 : PySem.W.codeIn K cd0 "_law_cell_at" = true) (k0 : PySem.W.keepIn K (.ref f0) = true)
    (a1 : PySem.W.nsIn K mainGlobals "_law_state" = some (some (.ref f1))) (l1 : K.lookup f1 = some ⟨oc1, od1, .func (PySem.W.fnOf "_law_state" "_law_state" (defArgs s1) (defBody s1) (defScope s1) .none kV1 dc1 pm1 an1 cd1 ct1), sl1⟩) (c1 : PySem.W.codeIn K cd1 "_law_state" = true) (k1 : PySem.W.keepIn K (.ref f1) = true)
    (a2 : PySem.W.nsIn K mainGlobals "_law_take" = some (some (.ref f2))) (l2 : K.lookup f2 = some ⟨oc2, od2, .func (PySem.W.fnOf "_law_take" "_law_take" (defArgs s2) (defBody s2) (defScope s2) .none kV2 dc2 pm2 an2 cd2 ct2), sl2⟩) (c2 : PySem.W.codeIn K cd2 "_law_take" = true) (k2 : PySem.W.keepIn K (.ref f2) = true)
    (a3 : PySem.W.nsIn K mainGlobals "_law_space" = some (some (.ref f3))) (l3 : K.lookup f3 = some ⟨oc3, od3, .func (PySem.W.fnOf "_law_space" "_law_space" (defArgs s3) (defBody s3) (defScope s3) .none kV3 dc3 pm3 an3 cd3 ct3), sl3⟩) (c3 : PySem.W.codeIn K cd3 "_law_space" = true) (k3 : PySem.W.keepIn K (.ref f3) = true)
    (a4 : PySem.W.nsIn K mainGlobals "_law_row" = some (some (.ref f4))) (l4 : K.lookup f4 = some ⟨oc4, od4, .func (PySem.W.fnOf "_law_row" "_law_row" (defArgs s4) (defBody s4) (defScope s4) .none kV4 dc4 pm4 an4 cd4 ct4), sl4⟩) (c4 : PySem.W.codeIn K cd4 "_law_row" = true) (k4 : PySem.W.keepIn K (.ref f4) = true)
    (a5 : PySem.W.nsIn K mainGlobals "_law_space_like" = some (some (.ref f5))) (l5 : K.lookup f5 = some ⟨oc5, od5, .func (PySem.W.fnOf "_law_space_like" "_law_space_like" (defArgs s5) (defBody s5) (defScope s5) .none kV5 dc5 pm5 an5 cd5 ct5), sl5⟩) (c5 : PySem.W.codeIn K cd5 "_law_space_like" = true) (k5 : PySem.W.keepIn K (.ref f5) = true)
    (a6 : PySem.W.nsIn K mainGlobals "is_whole" = some (some (.ref f6))) (l6 : K.lookup f6 = some ⟨oc6, od6, .func (PySem.W.fnOf "is_whole" "is_whole" (defArgs s6) (defBody s6) (defScope s6) .none kV6 dc6 pm6 an6 cd6 ct6), sl6⟩) (c6 : PySem.W.codeIn K cd6 "is_whole" = true) (k6 : PySem.W.keepIn K (.ref f6) = true)
    (a7 : PySem.W.nsIn K mainGlobals "is_base" = some (some (.ref f7))) (l7 : K.lookup f7 = some ⟨oc7, od7, .func (PySem.W.fnOf "is_base" "is_base" (defArgs s7) (defBody s7) (defScope s7) .none kV7 dc7 pm7 an7 cd7 ct7), sl7⟩) (c7 : PySem.W.codeIn K cd7 "is_base" = true) (k7 : PySem.W.keepIn K (.ref f7) = true)
    (a8 : PySem.W.nsIn K mainGlobals "is_space" = some (some (.ref f8))) (l8 : K.lookup f8 = some ⟨oc8, od8, .func (PySem.W.fnOf "is_space" "is_space" (defArgs s8) (defBody s8) (defScope s8) .none kV8 dc8 pm8 an8 cd8 ct8), sl8⟩) (c8 : PySem.W.codeIn K cd8 "is_space" = true) (k8 : PySem.W.keepIn K (.ref f8) = true)
    (a9 : PySem.W.nsIn K mainGlobals "is_row" = some (some (.ref f9))) (l9 : K.lookup f9 = some ⟨oc9, od9, .func (PySem.W.fnOf "is_row" "is_row" (defArgs s9) (defBody s9) (defScope s9) .none kV9 dc9 pm9 an9 cd9 ct9), sl9⟩) (c9 : PySem.W.codeIn K cd9 "is_row" = true) (k9 : PySem.W.keepIn K (.ref f9) = true)
    (a10 : PySem.W.nsIn K mainGlobals "_law_bent_row" = some (some (.ref f10))) (l10 : K.lookup f10 = some ⟨oc10, od10, .func (PySem.W.fnOf "_law_bent_row" "_law_bent_row" (defArgs s10) (defBody s10) (defScope s10) .none kV10 dc10 pm10 an10 cd10 ct10), sl10⟩) (c10 : PySem.W.codeIn K cd10 "_law_bent_row" = true) (k10 : PySem.W.keepIn K (.ref f10) = true)
    (a11 : PySem.W.nsIn K mainGlobals "_law_whole" = some (some (.ref f11))) (l11 : K.lookup f11 = some ⟨oc11, od11, .func (PySem.W.fnOf "_law_whole" "_law_whole" (defArgs s11) (defBody s11) (defScope s11) .none kV11 dc11 pm11 an11 cd11 ct11), sl11⟩) (c11 : PySem.W.codeIn K cd11 "_law_whole" = true) (k11 : PySem.W.keepIn K (.ref f11) = true)
    (a12 : PySem.W.nsIn K mainGlobals "_law_due" = some (some (.ref f12))) (l12 : K.lookup f12 = some ⟨oc12, od12, .func (PySem.W.fnOf "_law_due" "_law_due" (defArgs s12) (defBody s12) (defScope s12) .none kV12 dc12 pm12 an12 cd12 ct12), sl12⟩) (c12 : PySem.W.codeIn K cd12 "_law_due" = true) (k12 : PySem.W.keepIn K (.ref f12) = true)
    (a13 : PySem.W.nsIn K mainGlobals "_law_is_row" = some (some (.ref f13))) (l13 : K.lookup f13 = some ⟨oc13, od13, .func (PySem.W.fnOf "_law_is_row" "_law_is_row" (defArgs s13) (defBody s13) (defScope s13) .none kV13 dc13 pm13 an13 cd13 ct13), sl13⟩) (c13 : PySem.W.codeIn K cd13 "_law_is_row" = true) (k13 : PySem.W.keepIn K (.ref f13) = true)
    (a14 : PySem.W.nsIn K mainGlobals "law" = some (some (.ref f14))) (l14 : K.lookup f14 = some ⟨oc14, od14, .func (PySem.W.fnOf "law" "law" (defArgs s14) (defBody s14) (defScope s14) .none kV14 dc14 pm14 an14 cd14 ct14), sl14⟩) (c14 : PySem.W.codeIn K cd14 "law" = true) (k14 : PySem.W.keepIn K (.ref f14) = true)
    (z_all : PySem.W.nsIn K mainGlobals "all" = some none)
    (z_bool : PySem.W.nsIn K mainGlobals "bool" = some none)
    (z_int : PySem.W.nsIn K mainGlobals "int" = some none)
    (z_isinstance : PySem.W.nsIn K mainGlobals "isinstance" = some none)
    (z_len : PySem.W.nsIn K mainGlobals "len" = some none)
    (z_list : PySem.W.nsIn K mainGlobals "list" = some none)
    (z_max : PySem.W.nsIn K mainGlobals "max" = some none)
    (z_min : PySem.W.nsIn K mainGlobals "min" = some none)
    (z_range : PySem.W.nsIn K mainGlobals "range" = some none)
    (z_tuple : PySem.W.nsIn K mainGlobals "tuple" = some none)
    (at_MOST_PLACES : PySem.W.nsIn K mainGlobals "MOST_PLACES" = some (some (.ref tb_MOST_PLACES))) (lt_MOST_PLACES : K.lookup tb_MOST_PLACES = some ⟨.type "dict", none, .dict es_MOST_PLACES n_MOST_PLACES, #[]⟩) (tl_MOST_PLACES : TabLit es_MOST_PLACES.toList [(2, 6), (3, 4), (5, 3)]) (ns_MOST_PLACES : (tb_MOST_PLACES == sysModules) = false) :
    ∃ fd : FuncData, (∀ (s : Shared) (v : Value), BindsTo s fd ⟨[v], []⟩ [("_law_script", v)]) ∧ ∀ base : Heap, K.In base → base.Ns mainGlobals mg → FnOk l.prog w K mg base CX0 65 fa fd ["_law_script"] (spF K (Ev.calls fns 65) 14) := by
  have e := hfa.symm.trans (PySem.W.mg_of X G a14)
  cases e
  have F0 := fun_mk (st := s0) l0 c0 k0
  have B0 := F0.binds (ps := ["_law_script", "_law_k"]) fun _ _ _ _ _ _ us hl => match us, hl with | [_, _], _ => rfl
  have F1 := fun_mk (st := s1) l1 c1 k1
  have B1 := F1.binds (ps := ["_law_script", "_law_k"]) fun _ _ _ _ _ _ us hl => match us, hl with | [_, _], _ => rfl
  have F2 := fun_mk (st := s2) l2 c2 k2
  have B2 := F2.binds (ps := ["_law_state_here", "_law_many"]) fun _ _ _ _ _ _ us hl => match us, hl with | [_, _], _ => rfl
  have F3 := fun_mk (st := s3) l3 c3 k3
  have B3 := F3.binds (ps := ["_law_state_here", "_law_most"]) fun _ _ _ _ _ _ us hl => match us, hl with | [_, _], _ => rfl
  have F4 := fun_mk (st := s4) l4 c4 k4
  have B4 := F4.binds (ps := ["_law_state_here", "_law_space_here"]) fun _ _ _ _ _ _ us hl => match us, hl with | [_, _], _ => rfl
  have F5 := fun_mk (st := s5) l5 c5 k5
  have B5 := F5.binds (ps := ["_law_state_here"]) fun _ _ _ _ _ _ us hl => match us, hl with | [_], _ => rfl
  have F6 := fun_mk (st := s6) l6 c6 k6
  have B6 := F6.binds (ps := ["thing", "least", "greatest"]) fun _ _ _ _ _ _ us hl => match us, hl with | [_, _, _], _ => rfl
  have F7 := fun_mk (st := s7) l7 c7 k7
  have B7 := F7.binds (ps := ["thing"]) fun _ _ _ _ _ _ us hl => match us, hl with | [_], _ => rfl
  have F8 := fun_mk (st := s8) l8 c8 k8
  have B8 := F8.binds (ps := ["thing"]) fun _ _ _ _ _ _ us hl => match us, hl with | [_], _ => rfl
  have F9 := fun_mk (st := s9) l9 c9 k9
  have B9 := F9.binds (ps := ["space", "thing"]) fun _ _ _ _ _ _ us hl => match us, hl with | [_, _], _ => rfl
  have F10 := fun_mk (st := s10) l10 c10 k10
  have B10 := F10.binds (ps := ["_law_state_here", "_law_space_here", "_law_row_here"]) fun _ _ _ _ _ _ us hl => match us, hl with | [_, _, _], _ => rfl
  have F11 := fun_mk (st := s11) l11 c11 k11
  have B11 := F11.binds (ps := ["_law_thing", "_law_least", "_law_most"]) fun _ _ _ _ _ _ us hl => match us, hl with | [_, _, _], _ => rfl
  have F12 := fun_mk (st := s12) l12 c12 k12
  have B12 := F12.binds (ps := ["_law_thing"]) fun _ _ _ _ _ _ us hl => match us, hl with | [_], _ => rfl
  have F13 := fun_mk (st := s13) l13 c13 k13
  have B13 := F13.binds (ps := ["_law_space_here", "_law_thing"]) fun _ _ _ _ _ _ us hl => match us, hl with | [_, _], _ => rfl
  have F14 := fun_mk (st := s14) l14 c14 k14
  have B14 := F14.binds (ps := ["_law_script"]) fun _ _ _ _ _ _ us hl => match us, hl with | [_], _ => rfl
  let ff : Nat → Addr := fun i => [f0, f1, f2, f3, f4, f5, f6, f7, f8, f9, f10, f11, f12, f13, fa].getD i 0
  let gg : Nat → FuncData := fun i => [PySem.W.fnOf "_law_cell_at" "_law_cell_at" (defArgs s0) (defBody s0) (defScope s0) .none kV0 dc0 pm0 an0 cd0 ct0, PySem.W.fnOf "_law_state" "_law_state" (defArgs s1) (defBody s1) (defScope s1) .none kV1 dc1 pm1 an1 cd1 ct1, PySem.W.fnOf "_law_take" "_law_take" (defArgs s2) (defBody s2) (defScope s2) .none kV2 dc2 pm2 an2 cd2 ct2, PySem.W.fnOf "_law_space" "_law_space" (defArgs s3) (defBody s3) (defScope s3) .none kV3 dc3 pm3 an3 cd3 ct3, PySem.W.fnOf "_law_row" "_law_row" (defArgs s4) (defBody s4) (defScope s4) .none kV4 dc4 pm4 an4 cd4 ct4, PySem.W.fnOf "_law_space_like" "_law_space_like" (defArgs s5) (defBody s5) (defScope s5) .none kV5 dc5 pm5 an5 cd5 ct5, PySem.W.fnOf "is_whole" "is_whole" (defArgs s6) (defBody s6) (defScope s6) .none kV6 dc6 pm6 an6 cd6 ct6, PySem.W.fnOf "is_base" "is_base" (defArgs s7) (defBody s7) (defScope s7) .none kV7 dc7 pm7 an7 cd7 ct7, PySem.W.fnOf "is_space" "is_space" (defArgs s8) (defBody s8) (defScope s8) .none kV8 dc8 pm8 an8 cd8 ct8, PySem.W.fnOf "is_row" "is_row" (defArgs s9) (defBody s9) (defScope s9) .none kV9 dc9 pm9 an9 cd9 ct9, PySem.W.fnOf "_law_bent_row" "_law_bent_row" (defArgs s10) (defBody s10) (defScope s10) .none kV10 dc10 pm10 an10 cd10 ct10, PySem.W.fnOf "_law_whole" "_law_whole" (defArgs s11) (defBody s11) (defScope s11) .none kV11 dc11 pm11 an11 cd11 ct11, PySem.W.fnOf "_law_due" "_law_due" (defArgs s12) (defBody s12) (defScope s12) .none kV12 dc12 pm12 an12 cd12 ct12, PySem.W.fnOf "_law_is_row" "_law_is_row" (defArgs s13) (defBody s13) (defScope s13) .none kV13 dc13 pm13 an13 cd13 ct13, PySem.W.fnOf "law" "law" (defArgs s14) (defBody s14) (defScope s14) .none kV14 dc14 pm14 an14 cd14 ct14].getD i (PySem.W.fnOf "law" "law" (defArgs s14) (defBody s14) (defScope s14) .none kV14 dc14 pm14 an14 cd14 ct14)
  have TT : Top l.prog w K mg ff gg tb_MOST_PLACES :=
    ⟨F0, B0, PySem.W.mg_of X G a0, F1, B1, PySem.W.mg_of X G a1, F2, B2, PySem.W.mg_of X G a2, F3, B3, PySem.W.mg_of X G a3, F4, B4, PySem.W.mg_of X G a4, F5, B5, PySem.W.mg_of X G a5, F6, B6, PySem.W.mg_of X G a6, F7, B7, PySem.W.mg_of X G a7, F8, B8, PySem.W.mg_of X G a8, F9, B9, PySem.W.mg_of X G a9, F10, B10, PySem.W.mg_of X G a10, F11, B11, PySem.W.mg_of X G a11, F12, B12, PySem.W.mg_of X G a12, F13, B13, PySem.W.mg_of X G a13, F14, B14, PySem.W.mg_of X G a14, PySem.W.mg_none_of X G z_all, PySem.W.mg_none_of X G z_bool, PySem.W.mg_none_of X G z_int, PySem.W.mg_none_of X G z_isinstance, PySem.W.mg_none_of X G z_len, PySem.W.mg_none_of X G z_list, PySem.W.mg_none_of X G z_max, PySem.W.mg_none_of X G z_min, PySem.W.mg_none_of X G z_range, PySem.W.mg_none_of X G z_tuple, tabK_of lt_MOST_PLACES tl_MOST_PLACES ns_MOST_PLACES, PySem.W.mg_of X G at_MOST_PLACES⟩
  refine ⟨gg 14, fun s v => .of_eq rfl, fun base _ _ => ?_⟩
  exact all_ok (base := base) TT 65 14 (by decide)
theorem walk {l : PySem.W.OpenLaw} {q : Program} {loose : List Str} {XP : (Str → Option Value) → Heap → Prop} {YP : World → Heap → Prop} {d : DefRec} {K : Params → PySem.W.Frag} (hn : l.most = some 63) (hdf : d.params.defaults = [])
    (hY : ∀ (w : World) (h : Heap), YP w h → (K w.params).In h)
    (F : ∀ (w : World) (mg : Str → Option Value) (fa : Addr) (h : Heap), (K w.params).In h → h.Ns mainGlobals mg → mg d.name = some (.ref fa) →
      ∃ fd : FuncData, (∀ (s : Shared) (u : Value), BindsTo s fd ⟨[u], []⟩ [("_law_script", u)]) ∧ ∀ base : Heap, (K w.params).In base → base.Ns mainGlobals mg → FnOk l.prog w (K w.params) mg base CX0 65 fa fd ["_law_script"] (spF (K w.params) (Ev.calls fns 65) 14)) :
    PySem.W.WalkO q loose XP YP l.row.toRowW d [] (fun f vs => PySem.call f vs) :=
  L2.walk_of (n := 63) (k := 65) (x := "_law_script") (CX := fun _ => CX0) (sp := fun w => spF (K w.params) (Ev.calls fns 65) 14) hn (by decide) hdf ⟨rfl, by decide, by decide⟩ hY F (fun w H a ns hl hO hS => sp_law hO hS (let ⟨S, _, e⟩ := K11.law_ok (ns := ns) (S := [.scr ns]) 61 rfl; ⟨S, e⟩)) fun _ _ _ _ _ z => z
end K11
open PySem PySem.W PyProof.Rows
set_option maxRecDepth 100000 in
set_option maxHeartbeats 0 in
theorem PySem.Challenge.cw_fewspaces_k11_spaces_and_rows_looked_at_holds : PySem.Challenge.rw_fewspaces_k11_spaces_and_rows_looked_at.Holds := by
  w_on; o_law; k_head; (case hw => w_witness2)
  k_fill
  refine K11.walk (l := PySem.Challenge.rw_fewspaces_k11_spaces_and_rows_looked_at) rfl rfl (fun w h Y => PySem.W.kIn_of Y) ?F
  case F =>
    intro w mg fa h KX G hmg
    refine' K11.all_mk KX G hmg ?a0 ?l0 ?c0 ?k0 ?a1 ?l1 ?c1 ?k1 ?a2 ?l2 ?c2 ?k2 ?a3 ?l3 ?c3 ?k3 ?a4 ?l4 ?c4 ?k4 ?a5 ?l5 ?c5 ?k5 ?a6 ?l6 ?c6 ?k6 ?a7 ?l7 ?c7 ?k7 ?a8 ?l8 ?c8 ?k8 ?a9 ?l9 ?c9 ?k9 ?a10 ?l10 ?c10 ?k10 ?a11 ?l11 ?c11 ?k11 ?a12 ?l12 ?c12 ?k12 ?a13 ?l13 ?c13 ?k13 ?a14 ?l14 ?c14 ?k14 ?z_all ?z_bool ?z_int ?z_isinstance ?z_len ?z_list ?z_max ?z_min ?z_range ?z_tuple ?at_MOST_PLACES ?lt_MOST_PLACES ?tl_MOST_PLACES ?ns_MOST_PLACES
    (case a0 => k_is); (case l0 => k_is); (case c0 => k_is); (case k0 => k_is)
    (case a1 => k_is); (case l1 => k_is); (case c1 => k_is); (case k1 => k_is)
    (case a2 => k_is); (case l2 => k_is); (case c2 => k_is); (case k2 => k_is)
    (case a3 => k_is); (case l3 => k_is); (case c3 => k_is); (case k3 => k_is)
    (case a4 => k_is); (case l4 => k_is); (case c4 => k_is); (case k4 => k_is)
    (case a5 => k_is); (case l5 => k_is); (case c5 => k_is); (case k5 => k_is)
    (case a6 => k_is); (case l6 => k_is); (case c6 => k_is); (case k6 => k_is)
    (case a7 => k_is); (case l7 => k_is); (case c7 => k_is); (case k7 => k_is)
    (case a8 => k_is); (case l8 => k_is); (case c8 => k_is); (case k8 => k_is)
    (case a9 => k_is); (case l9 => k_is); (case c9 => k_is); (case k9 => k_is)
    (case a10 => k_is); (case l10 => k_is); (case c10 => k_is); (case k10 => k_is)
    (case a11 => k_is); (case l11 => k_is); (case c11 => k_is); (case k11 => k_is)
    (case a12 => k_is); (case l12 => k_is); (case c12 => k_is); (case k12 => k_is)
    (case a13 => k_is); (case l13 => k_is); (case c13 => k_is); (case k13 => k_is)
    (case a14 => k_is); (case l14 => k_is); (case c14 => k_is); (case k14 => k_is)
    (case z_all => k_is)
    (case z_bool => k_is)
    (case z_int => k_is)
    (case z_isinstance => k_is)
    (case z_len => k_is)
    (case z_list => k_is)
    (case z_max => k_is)
    (case z_min => k_is)
    (case z_range => k_is)
    (case z_tuple => k_is)
    (case at_MOST_PLACES => k_is); (case lt_MOST_PLACES => k_is); (case tl_MOST_PLACES => exact ⟨⟨_, rfl⟩, rfl, ⟨_, rfl⟩, ⟨_, rfl⟩, rfl, ⟨_, rfl⟩, ⟨_, rfl⟩, rfl, ⟨_, rfl⟩, trivial⟩); (case ns_MOST_PLACES => rfl)
