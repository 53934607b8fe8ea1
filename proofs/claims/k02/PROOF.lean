import PyProof.Rows.All
import Wide.All
import OpenK.AllK
import Wide.FinOn
import Lean
import PyProof.EqAt
import PyProof.EqKinds
import PyProof.TupleCall
import PySem.Challenge.RW_bedsheet_k02_fills
section
set_option Elab.async false
set_option linter.all false
set_option maxRecDepth 100000
/-! THE HAND LAYER, for ints, bools, texts, own classes, LISTS and tuples (index, slices, in, append, pop ..), calls, loops. Paste it whole ahead of your own text; what your proof does not reach may be deleted. -/
namespace L2
open PySem PySem.Spec PyProof.Rows

/-- a key: an int or a str -/
abbrev Key := Sum Int Str
def keyIs : Key → Value → Bool
  | .inl k, v => Value.isInt k v
  | .inr x, v => Value.isStrOf x v
def keyH (w : World) : Key → Int
  | .inl k => hashInt k
  | .inr x => hashStr w x
theorem keyIs_shape : ∀ {k : Key} {v : Value}, keyIs k v = true → (∃ i t, k = Sum.inl i ∧ v = Value.int i t) ∨ (∃ x t, k = Sum.inr x ∧ v = Value.str x t)
  | .inl i, v, h => by
    obtain ⟨t, e⟩ := Value.isInt_shape (k := i) (v := v) h
    exact .inl ⟨i, t, rfl, e⟩
  | .inr x, v, h => by
    obtain ⟨t, e⟩ := Value.isStrOf_shape (x := x) (v := v) h
    exact .inr ⟨x, t, rfl, e⟩
theorem keyIs_int (i : Int) (t : Tok) : keyIs (.inl i) (.int i t) = true := by simp [keyIs, Value.isInt]
theorem keyIs_str (x : Str) (t : Tok) : keyIs (.inr x) (.str x t) = true := by simp [keyIs, Value.isStrOf]
theorem key_ll (a b : Int) : decide ((Sum.inl a : Key) = Sum.inl b) = (a == b) := by
  by_cases e : a = b
  · subst e; simp
  · have h : ¬ (Sum.inl a : Key) = Sum.inl b := fun q => e (Sum.inl.inj q)
    rw [decide_eq_false h]
    exact (beq_eq_false_iff_ne.mpr e).symm
theorem key_rr (a b : Str) : decide ((Sum.inr a : Key) = Sum.inr b) = decide (a = b) := by
  by_cases e : a = b
  · subst e; simp
  · have h : ¬ (Sum.inr a : Key) = Sum.inr b := fun q => e (Sum.inr.inj q)
    rw [decide_eq_false h, decide_eq_false e]
theorem key_lr (a : Int) (b : Str) : decide ((Sum.inl a : Key) = Sum.inr b) = false := decide_eq_false (fun q => nomatch q)
theorem key_rl (a : Str) (b : Int) : decide ((Sum.inr a : Key) = Sum.inl b) = false := decide_eq_false (fun q => nomatch q)

def mixKind (prog : Program) (w : World) : PySem.KeyKind prog w Key where
  is := keyIs
  hash := keyH w
  inj := fun v a b ha hb => by
    rcases keyIs_shape ha with ⟨i, t, rfl, rfl⟩ | ⟨x, t, rfl, rfl⟩
    · rcases keyIs_shape hb with ⟨j, u, rfl, e⟩ | ⟨y, u, rfl, e⟩
      · injection e with e1 _; rw [e1]
      · exact nomatch e
    · rcases keyIs_shape hb with ⟨j, u, rfl, e⟩ | ⟨y, u, rfl, e⟩
      · exact nomatch e
      · injection e with e1 _; rw [e1]
  byValue := fun k v h => by
    rcases keyIs_shape h with ⟨i, t, rfl, rfl⟩ | ⟨x, t, rfl, rfl⟩ <;> rfl
  pyHash := fun hv h => by
    rcases keyIs_shape hv with ⟨i, t, rfl, rfl⟩ | ⟨x, t, rfl, rfl⟩
    · exact wpAny_pyHash_int h
    · exact wpAny_pyHash_str h
  eqBool := fun hu hv h => by
    rcases keyIs_shape hu with ⟨i, t, rfl, rfl⟩ | ⟨x, t, rfl, rfl⟩
    · rcases keyIs_shape hv with ⟨j, u, rfl, rfl⟩ | ⟨y, u, rfl, rfl⟩
      · rw [key_ll] at h; exact wpAny_eqBool_int h
      · rw [key_lr] at h; exact SeqAt.EqAt.int_str i t y u _ _ _ _ h
    · rcases keyIs_shape hv with ⟨j, u, rfl, rfl⟩ | ⟨y, u, rfl, rfl⟩
      · rw [key_rl] at h; exact SeqAt.EqAt.str_int x t j u _ _ _ _ h
      · rw [key_rr] at h; exact wpAny_eqBool_str h
  «strs» := fun k x t v h => by
    rcases keyIs_shape h with ⟨i, u, rfl, e⟩ | ⟨y, u, rfl, e⟩
    · exact nomatch e
    · injection e with e1 _
      subst e1
      cases v <;> rfl

theorem mixKind_is (prog : Program) (w : World) (k : Key) (v : Value) : (mixKind prog w).is k v = keyIs k v := rfl
theorem mixKind_int (prog : Program) (w : World) (i : Int) (t : Tok) : (mixKind prog w).is (.inl i) (.int i t) = true := keyIs_int i t
theorem mixKind_str (prog : Program) (w : World) (x : Str) (t : Tok) : (mixKind prog w).is (.inr x) (.str x t) = true := keyIs_str x t
end L2

namespace L2
open PySem PySem.Spec PyProof.Rows

/-- a value, without the heap -/
inductive V where
  | non | bl (b : Bool) | int (i : Int) | str (x : Str) | byt (b : Array UInt8) | flt (b : UInt64) | ref (a : Addr) | ty (n : String)
  deriving DecidableEq

def RelV : V → Value → Prop
  | .non, u => u = Value.none
  | .bl b, u => u = Value.bool b
  | .int i, u => ∃ t, u = Value.int i t
  | .str x, u => ∃ t, u = Value.str x t
  | .byt b, u => ∃ t, u = Value.bytes b t
  | .flt b, u => ∃ t, u = Value.float b t
  | .ref a, u => u = Value.ref a
  | .ty n, u => u = Value.type n

abbrev Vals : List V → List Value → Prop := Paired RelV
theorem Vals.length {xs : List V} {us : List Value} (r : Vals xs us) : xs.length = us.length := Paired.length r
theorem Vals.get : ∀ {xs : List V} {us : List Value} {i : Nat} {x : V}, Vals xs us → xs[i]? = some x → ∃ u, us[i]? = some u ∧ RelV x u
  | _, _, _, _, .nil, e => by simp at e
  | _, _, 0, _, .cons r _, e => by simp at e; subst e; exact ⟨_, rfl, r⟩
  | _, _, i + 1, x, .cons _ t, e => by
    obtain ⟨u, h1, h2⟩ := Vals.get (i := i) (x := x) t (by simpa using e)
    exact ⟨u, by simpa using h1, h2⟩
theorem Vals.set {x : V} {u : Value} (r : RelV x u) : ∀ {xs : List V} {us : List Value} (i : Nat), Vals xs us → Vals (xs.set i x) (us.set i u)
  | _, _, _, .nil => .nil
  | _, _, 0, .cons _ t => .cons r t
  | _, _, i + 1, .cons q t => .cons q (Vals.set r i t)
theorem Vals.append : ∀ {xs ys : List V} {us ws : List Value}, Vals xs us → Vals ys ws → Vals (xs ++ ys) (us ++ ws)
  | _, _, _, _, .nil, s => s
  | _, _, _, _, .cons r t, s => .cons r (Vals.append t s)
theorem Vals.take : ∀ {xs : List V} {us : List Value} (n : Nat), Vals xs us → Vals (xs.take n) (us.take n)
  | _, _, 0, _ => .nil
  | _, _, _ + 1, .nil => .nil
  | _, _, n + 1, .cons r t => .cons r (Vals.take n t)
theorem Vals.drop : ∀ {xs : List V} {us : List Value} (n : Nat), Vals xs us → Vals (xs.drop n) (us.drop n)
  | _, _, 0, r => r
  | _, _, _ + 1, .nil => .nil
  | _, _, n + 1, .cons _ t => Vals.drop n t
theorem Vals.none_of : ∀ {xs : List V} {us : List Value} {i : Nat}, Vals xs us → xs[i]? = none → us[i]? = none := fun {xs us i} r e => by
  have h1 := r.length
  have h2 : xs.length ≤ i := List.getElem?_eq_none_iff.mp e
  exact List.getElem?_eq_none_iff.mpr (by omega)

def RelO : Option V → Option Value → Prop
  | some v, some u => RelV v u
  | none, none => True
  | _, _ => False
def KV {κ : Type} : List (κ × V) → List (κ × Value) → Prop := Paired fun (p : κ × V) (q : κ × Value) => p.1 = q.1 ∧ RelV p.2 q.2

/-- a key of a dict (00_mix): an int or a text -/
def kV : Key → V
  | .inl i => .int i
  | .inr x => .str x

/-- what stands at a tracked address -/
inductive HO where
  /-- a list -/
  | lst (xs : List V)
  /-- a tuple (never changes) -/
  | tup (xs : List V)
  /-- a dict whose keys are ints and texts; one whose keys are tuples of ints and texts (the empty one is both) -/
  | dK (kvs : List (Key × V)) | dT (kvs : List (List Key × V))
  /-- a set of ints: its members, its size -/
  | set (S : Int → Bool) (n : Nat)
  /-- an instance of the class at C, its dict at dx, its attributes -/
  | ins (C dx : Addr) (fs : List (Str × V))
  /-- the dict of the instance at x -/
  | own (x : Addr)
  /-- the dict of an exception -/
  | xd (fs : List (Str × V))
  /-- a bound method, f of x -/
  | met (f x : Addr)
  /-- a range object lo, lo + 1, .. below hi -/
  | rng (lo hi : Int)
  /-- a thing that is known to the object (the script; a dict while a loop walks it): read, never written while it is so -/
  | frz (o : Obj) (u : HO)
  /-- a code object's table -/
  | tbl (ps : Array Value)
  /-- any other thing, by what is true of its one object (a def of one's own: SetO a S n := HO.ext fun h => ..) -/
  | ext (φ : Heap → Prop)

abbrev Hp := Addr → Option HO
def upd (H : Hp) (a : Addr) (o : HO) : Hp := fun b => if b = a then some o else H b
theorem upd_same {H : Hp} {a : Addr} {o : HO} : upd H a o a = some o := by unfold upd; rw [if_pos rfl]
theorem upd_ne {H : Hp} {a b : Addr} {o : HO} (h : b ≠ a) : upd H a o b = H b := by unfold upd; rw [if_neg h]
theorem upd_upd {H : Hp} {a : Addr} {o u : HO} : upd (upd H a o) a u = upd H a u := by
  funext b; unfold upd; split <;> rfl
/-- two objects of different content stand apart -/
theorem ne_of {H : Hp} {a b : Addr} {o u : HO} (h : H a = some o) (h' : H b = some u) (d : o ≠ u) : a ≠ b := by
  intro e; subst e; rw [h] at h'; exact d (Option.some.inj h')
theorem ne_of_none {H : Hp} {a b : Addr} {o : HO} (h : H a = some o) (h' : H b = none) : a ≠ b := by
  intro e; subst e; rw [h] at h'; cases h'

section
variable (P : Program) (w : World)
def ObjOk (H : Hp) (h : Heap) (a : Addr) : HO → Prop
  | .lst xs => xs.length ≤ sizeLine ∧ ∃ (its : List Value) (n : Nat), Vals xs its ∧ h.get? a = some { cls := .type "list", data := .seq its.toArray n }
  | .tup xs => xs.length ≤ sizeLine ∧ ∃ its : List Value, Vals xs its ∧ IsTup h a its.toArray
  | .dK kvs => kvs.length ≤ sizeLine ∧ (a == sysModules) = false ∧ ∃ vs, KV kvs vs ∧ h.DictOf (mixKind P w) a vs
  | .dT kvs => kvs.length ≤ sizeLine ∧ (a == sysModules) = false ∧ ∃ xs : List (List Key × Addr × Value),
      Paired (fun (p : List Key × V) (q : List Key × Addr × Value) => p.1 = q.1 ∧ H q.2.1 = some (.tup (p.1.map kV)) ∧ RelV p.2 q.2.2) kvs xs ∧
      ∃ o es ep, h.get? a = some o ∧ o.ExactDict ∧ o.data = .dict es ep ∧ es.toList = xs.map (entryOfKey (tupleKind (mixKind P w))) ∧ (xs.map (·.1)).Nodup
  | .set S n => h.SetOf (intKind P w) a S n
  | .ins C dx fs => H dx = some (.own a) ∧ fs.length ≤ 1000 ∧ dx ≠ a ∧ h.get? a = some (PySem.W.instObj C dx) ∧
      ∃ mA, h.Ns1 dx mA ∧ (∀ f, RelO (fs.lookup f) (mA f)) ∧ PySem.Within mA (fs.map (·.1))
  | .own _ => ∃ o, h.get? a = some o
  | .xd fs => ∃ mA, h.Ns1 a mA ∧ ∀ f, RelO (fs.lookup f) (mA f)
  | .rng lo hi => ∃ t u v, h.get? a = some { cls := .type "range", data := .fields #[.int lo t, .int hi u, .int 1 v] }
  | .frz o u => h.get? a = some o ∧ ObjOk H h a u
  | .tbl ps => h.get? a = some { cls := .none, data := .fields ps }
  | .met f x => h.get? a = some (PySem.W.methodObj (.ref f) (.ref x))
  | .ext φ => φ h ∧ (∃ o, h.get? a = some o) ∧ ∀ h1 h2 : Heap, φ h1 → (∀ o, h1.get? a = some o → h2.get? a = some o) → φ h2
/-- the abstract heap is held -/
def HOk (H : Hp) (h : Heap) : Prop := ∀ a o, H a = some o → ObjOk P w H h a o
end

section
variable {P : Program} {w : World} {H H' : Hp} {h h' : Heap} {a : Addr} {o : HO}
theorem ObjOk.lt (x : ObjOk P w H h a o) : a < h.objs.size := by
  cases o with
  | lst xs => obtain ⟨_, _, _, _, e⟩ := x; exact Heap.lt_size e
  | tup xs => obtain ⟨_, _, _, p⟩ := x; exact p.lt
  | dK kvs => obtain ⟨_, _, _, _, o, _, _, e, _⟩ := x; exact Heap.lt_size e
  | dT kvs => obtain ⟨_, _, _, _, o, _, _, e, _⟩ := x; exact Heap.lt_size e
  | set S n => obtain ⟨o, _, _, _, e, _⟩ := x; exact Heap.lt_size e
  | ins C dx fs => obtain ⟨_, _, _, e, _⟩ := x; exact Heap.lt_size e
  | own y => obtain ⟨_, e⟩ := x; exact Heap.lt_size e
  | xd fs => obtain ⟨_, ⟨_, _, _, e, _⟩, _⟩ := x; exact Heap.lt_size e
  | rng lo hi => obtain ⟨_, _, _, e⟩ := x; exact Heap.lt_size e
  | frz ob u => obtain ⟨e, _⟩ := x; exact Heap.lt_size e
  | tbl ps => exact Heap.lt_size (show h.get? a = some _ from x)
  | met f y => exact Heap.lt_size (show h.get? a = some _ from x)
  | ext φ => obtain ⟨_, ⟨_, e⟩, _⟩ := x; exact Heap.lt_size e
theorem Paired.mapP {α β : Type} {F G : α → β → Prop} : ∀ {l₁ : List α} {l₂ : List β}, Paired F l₁ l₂ → (∀ a b, F a b → G a b) → Paired G l₁ l₂
  | _, _, .nil, _ => .nil
  | _, _, .cons r t, f => .cons (f _ _ r) (Paired.mapP t f)
theorem Paired.imp' {α β : Type} {F G : α → β → Prop} (f : ∀ a b, F a b → G a b) {l₁ : List α} {l₂ : List β} (r : Paired F l₁ l₂) : Paired G l₁ l₂ := Paired.mapP r f
/-- what an object's description leans on: its own object, its own dict, the tuples -/
theorem ObjOk.stay (x : ObjOk P w H h a o) (k : ∀ b u, (b = a ∨ H b = some (.own a)) → h.get? b = some u → h'.get? b = some u)
    (ho : ∀ b, H b = some (.own a) → H' b = some (.own a)) (ht : ∀ b xs, H b = some (.tup xs) → H' b = some (.tup xs)) : ObjOk P w H' h' a o := by
  induction o with
  | lst xs => obtain ⟨z, its, n, r, e⟩ := x; exact ⟨z, its, n, r, k _ _ (.inl rfl) e⟩
  | tup xs => obtain ⟨z, its, r, ob, e, c⟩ := x; exact ⟨z, its, r, ob, k _ _ (.inl rfl) e, c⟩
  | dK kvs => obtain ⟨z, y, vs, r, ob, es, ep, e, c⟩ := x; exact ⟨z, y, vs, r, ob, es, ep, k _ _ (.inl rfl) e, c⟩
  | dT kvs =>
    obtain ⟨z, y, xs, r, ob, es, ep, e, c⟩ := x
    exact ⟨z, y, xs, Paired.mapP r fun p q z => ⟨z.1, ht _ _ z.2.1, z.2.2⟩, ob, es, ep, k _ _ (.inl rfl) e, c⟩
  | set S n => obtain ⟨ob, es, ep, t, e, c⟩ := x; exact ⟨ob, es, ep, t, k _ _ (.inl rfl) e, c⟩
  | ins C dx fs =>
    obtain ⟨d, z, ne, e, mA, ⟨od, es, ep, e2, c⟩, r⟩ := x
    exact ⟨ho _ d, z, ne, k _ _ (.inl rfl) e, mA, ⟨od, es, ep, k _ _ (.inr d) e2, c⟩, r⟩
  | own y => obtain ⟨ob, e⟩ := x; exact ⟨ob, k _ _ (.inl rfl) e⟩
  | xd fs => obtain ⟨mA, ⟨od, es, ep, e, c⟩, r⟩ := x; exact ⟨mA, ⟨od, es, ep, k _ _ (.inl rfl) e, c⟩, r⟩
  | rng lo hi => obtain ⟨t, u, v, e⟩ := x; exact ⟨t, u, v, k _ _ (.inl rfl) e⟩
  | frz ob u ih => obtain ⟨e, q⟩ := x; exact ⟨k _ _ (.inl rfl) e, ih q⟩
  | tbl ps =>
    have e : h.get? a = some { cls := .none, data := .fields ps } := x
    show h'.get? a = some { cls := .none, data := .fields ps }
    exact k a _ (.inl rfl) e
  | met f y =>
    have e : h.get? a = some (PySem.W.methodObj (.ref f) (.ref y)) := x
    show h'.get? a = some (PySem.W.methodObj (.ref f) (.ref y))
    exact k a _ (.inl rfl) e
  | ext φ => obtain ⟨p, ⟨o, e⟩, st⟩ := x; exact ⟨st _ _ p fun o q => k _ _ (.inl rfl) q, ⟨o, k _ _ (.inl rfl) e⟩, st⟩
theorem HOk.lt (x : HOk P w H h) (e : H a = some o) : a < h.objs.size := (x a o e).lt
theorem HOk.fresh (x : HOk P w H h) (e : h.objs.size ≤ a) : H a = none := by
  cases q : H a with
  | none => rfl
  | some u => exact absurd (Nat.lt_of_lt_of_le (x.lt q) e) (Nat.lt_irrefl _)
/-- every object of the heap is kept -/
theorem HOk.kept (x : HOk P w H h) (k : ∀ b u, h.get? b = some u → h'.get? b = some u) : HOk P w H h' := fun a o e =>
  (x a o e).stay (fun b u _ q => k b u q) (fun _ q => q) fun _ _ q => q
/-- a new object is laid and tracked -/
theorem HOk.laid (x : HOk P w H h) (k : ∀ b u, h.get? b = some u → h'.get? b = some u) (hp : h.objs.size ≤ a) (new : ObjOk P w (upd H a o) h' a o) : HOk P w (upd H a o) h' := fun b u e => by
  have hn := x.fresh hp
  by_cases hb : b = a
  · subst hb; rw [upd_same] at e; cases e; exact new
  · rw [upd_ne hb] at e
    exact (x b u e).stay (fun c v _ q => k c v q) (fun c q => by rw [upd_ne (ne_of_none q hn)]; exact q) fun c xs q => by rw [upd_ne (ne_of_none q hn)]; exact q
end

/-- what may be read as u: it is u, or a known u -/
def Rd (H : Hp) (a : Addr) (u : HO) : Prop := H a = some u ∨ ∃ o, H a = some (.frz o u)
theorem Rd.of {H : Hp} {a : Addr} {u : HO} (h : H a = some u) : Rd H a u := .inl h
theorem Rd.ok {P : Program} {w : World} {H : Hp} {h : Heap} {a : Addr} {u : HO} (r : Rd H a u) (x : HOk P w H h) : ObjOk P w H h a u := by
  rcases r with r | ⟨o, r⟩
  · exact x a u r
  · obtain ⟨_, q⟩ := x a _ r
    exact q
/-- what may be written -/
def Mut : Option HO → Prop
  | some (.lst _) => True
  | some (.dK _) => True
  | some (.dT _) => True
  | some (.set _ _) => True
  | some (.ins _ _ _) => True
  | some (.ext _) => True
  | _ => False
section
variable {P : Program} {w : World} {H : Hp} {h h' : Heap} {x e : Addr} {o' : HO}
/-- the object at e is changed: x itself, or the dict of the instance x -/
theorem HOk.write (ok : HOk P w H h) (mu : Mut (H x)) (he : e = x ∨ H e = some (.own x)) (k : ∀ b u, b ≠ e → h.get? b = some u → h'.get? b = some u) (heo : ∃ u, h'.get? e = some u)
    (new : ObjOk P w (upd H x o') h' x o') : HOk P w (upd H x o') h' := fun b u q => by
  have nown : ∀ c y, H c = some (.own y) → c ≠ x := fun c y r z => by subst z; rw [r] at mu; exact mu
  have ntup : ∀ c xs, H c = some (.tup xs) → c ≠ x := fun c xs r z => by subst z; rw [r] at mu; exact mu
  by_cases hb : b = x
  · subst hb; rw [upd_same] at q; cases q; exact new
  · rw [upd_ne hb] at q
    by_cases hbe : b = e
    · have q' : H b = some (.own x) := by
        rcases he with z | z
        · exact absurd (hbe.trans z) hb
        · rw [hbe]; exact z
      rw [q] at q'; cases q'
      obtain ⟨v, hv⟩ := heo
      exact ⟨v, by rw [hbe]; exact hv⟩
    · refine (ok b u q).stay (fun c v hc r => k c v ?_ r) (fun c r => by rw [upd_ne (nown c b r)]; exact r) fun c xs r => by rw [upd_ne (ntup c xs r)]; exact r
      rcases hc with rfl | hc
      · exact hbe
      · rintro rfl
        rcases he with z | z
        · exact nown c b hc z
        · rw [hc] at z; cases z; exact hb rfl
end

/-! ### kept unless tracked; of the frames at fs (the callers') the slots may change (an exception that passes writes there); of the records at ex (iterators) nothing is said -/
structure Un (fs ex : List Addr) (H H' : Hp) (h h' : Heap) : Prop where
  keep : ∀ b o, h.get? b = some o → H b = none → b ∉ fs → b ∉ ex → h'.get? b = some o
  slot : ∀ b o, h.get? b = some o → H b = none → b ∈ fs → b ∉ ex → ∃ sl, h'.get? b = some { o with slots := sl }
  free : ∀ b o, h.get? b = some o → H b = none → b ∉ ex → H' b = none
  there : ∀ b o, h.get? b = some o → b ∉ ex → ∃ o', h'.get? b = some o'
  tups : ∀ b xs, H b = some (.tup xs) → H' b = some (.tup xs)
  frzs : ∀ b o u, H b = some (.frz o u) → H' b = some (.frz o u)
  tbls : ∀ b ps, H b = some (.tbl ps) → ∃ more, H' b = some (.tbl (ps ++ more))
section
variable {fs fs' ex ex' : List Addr} {H H1 H2 : Hp} {h h1 h2 h' : Heap} {a x e : Addr} {o : HO}
theorem Un.any (u : Un fs ex H H1 h h1) {b : Addr} {ob : Obj} (q : h.get? b = some ob) (n : H b = none) (hx : b ∉ ex) : ∃ sl, h1.get? b = some { ob with slots := sl } := by
  by_cases hb : b ∈ fs
  · exact u.slot b ob q n hb hx
  · exact ⟨ob.slots, u.keep b ob q n hb hx⟩
theorem Un.trans (a : Un fs ex H H1 h h1) (b : Un fs ex H1 H2 h1 h2) : Un fs ex H H2 h h2 where
  keep := fun c ob q n hc hx => b.keep c ob (a.keep c ob q n hc hx) (a.free c ob q n hx) hc hx
  slot := fun c ob q n hc hx => by
    obtain ⟨sl, e1⟩ := a.slot c ob q n hc hx
    obtain ⟨sl', e2⟩ := b.slot c _ e1 (a.free c ob q n hx) hc hx
    exact ⟨sl', e2⟩
  free := fun c ob q n hx => by
    obtain ⟨o', e1⟩ := a.there c ob q hx
    exact b.free c o' e1 (a.free c ob q n hx) hx
  there := fun c ob q hx => by
    obtain ⟨o', e1⟩ := a.there c ob q hx
    exact b.there c o' e1 hx
  tups := fun c xs q => b.tups c xs (a.tups c xs q)
  frzs := fun c ob xs q => b.frzs c ob xs (a.frzs c ob xs q)
  tbls := fun c ps q => by
    obtain ⟨m1, e1⟩ := a.tbls c ps q
    obtain ⟨m2, e2⟩ := b.tbls c _ e1
    exact ⟨m1 ++ m2, by rw [e2, Array.append_assoc]⟩
theorem Un.kept (k : ∀ b u, h.get? b = some u → h'.get? b = some u) : Un fs ex H H h h' :=
  ⟨fun b ob q _ _ _ => k b ob q, fun b ob q _ _ _ => ⟨ob.slots, k b ob q⟩, fun _ _ _ n _ => n, fun b ob q _ => ⟨ob, k b ob q⟩, fun _ _ q => q, fun _ _ _ q => q, fun _ ps q => ⟨#[], by rw [q]; simp⟩⟩
theorem Un.refl : Un fs ex H H h h := Un.kept fun _ _ q => q
theorem Un.laid (k : ∀ b u, h.get? b = some u → h'.get? b = some u) (hp : h.objs.size ≤ a) (hn : H a = none) : Un fs ex H (upd H a o) h h' where
  keep := fun b u q _ _ _ => k b u q
  slot := fun b u q _ _ _ => ⟨u.slots, k b u q⟩
  free := fun b u q n _ => by rw [upd_ne (Nat.ne_of_lt (Nat.lt_of_lt_of_le (Heap.lt_size q) hp))]; exact n
  there := fun b u q _ => ⟨u, k b u q⟩
  tups := fun b xs q => by rw [upd_ne (ne_of_none q hn)]; exact q
  frzs := fun b u xs q => by rw [upd_ne (ne_of_none q hn)]; exact q
  tbls := fun b ps q => ⟨#[], by rw [upd_ne (ne_of_none q hn), q]; simp⟩
theorem Un.write (mu : Mut (H x)) (he : e = x ∨ H e = some (.own x)) (k : ∀ b u, b ≠ e → h.get? b = some u → h'.get? b = some u) (heo : ∃ u, h'.get? e = some u) : Un fs ex H (upd H x o) h h' := by
  have hx : ∀ b, H b = none → b ≠ x := fun b n z => by subst z; rw [n] at mu; exact mu
  have hb : ∀ b, H b = none → b ≠ e := fun b n z => by
    subst z
    rcases he with r | r
    · exact hx b n r
    · rw [n] at r; cases r
  have hm : ∀ b u, H b = some u → ¬ Mut (some u) → b ≠ x := fun b u q nm z => by subst z; rw [q] at mu; exact nm mu
  refine ⟨fun b u q n _ _ => k b u (hb b n) q, fun b u q n _ _ => ⟨u.slots, k b u (hb b n) q⟩, fun b u q n _ => by rw [upd_ne (hx b n)]; exact n, fun b u q _ => ?_,
    fun b xs q => by rw [upd_ne (hm b _ q fun z => z)]; exact q, fun b u xs q => by rw [upd_ne (hm b _ q fun z => z)]; exact q, fun b ps q => ⟨#[], by rw [upd_ne (hm b _ q fun z => z), q]; simp⟩⟩
  by_cases hbe : b = e
  · subst hbe; exact heo
  · exact ⟨u, k b u hbe q⟩
theorem Un.mono (u : Un fs ex H H1 h h1) (hs : ∀ b ∈ fs, b ∈ fs') (hx : ∀ b ∈ ex, b ∈ ex') : Un fs' ex' H H1 h h1 :=
  ⟨fun b ob q n hb he => u.keep b ob q n (fun z => hb (hs b z)) fun z => he (hx b z), fun _ _ q n _ he => u.any q n fun z => he (hx _ z), fun b ob q n he => u.free b ob q n fun z => he (hx b z), fun b ob q he => u.there b ob q fun z => he (hx b z), u.tups, u.frzs, u.tbls⟩
end

/-! ### the heap without what is tracked -/
def trk (h : Heap) (H : Hp) : List Addr := (List.range h.objs.size).filter fun a => (H a).isSome
def hidT (h : Heap) (H : Hp) : Heap := PySem.W.hideAll h (trk h H)
theorem hidT_size (h : Heap) (H : Hp) : (hidT h H).objs.size = h.objs.size := PySem.W.hideAll_size _ _
theorem hidT_get {h : Heap} {H : Hp} {b : Addr} {o : Obj} (e : h.get? b = some o) (n : H b = none) : (hidT h H).get? b = some o :=
  PySem.W.hideAll_get _ e fun hm => by
    have q : (H b).isSome = true := (List.mem_filter.mp hm).2
    rw [n] at q; simp at q
theorem of_hidT {h : Heap} {H : Hp} {b : Addr} {o : Obj} (e : (hidT h H).get? b = some o) : h.get? b = some o ∧ H b = none := by
  have e' : h.get? b = some o := PySem.W.of_hideAll (trk h H) e
  refine ⟨e', ?_⟩
  cases q : H b with
  | none => rfl
  | some x =>
    have hm : b ∈ trk h H := List.mem_filter.mpr ⟨List.mem_range.mpr (Heap.lt_size e'), by simp [q]⟩
    have z : (hidT h H).get? b = none := PySem.W.hideAll_none (trk h H) hm
    rw [z] at e; cases e

/-! ### OpenK's ledger, filled with every new object but one -/
def allNews (g h : Heap) (L : Addr) : List (Addr × Obj) := (List.range h.objs.size).filterMap fun a => if a = L ∨ (g.get? a).isSome = true then none else (h.get? a).map fun o => (a, o)
theorem mem_allNews {g h : Heap} {L a : Addr} {o : Obj} (h1 : a ≠ L) (h2 : g.get? a = none) (h3 : h.get? a = some o) : (a, o) ∈ allNews g h L :=
  List.mem_filterMap.mpr ⟨a, List.mem_range.mpr (Heap.lt_size h3), by simp [h1, h2, h3]⟩
theorem of_mem_allNews {g h : Heap} {L : Addr} {p : Addr × Obj} (hp : p ∈ allNews g h L) : p.1 ≠ L ∧ g.get? p.1 = none ∧ h.get? p.1 = some p.2 := by
  obtain ⟨b, _, e⟩ := List.mem_filterMap.mp hp
  split at e
  · cases e
  · rename_i hn
    cases q : h.get? b with
    | none => rw [q] at e; simp at e
    | some u =>
      rw [q] at e
      simp only [Option.map_some, Option.some.injEq] at e
      subst e
      refine ⟨fun z => hn (.inl z), ?_, q⟩
      show g.get? b = none
      cases r : g.get? b with
      | none => rfl
      | some v => exact (hn (.inr (by simp [r]))).elim
def rest (g h : Heap) (L d : Addr) : List (Addr × Obj) := (allNews g h L).filter fun p => decide (p.1 ≠ d)
theorem rest_ne {g h : Heap} {L d : Addr} : ∀ p ∈ rest g h L d, p.1 ≠ d := fun p hp => of_decide_eq_true (List.mem_filter.mp hp).2
theorem mem_rest {g h : Heap} {L d a : Addr} {o : Obj} (h1 : a ≠ L) (h2 : g.get? a = none) (h3 : h.get? a = some o) (h4 : a ≠ d) : (a, o) ∈ rest g h L d :=
  List.mem_filter.mpr ⟨mem_allNews h1 h2 h3, decide_eq_true h4⟩
theorem news_all {g h : Heap} {L : Addr} : News g L h (allNews g h L) := fun p hp => let ⟨a, b, c⟩ := of_mem_allNews hp; ⟨c, a, b⟩
theorem news_at {g h : Heap} {L d : Addr} {o : Obj} (h1 : d ≠ L) (h2 : g.get? d = none) (h3 : h.get? d = some o) : News g L h ((d, o) :: rest g h L d) := fun p hp => by
  rcases List.mem_cons.mp hp with rfl | hp
  · exact ⟨h3, h1, h2⟩
  · exact news_all p (List.mem_filter.mp hp).1
/-- behind a rule that changed d alone: all else but the frame is kept -/
theorem kept_of_news {g h h' : Heap} {L d : Addr} {m : Str → Option Value} (k : ∀ b o, g.get? b = some o → h.get? b = some o) (F : Fr g L h' m) (N : News g L h' (rest g h L d)) :
    ∀ b o, b ≠ L → b ≠ d → h.get? b = some o → h'.get? b = some o := fun b o h1 h2 e => by
  cases q : g.get? b with
  | some u =>
    have := k b u q
    rw [e] at this; cases this
    exact F.keep b _ q
  | none => exact (N (b, o) (mem_rest h1 q e h2)).1
end L2

namespace L2
open PySem PySem.Spec PyProof.Rows

/-- the module's facts, over the base: the heap at the law's entry without what is tracked there -/
structure Mod (K : PySem.W.Frag) (mg : Str → Option Value) (base : Heap) : Prop where
  kin : K.In base
  glob : base.Ns mainGlobals mg
  blt : ∃ mb, base.Ns builtinsNs mb ∧ ∀ x : Str, x ≠ "__name__" → mb x = bootBuiltins x
  nolimit : base.NoLimit

/-- the context: a def's body (or a comprehension's block) running. base: fixed through the whole law; s₀, H₀: the entry; outer: the frames whose slots others may change (a def's callers); stack: all frames that run;
   ex: iterators that were made ahead of the entry and are walked here (a comprehension's); fn: the names whose cells were made at the entry (a def: all; a comprehension's block: its own); calm: not within an except suite; pn: pins that every state bears; xe: what is wanted of an exception that leaves the code -/
structure Cx where
  prog : Program
  w : World
  K : PySem.W.Frag
  mg : Str → Option Value
  base : Heap
  A : Around
  N : List Str
  s₀ : Shared
  H₀ : Hp
  env : Env
  outer : List Env
  stack : List Env
  ex : List Addr
  fn : Str → Bool
  calm : Bool
  pn : List (Addr × Obj)
  xe : Value → Shared → Prop
/-- the callers' frames -/
def frs (l : List Env) : List Addr := l.filterMap (·.frame)
abbrev Cx.fs (X : Cx) : List Addr := frs X.outer

def Vis (sc : Scope) (x : Str) : Prop := sc.names.lookup x = some .local ∨ sc.names.lookup x = some .cell ∨ sc.names.lookup x = some .free
def Loc (sc : Scope) (x : Str) : Prop := sc.names.lookup x = some .local ∨ sc.names.lookup x = some .cell
def Look (env : Env) (h : Heap) (m : Str → Option Value) (x : Str) (u : Value) : Prop :=
  (env.kindOf x = some .local ∧ m x = some u) ∨ ((env.kindOf x = some .cell ∨ env.kindOf x = some .free) ∧ ∃ c, env.cells.lookup x = some c ∧ h.IsCell c (some u))

structure Cx.Ok (X : Cx) : Prop where
  mod : Mod X.K X.mg X.base
  kind : X.env.scope.kind = .function
  glob : X.env.globals = mainGlobals
  blt : X.env.builtins = builtinsNs
  above : X.s₀.heap.objs.size ≤ X.env.locals
  inj : ∀ x y c, X.env.cells.lookup x = some c → X.env.cells.lookup y = some c → x = y
  has : ∀ x, (X.env.kindOf x = some .cell ∨ X.env.kindOf x = some .free) → ∃ c, X.env.cells.lookup x = some c
  cab : ∀ x c, X.fn x = true → X.env.cells.lookup x = some c → X.s₀.heap.objs.size ≤ c
  hd : X.calm = true → X.A.handled = none
  frames : X.A.frames = some X.stack
  stk : X.stack = X.outer ∨ (X.stack = X.env :: X.outer ∧ X.env.frame = some X.env.locals)
  exf : ∀ b ∈ X.ex, b ≠ X.env.locals ∧ ∀ x c, X.env.cells.lookup x = some c → c ≠ b
  bs : ∀ b o, X.base.get? b = some o → X.s₀.heap.get? b = some o ∧ X.H₀ b = none
  bsz : X.base.objs.size ≤ X.s₀.heap.objs.size
  noex : ∀ b o, X.base.get? b = some o → b ∉ X.ex
  exfs : ∀ b ∈ X.ex, b ∉ X.fs
  funs : X.s₀.heap.FunFrames X.base X.outer
  frf : ∀ b ∈ X.fs, X.H₀ b = none

structure Inv (X : Cx) (pins : List (Addr × Obj)) (σ : List (Option V)) (H : Hp) (s : Shared) : Prop where
  ok : X.Ok
  os : s.os = X.s₀.os
  bare : AllBare s.gens
  base : Un X.fs X.ex X.H₀ H X.s₀.heap s.heap
  loc : ∃ m, s.heap.Ns X.env.locals m ∧ ∀ (i : Nat) (x : Str) (v : V), X.N[i]? = some x → σ[i]? = some (some v) → Vis X.env.scope x → ∃ u, RelV v u ∧ Look X.env s.heap m x u
  cell : ∀ x c, X.env.cells.lookup x = some c → ∃ v, s.heap.IsCell c v
  free : H X.env.locals = none
  freeC : ∀ x c, X.env.cells.lookup x = some c → H c = none
  pin : ∀ p ∈ X.pn ++ pins, s.heap.get? p.1 = some p.2 ∧ H p.1 = none ∧ p.1 ≠ X.env.locals ∧ p.1 ∉ X.fs ∧ ∀ v, p.2.data ≠ .cell v
  hok : HOk X.prog X.w H s.heap
  len : σ.length = X.N.length

section
variable {X : Cx} {pins : List (Addr × Obj)} {σ : List (Option V)} {H H' : Hp} {s : Shared} {h' : Heap}

theorem Cx.Ok.nofr (ok : X.Ok) {b : Addr} {o : Obj} (e : X.base.get? b = some o) : b ∉ X.fs := fun hb => by
  have := (ok.funs.mem hb).1
  rw [e] at this; cases this
theorem Inv.bs (I : Inv X pins σ H s) : ∀ b o, X.base.get? b = some o → s.heap.get? b = some o ∧ H b = none := fun b o e =>
  ⟨I.base.keep b o (I.ok.bs b o e).1 (I.ok.bs b o e).2 (I.ok.nofr e) (I.ok.noex b o e), I.base.free b o (I.ok.bs b o e).1 (I.ok.bs b o e).2 (I.ok.noex b o e)⟩
theorem Inv.bk (I : Inv X pins σ H s) : ∀ b o, X.base.get? b = some o → s.heap.get? b = some o := fun b o e => (I.bs b o e).1
theorem Inv.mod (I : Inv X pins σ H s) : Mod X.K X.mg X.base := I.ok.mod
theorem Inv.kIn (I : Inv X pins σ H s) : X.K.In s.heap := I.ok.mod.kin.keeps I.bk
theorem Inv.nolimit (I : Inv X pins σ H s) : s.heap.NoLimit := I.ok.mod.nolimit.keeps I.bk
/-- the frame over the base: for OpenK's rules (K.In X.base is I.mod.kin) -/
theorem Inv.fr (I : Inv X pins σ H s) : ∃ m, Fr X.base X.env.locals s.heap m :=
  let ⟨m, hn, _⟩ := I.loc
  ⟨m, hn, I.bk, Nat.le_trans I.ok.bsz I.ok.above⟩
theorem Inv.lt (I : Inv X pins σ H s) : X.env.locals < s.heap.objs.size := let ⟨_, hn, _⟩ := I.loc; hn.lt
theorem Inv.sz (I : Inv X pins σ H s) : X.s₀.heap.objs.size ≤ s.heap.objs.size := Nat.le_trans I.ok.above (Nat.le_of_lt I.lt)
theorem Inv.nofs (I : Inv X pins σ H s) {a : Addr} (h : s.heap.objs.size ≤ a) : a ∉ X.fs := fun hb => by
  obtain ⟨_, o, ho, _⟩ := I.ok.funs.mem hb
  exact absurd (Nat.lt_of_lt_of_le (Heap.lt_size ho) (Nat.le_trans I.sz h)) (Nat.lt_irrefl _)
theorem Inv.cne (I : Inv X pins σ H s) : ∀ x c, X.env.cells.lookup x = some c → c ≠ X.env.locals := fun x c e z => by
  obtain ⟨v, o, ho, hd⟩ := I.cell x c e
  obtain ⟨m, ⟨o', es, ep, ho', hd', _⟩, _⟩ := I.loc
  rw [z, ho'] at ho; cases ho; rw [hd'] at hd; cases hd
theorem Inv.funs (I : Inv X pins σ H s) : s.heap.FunFrames X.base X.outer := by
  have all : ∀ (l : List Env), (∀ b ∈ frs l, b ∈ X.fs) → X.s₀.heap.FunFrames X.base l → s.heap.FunFrames X.base l := by
    intro l
    induction l with
    | nil => intro _ _; trivial
    | cons env r ih =>
      intro hs hl
      obtain ⟨hk, ⟨L, o, hf, hn, ho, hd⟩, hr⟩ := hl
      have hL : L ∈ X.fs := hs L (by unfold frs; rw [List.filterMap_cons, hf]; exact List.mem_cons_self)
      obtain ⟨sl, e⟩ := I.base.slot L o ho (I.ok.frf L hL) hL fun z => I.ok.exfs L z hL
      exact ⟨hk, ⟨L, _, hf, hn, e, hd⟩, ih (fun b hb => hs b (by unfold frs; rw [List.filterMap_cons, hf]; exact List.mem_cons_of_mem _ hb)) hr⟩
  exact all X.outer (fun _ hb => hb) I.ok.funs

/-- the frames that run, for a call -/
theorem Inv.stack (I : Inv X pins σ H s) : s.heap.FunFrames X.base X.stack := by
  rcases I.ok.stk with e | ⟨e, hf⟩
  · rw [e]; exact I.funs
  · rw [e]
    obtain ⟨m, hn, _⟩ := I.loc
    refine .cons (by rw [I.ok.kind]; decide) hf hn ?_ I.funs
    exact Heap.get?_none_of_le (Nat.le_trans I.ok.bsz I.ok.above)
theorem Inv.stkSub (I : Inv X pins σ H s) : ∀ b ∈ frs X.stack, b ∈ X.env.locals :: X.fs := fun b hb => by
  rcases I.ok.stk with e | ⟨e, hf⟩
  · rw [e] at hb; exact List.mem_cons_of_mem _ hb
  · rw [e] at hb
    unfold frs at hb
    rw [List.filterMap_cons, hf] at hb
    exact hb
theorem Inv.stkFree (I : Inv X pins σ H s) : ∀ b ∈ frs X.stack, H b = none := fun b hb => by
  rcases List.mem_cons.mp (I.stkSub b hb) with e | hb
  · rw [e]; exact I.free
  · obtain ⟨_, o, ho, _⟩ := I.ok.funs.mem hb
    exact I.base.free b o ho (I.ok.frf b hb) fun z => I.ok.exfs b z hb

/-- THE STEP: the untracked objects but the frame and the records at ch are kept (the callers' frames up to slots), the frame's map is kept, the new abstract heap is held -/
theorem Inv.step {g' : Array GenState} {t' : Nat} {d' : Drawn} {ch : List Addr} (I : Inv X pins σ H s)
    (hch : ∀ b ∈ ch, (b ∈ X.ex ∨ X.s₀.heap.objs.size ≤ b) ∧ b ≠ X.env.locals ∧ (∀ x c, X.env.cells.lookup x = some c → c ≠ b) ∧ ∀ p ∈ X.pn ++ pins, p.1 ≠ b)
    (keep : ∀ b o, b ≠ X.env.locals → b ∉ X.fs → b ∉ ch → s.heap.get? b = some o → H b = none → h'.get? b = some o)
    (slot : ∀ b o, b ≠ X.env.locals → b ∈ X.fs → b ∉ ch → s.heap.get? b = some o → H b = none → ∃ sl, h'.get? b = some { o with slots := sl }) (free : ∀ b o, b ∉ ch → s.heap.get? b = some o → H b = none → H' b = none)
    (there : ∀ b o, b ∉ ch → s.heap.get? b = some o → ∃ o', h'.get? b = some o')
    (tups : ∀ b xs, H b = some (.tup xs) → H' b = some (.tup xs)) (frzs : ∀ b o u, H b = some (.frz o u) → H' b = some (.frz o u)) (tbls : ∀ b ps, H b = some (.tbl ps) → ∃ more, H' b = some (.tbl (ps ++ more)))
    (ns : ∀ m, s.heap.Ns X.env.locals m → h'.Ns X.env.locals m) (hok : HOk X.prog X.w H' h') (hg : AllBare g') :
    Inv X pins σ H' { s with heap := h', gens := g', drawn := d', toks := t' } := by
  have neL : ∀ b o, X.s₀.heap.get? b = some o → b ≠ X.env.locals := fun b o e => Nat.ne_of_lt (Nat.lt_of_lt_of_le (Heap.lt_size e) I.ok.above)
  have neC : ∀ b o, X.s₀.heap.get? b = some o → b ∉ X.ex → b ∉ ch := fun b o e hx hb => by
    rcases (hch b hb).1 with z | z
    · exact hx z
    · exact absurd (Nat.lt_of_lt_of_le (Heap.lt_size e) z) (Nat.lt_irrefl _)
  have cellK : ∀ x c, X.env.cells.lookup x = some c → ∀ v, s.heap.IsCell c v → h'.IsCell c v := fun x c e v ⟨o, ho, hd⟩ => by
    have nch : c ∉ ch := fun z => (hch c z).2.2.1 x c e rfl
    by_cases hc : c ∈ X.fs
    · obtain ⟨sl, q⟩ := slot c o (I.cne x c e) hc nch ho (I.freeC x c e)
      exact ⟨_, q, hd⟩
    · exact ⟨o, keep c o (I.cne x c e) hc nch ho (I.freeC x c e), hd⟩
  refine ⟨I.ok, I.os, hg, ⟨fun b o e n hb hx => ?_, fun b o e n hb hx => ?_, fun b o e n hx => ?_, fun b o e hx => ?_, fun b xs e => tups b xs (I.base.tups b xs e), fun b o xs e => frzs b o xs (I.base.frzs b o xs e), fun b ps e => ?_⟩, ?_, fun x c e => ?_, ?_, fun x c e => ?_, fun p hp => ?_, hok, I.len⟩
  · exact keep b o (neL b o e) hb (neC b o e hx) (I.base.keep b o e n hb hx) (I.base.free b o e n hx)
  · obtain ⟨sl, e1⟩ := I.base.slot b o e n hb hx
    obtain ⟨sl', e2⟩ := slot b _ (neL b o e) hb (neC b o e hx) e1 (I.base.free b o e n hx)
    exact ⟨sl', e2⟩
  · obtain ⟨o', e1⟩ := I.base.there b o e hx
    exact free b o' (neC b o e hx) e1 (I.base.free b o e n hx)
  · obtain ⟨o', e1⟩ := I.base.there b o e hx
    exact there b o' (neC b o e hx) e1
  · obtain ⟨m1, e1⟩ := I.base.tbls b ps e
    obtain ⟨m2, e2⟩ := tbls b _ e1
    exact ⟨m1 ++ m2, by rw [e2, Array.append_assoc]⟩
  · obtain ⟨m, hn, hl⟩ := I.loc
    refine ⟨m, ns m hn, fun i x v e1 e2 e3 => ?_⟩
    obtain ⟨u, r, l⟩ := hl i x v e1 e2 e3
    refine ⟨u, r, ?_⟩
    rcases l with l | ⟨k, c, e, z⟩
    · exact .inl l
    · exact .inr ⟨k, c, e, cellK x c e _ z⟩
  · obtain ⟨v, z⟩ := I.cell x c e
    exact ⟨v, cellK x c e v z⟩
  · obtain ⟨m, ⟨o, _, _, ho, _⟩, _⟩ := I.loc
    exact free _ o (fun z => (hch _ z).2.1 rfl) ho I.free
  · obtain ⟨v, o, ho, hd⟩ := I.cell x c e
    exact free c o (fun z => (hch c z).2.2.1 x c e rfl) ho (I.freeC x c e)
  · obtain ⟨e, n, ne, nf, d⟩ := I.pin p hp
    have nch : p.1 ∉ ch := fun z => (hch p.1 z).2.2.2 p hp rfl
    exact ⟨keep p.1 p.2 ne nf nch e n, free p.1 p.2 nch e n, ne, nf, d⟩
/-- .. where the frame's own object is kept too -/
theorem Inv.un {t' : Nat} (I : Inv X pins σ H s) (u : Un X.fs [] H H' s.heap h') (hok : HOk X.prog X.w H' h') : Inv X pins σ H' { s with heap := h', toks := t' } := by
  obtain ⟨m, ⟨o, es, ep, ho, r⟩, _⟩ := id I.loc
  obtain ⟨sl, hL⟩ := u.any ho I.free (by simp)
  exact I.step (g' := s.gens) (d' := s.drawn) (ch := []) (fun _ z => nomatch z) (fun b o _ hb _ e n => u.keep b o e n hb (by simp)) (fun b o _ hb _ e n => u.slot b o e n hb (by simp)) (fun b o _ e n => u.free b o e n (by simp)) (fun b o _ e => u.there b o e (by simp)) u.tups u.frzs u.tbls (fun m' hm => by
    obtain ⟨o', es', ep', ho', r'⟩ := hm
    rw [ho] at ho'; cases ho'
    exact ⟨_, es', ep', hL, r'⟩) hok I.bare
/-- behind a call (or a comprehension's block): the slots of this frame may have changed too, the records at ch may have turned -/
theorem Inv.call {g' : Array GenState} {t' : Nat} {d' : Drawn} {ch : List Addr} (I : Inv X pins σ H s) (u : Un (frs X.stack) ch H H' s.heap h') (hok : HOk X.prog X.w H' h') (hg : AllBare g')
    (hch : ∀ b ∈ ch, (b ∈ X.ex ∨ X.s₀.heap.objs.size ≤ b) ∧ b ≠ X.env.locals ∧ (∀ x c, X.env.cells.lookup x = some c → c ≠ b) ∧ ∀ p ∈ X.pn ++ pins, p.1 ≠ b) :
    Inv X pins σ H' { s with heap := h', gens := g', drawn := d', toks := t' } := by
  obtain ⟨m, ⟨o, es, ep, ho, r⟩, _⟩ := id I.loc
  obtain ⟨sl, hL⟩ := u.any ho I.free fun z => (hch _ z).2.1 rfl
  exact I.step (ch := ch) hch (fun b o hL hb hc e n => u.keep b o e n (fun z => (List.mem_cons.mp (I.stkSub b z)).elim hL hb) hc) (fun b o _ _ hc e n => u.any e n hc) (fun b o hc e n => u.free b o e n hc) (fun b o hc e => u.there b o e hc) u.tups u.frzs u.tbls (fun m' hm => by
    obtain ⟨o', es', ep', ho', r'⟩ := hm
    rw [ho] at ho'; cases ho'
    exact ⟨_, es', ep', hL, r'⟩) hok hg
/-- an untracked record of ours (an iterator) has turned -/
theorem Inv.turned {t' : Nat} {it : Addr} (I : Inv X pins σ H s) (k : ∀ b o, b ≠ it → s.heap.get? b = some o → h'.get? b = some o) (hn : H it = none) (hL : it ≠ X.env.locals)
    (h1 : it ∈ X.ex ∨ X.s₀.heap.objs.size ≤ it) (h2 : ∀ x c, X.env.cells.lookup x = some c → c ≠ it) (h3 : ∀ p ∈ X.pn ++ pins, p.1 ≠ it) : Inv X pins σ H { s with heap := h', toks := t' } := by
  have nit : ∀ b u, H b = some u → b ≠ it := fun b u e z => by rw [z, hn] at e; cases e
  refine I.step (g' := s.gens) (d' := s.drawn) (ch := [it]) (fun b hb => ?_) (fun b o _ _ hc e _ => k b o (fun z => hc (by simp [z])) e) (fun b o _ _ hc e _ => ⟨o.slots, k b o (fun z => hc (by simp [z])) e⟩) (fun _ _ _ _ n => n)
    (fun b o hc e => ⟨o, k b o (fun z => hc (by simp [z])) e⟩) (fun _ _ e => e) (fun _ _ _ e => e) (fun b ps e => ⟨#[], by rw [e]; simp⟩) (fun m hm => ?_) (fun b u e => ?_) I.bare
  · have e : b = it := by simpa using hb
    subst e
    exact ⟨h1, hL, h2, h3⟩
  · obtain ⟨o, es, ep, ho, r⟩ := hm
    exact ⟨o, es, ep, k _ o (Ne.symm hL) ho, r⟩
  · refine (I.hok b u e).stay (fun c v hc q => k c v ?_ q) (fun _ q => q) fun _ _ q => q
    rcases hc with z | z
    · rw [z]; exact nit b u e
    · exact nit c _ z
theorem Inv.tok (I : Inv X pins σ H s) (t : Nat) : Inv X pins σ H { s with toks := t } := I.un (h' := s.heap) (t' := t) Un.refl I.hok
/-- all objects kept -/
theorem Inv.kept {t' : Nat} (I : Inv X pins σ H s) (k : ∀ b u, s.heap.get? b = some u → h'.get? b = some u) : Inv X pins σ H { s with heap := h', toks := t' } := I.un (Un.kept k) (I.hok.kept k)
/-- a new object laid and tracked -/
theorem Inv.laid {a : Addr} {o : HO} {t' : Nat} (I : Inv X pins σ H s) (k : ∀ b u, s.heap.get? b = some u → h'.get? b = some u) (hp : s.heap.objs.size ≤ a) (new : ObjOk X.prog X.w (upd H a o) h' a o) :
    Inv X pins σ (upd H a o) { s with heap := h', toks := t' } := I.un (Un.laid k hp (I.hok.fresh hp)) (I.hok.laid k hp new)
/-- an object written -/
theorem Inv.write {x e : Addr} {o : HO} {t' : Nat} (I : Inv X pins σ H s) (mu : Mut (H x)) (he : e = x ∨ H e = some (.own x)) (k : ∀ b u, b ≠ e → s.heap.get? b = some u → h'.get? b = some u) (heo : ∃ u, h'.get? e = some u)
    (new : ObjOk X.prog X.w (upd H x o) h' x o) : Inv X pins σ (upd H x o) { s with heap := h', toks := t' } := I.un (Un.write mu he k heo) (I.hok.write mu he k heo new)
/-- forgetting slots, pins -/
theorem Inv.weak {σ' : List (Option V)} (I : Inv X pins σ H s) (hl : σ'.length = σ.length) (w : ∀ (i : Nat) v, σ'[i]? = some (some v) → σ[i]? = some (some v)) : Inv X pins σ' H s :=
  ⟨I.ok, I.os, I.bare, I.base, let ⟨m, hn, hl'⟩ := I.loc; ⟨m, hn, fun i x v e1 e2 e3 => hl' i x v e1 (w i v e2) e3⟩, I.cell, I.free, I.freeC, I.pin, I.hok, hl.trans I.len⟩
theorem Inv.pins_of {pins' : List (Addr × Obj)} (I : Inv X pins σ H s) (h : ∀ p ∈ pins', s.heap.get? p.1 = some p.2 ∧ H p.1 = none ∧ p.1 ≠ X.env.locals ∧ p.1 ∉ X.fs ∧ ∀ v, p.2.data ≠ .cell v) : Inv X pins' σ H s :=
  ⟨I.ok, I.os, I.bare, I.base, I.loc, I.cell, I.free, I.freeC, fun p hp => (List.mem_append.mp hp).elim (fun z => I.pin p (List.mem_append_left _ z)) (h p), I.hok, I.len⟩

theorem nodup_ix {N : List Str} (hN : N.Nodup) {i j : Nat} {x : Str} (a : N[i]? = some x) (b : N[j]? = some x) : i = j := by
  obtain ⟨h1, e1⟩ := List.getElem?_eq_some_iff.mp a
  obtain ⟨h2, e2⟩ := List.getElem?_eq_some_iff.mp b
  exact (List.getElem_inj hN).mp (e1.trans e2.symm)

/-- a name is stored; what changed -/
theorem store_ok2 {M : Model} {A : Around} {E : Value → Shared → Prop} {i : Nat} {x : Str} {v : V} {u : Value} {Q : Unit → Shared → Prop} (I : Inv X pins σ H s) (hN : X.N.Nodup) (hi : X.N[i]? = some x) (hx : Loc X.env.scope x) (r : RelV v u)
    (h : ∀ s', Inv X pins (σ.set i (some v)) H s' → (∃ a, Heap.SameBut a s.heap s'.heap ∧ (a = X.env.locals ∨ X.env.cells.lookup x = some a)) → Q () s') (hf : X.fn x = true ∨ X.env.scope.names.lookup x = some .local := by first | exact .inl rfl | exact .inr rfl | assumption) : wpAny M A (storeName X.env x u) Q E s := by
  obtain ⟨m, hn, hl⟩ := id I.loc
  have hcls : (X.env.scope.kind == .class || (X.env.scope.kind == .module && X.env.locals != X.env.globals)) = false := by rw [I.ok.kind]; rfl
  have hiσ : i < σ.length := by rw [I.len]; exact (List.getElem?_eq_some_iff.mp hi).1
  have cne := I.cne
  have tracked : ∀ {a : Addr} {h' : Heap}, (∃ o, s.heap.get? a = some o ∧ H a = none) → Heap.SameBut a s.heap h' → HOk X.prog X.w H h' := fun {a h'} ha hs b ob e => by
    obtain ⟨_, _, hfree⟩ := ha
    refine (I.hok b ob e).stay (fun c w' hc q => (hs.2 c ?_).trans q) (fun _ q => q) fun _ _ q => q
    rintro rfl
    rcases hc with rfl | hc
    · rw [hfree] at e; cases e
    · rw [hfree] at hc; cases hc
  rcases hx with hk | hk
  · refine wpAny_storeName_local hk hn (fun h' hn' hs => ?_) hcls
    obtain ⟨oL, _, _, hoL, _⟩ := id hn
    refine h _ ⟨I.ok, I.os, I.bare, ⟨fun b o e n hb hx => ?_, fun b o e n hb hx => ?_, I.base.free, fun b o e hx => ?_, I.base.tups, I.base.frzs, I.base.tbls⟩, ⟨_, hn', fun j y v' e1 e2 e3 => ?_⟩, fun y c e => ?_, I.free, I.freeC, fun p hp => ?_, tracked ⟨oL, hoL, I.free⟩ hs, by simpa using I.len⟩ ⟨_, hs, .inl rfl⟩
    · exact (hs.2 b (Nat.ne_of_lt (Nat.lt_of_lt_of_le (Heap.lt_size e) I.ok.above))).trans (I.base.keep b o e n hb hx)
    · obtain ⟨sl, e1⟩ := I.base.slot b o e n hb hx
      exact ⟨sl, (hs.2 b (Nat.ne_of_lt (Nat.lt_of_lt_of_le (Heap.lt_size e) I.ok.above))).trans e1⟩
    · obtain ⟨o', e1⟩ := I.base.there b o e hx
      exact ⟨o', (hs.2 b (Nat.ne_of_lt (Nat.lt_of_lt_of_le (Heap.lt_size e) I.ok.above))).trans e1⟩
    · by_cases hj : j = i
      · subst hj
        rw [hi] at e1; cases e1
        rw [List.getElem?_set_self hiσ] at e2
        cases e2
        exact ⟨u, r, .inl ⟨hk, by simp⟩⟩
      · rw [List.getElem?_set_ne (Ne.symm hj)] at e2
        obtain ⟨u', r', q⟩ := hl j y v' e1 e2 e3
        refine ⟨u', r', ?_⟩
        rcases q with ⟨k, e⟩ | ⟨k, c, e, z⟩
        · refine .inl ⟨k, ?_⟩
          have : y ≠ x := fun e => hj (nodup_ix hN e1 (e ▸ hi))
          simp [this, e]
        · exact .inr ⟨k, c, e, z.sameBut hs (cne y c e)⟩
    · obtain ⟨w', z⟩ := I.cell y c e
      exact ⟨w', z.sameBut hs (cne y c e)⟩
    · obtain ⟨e, n, ne, nf, d⟩ := I.pin p hp
      exact ⟨(hs.2 p.1 ne).trans e, n, ne, nf, d⟩
  · have hfn : X.fn x = true := by
      rcases hf with z | z
      · exact z
      · rw [z] at hk; cases hk
    obtain ⟨c, hc⟩ := I.ok.has x (.inl hk)
    obtain ⟨w', z⟩ := I.cell x c hc
    refine wpAny_storeName_cell I.ok.kind hk hc z (fun h' hc' hs => ?_)
    obtain ⟨oc, hoc, hocd⟩ := id z
    refine h { s with heap := h' } ⟨I.ok, I.os, I.bare, ⟨fun b o e n hb hx => ?_, fun b o e n hb hx => ?_, I.base.free, fun b o e hx => ?_, I.base.tups, I.base.frzs, I.base.tbls⟩, ⟨m, hn.sameBut hs (Ne.symm (cne x c hc)), fun j y v' e1 e2 e3 => ?_⟩, fun y c' e => ?_, I.free, I.freeC, fun p hp => ?_, tracked ⟨oc, hoc, I.freeC x c hc⟩ hs, by simpa using I.len⟩ ⟨c, hs, .inr hc⟩
    · exact (hs.2 b (Nat.ne_of_lt (Nat.lt_of_lt_of_le (Heap.lt_size e) (I.ok.cab x c hfn hc)))).trans (I.base.keep b o e n hb hx)
    · obtain ⟨sl, e1⟩ := I.base.slot b o e n hb hx
      exact ⟨sl, (hs.2 b (Nat.ne_of_lt (Nat.lt_of_lt_of_le (Heap.lt_size e) (I.ok.cab x c hfn hc)))).trans e1⟩
    · obtain ⟨o', e1⟩ := I.base.there b o e hx
      exact ⟨o', (hs.2 b (Nat.ne_of_lt (Nat.lt_of_lt_of_le (Heap.lt_size e) (I.ok.cab x c hfn hc)))).trans e1⟩
    · by_cases hj : j = i
      · subst hj
        rw [hi] at e1; cases e1
        rw [List.getElem?_set_self hiσ] at e2
        cases e2
        exact ⟨u, r, .inr ⟨.inl hk, c, hc, hc'⟩⟩
      · rw [List.getElem?_set_ne (Ne.symm hj)] at e2
        obtain ⟨u', r', q⟩ := hl j y v' e1 e2 e3
        refine ⟨u', r', ?_⟩
        rcases q with q | ⟨k, c', e, z'⟩
        · exact .inl q
        · refine .inr ⟨k, c', e, z'.sameBut hs ?_⟩
          rintro rfl
          exact hj (nodup_ix hN e1 (I.ok.inj _ _ _ e hc ▸ hi))
    · by_cases hcc : c' = c
      · subst hcc; exact ⟨_, hc'⟩
      · obtain ⟨w2, z2⟩ := I.cell y c' e
        exact ⟨w2, z2.sameBut hs hcc⟩
    · obtain ⟨e, n, ne, nf, d⟩ := I.pin p hp
      refine ⟨(hs.2 p.1 ?_).trans e, n, ne, nf, d⟩
      intro q
      rw [q, hoc] at e
      have q' : oc = p.2 := Option.some.inj e
      exact d w' (by rw [← q']; exact hocd)
theorem store_ok {M : Model} {A : Around} {E : Value → Shared → Prop} {i : Nat} {x : Str} {v : V} {u : Value} {Q : Unit → Shared → Prop} (I : Inv X pins σ H s) (hN : X.N.Nodup) (hi : X.N[i]? = some x) (hx : Loc X.env.scope x) (r : RelV v u)
    (h : ∀ s', Inv X pins (σ.set i (some v)) H s' → Q () s') (hf : X.fn x = true ∨ X.env.scope.names.lookup x = some .local := by first | exact .inl rfl | exact .inr rfl | assumption) : wpAny M A (storeName X.env x u) Q E s :=
  store_ok2 I hN hi hx r (fun s' I' _ => h s' I') hf
/-- behind a call or a block, the state as it is -/
theorem Inv.call' {s' : Shared} {ch : List Addr} (I : Inv X pins σ H s) (ho : s'.os = s.os) (u : Un (frs X.stack) ch H H' s.heap s'.heap) (hok : HOk X.prog X.w H' s'.heap) (hg : AllBare s'.gens)
    (hch : ∀ b ∈ ch, (b ∈ X.ex ∨ X.s₀.heap.objs.size ≤ b) ∧ b ≠ X.env.locals ∧ (∀ x c, X.env.cells.lookup x = some c → c ≠ b) ∧ ∀ p ∈ X.pn ++ pins, p.1 ≠ b) : Inv X pins σ H' s' := by
  obtain ⟨h', g', d', t', o'⟩ := s'
  have e : o' = s.os := ho
  subst e
  exact I.call (g' := g') (t' := t') (d' := d') u hok hg hch
end

/-! ### the judgements -/
/-- an exception: its class, its own dict's address (where it has one), the abstract heap behind it -/
abbrev XK := Value → Option Addr → Hp → Prop
abbrev St := List (Option V)
abbrev VK := V → Hp → Prop
/-- an expression's reading; a test's; an argument list's -/
abbrev TE := St → Hp → VK → Prop
abbrev TT := St → Hp → (Bool → Hp → Prop) → Prop
abbrev TA := St → Hp → (List V → Hp → Prop) → Prop
/-- what is wanted behind a statement -/
structure Ends where
  nx : St → Hp → Prop
  rt : VK
  bk : St → Hp → Prop := fun _ _ => False
  ct : St → Hp → Prop := fun _ _ => False
abbrev TS := Ends → St → Hp → Prop

def EP (X : Cx) (pins : List (Addr × Obj)) (σ : St) (Q : VK) (u : Value) (s' : Shared) : Prop := ∃ v H', Inv X pins σ H' s' ∧ RelV v u ∧ Q v H'
def TP (X : Cx) (pins : List (Addr × Obj)) (σ : St) (Q : Bool → Hp → Prop) (b : Bool) (s' : Shared) : Prop := ∃ H', Inv X pins σ H' s' ∧ Q b H'
def AP (X : Cx) (pins : List (Addr × Obj)) (σ : St) (Q : List V → Hp → Prop) (us : List Value) (s' : Shared) : Prop := ∃ vs H', Inv X pins σ H' s' ∧ Vals vs us ∧ Q vs H'
def SP (X : Cx) (pins : List (Addr × Obj)) (D : Ends) (f : Flow) (s' : Shared) : Prop :=
  match f with
  | .next => ∃ σ' H', Inv X pins σ' H' s' ∧ D.nx σ' H'
  | .brk => ∃ σ' H', Inv X pins σ' H' s' ∧ D.bk σ' H'
  | .cont => ∃ σ' H', Inv X pins σ' H' s' ∧ D.ct σ' H'
  | .ret u => ∃ v σ' H', Inv X pins σ' H' s' ∧ RelV v u ∧ D.rt v H'

def PE (X : Cx) (e : Expr) (t : TE) : Prop :=
  ∀ (pins : List (Addr × Obj)) (s : Shared) (σ : St) (H : Hp) (Q : VK), Inv X pins σ H s → t σ H Q → wpAny (model X.prog X.w) X.A (eval e X.env) (EP X pins σ Q) X.xe s
def PT (X : Cx) (e : Expr) (t : TT) : Prop :=
  ∀ (pins : List (Addr × Obj)) (s : Shared) (σ : St) (H : Hp) (Q : Bool → Hp → Prop), Inv X pins σ H s → t σ H Q → wpAny (model X.prog X.w) X.A (isTrue e X.env (eval e X.env)) (TP X pins σ Q) X.xe s
/-- a test whatever its 'whole' is (and, or) -/
def PW (X : Cx) (e : Expr) (t : TT) : Prop :=
  ∀ (whole : Sem Value) (pins : List (Addr × Obj)) (s : Shared) (σ : St) (H : Hp) (Q : Bool → Hp → Prop), Inv X pins σ H s → t σ H Q → wpAny (model X.prog X.w) X.A (isTrue e X.env whole) (TP X pins σ Q) X.xe s
theorem PW.pt {X : Cx} {e : Expr} {t : TT} (h : PW X e t) : PT X e t := h _
/-- an argument list (no star), from the left -/
def PA (X : Cx) (es : List Expr) (t : TA) : Prop :=
  ∀ (pos : Pos) (pins : List (Addr × Obj)) (s : Shared) (σ : St) (H : Hp) (Q : List V → Hp → Prop), Inv X pins σ H s → t σ H Q → wpAny (model X.prog X.w) X.A (spliced (backTo pos (starEach es X.env))) (AP X pins σ Q) X.xe s
def PS (X : Cx) (st : Stmt) (t : TS) : Prop :=
  ∀ (pins : List (Addr × Obj)) (s : Shared) (σ : St) (H : Hp) (D : Ends), Inv X pins σ H s → t D σ H → wpAny (model X.prog X.w) X.A (exec st X.env) (SP X pins D) X.xe s
def PSs (X : Cx) (st : List Stmt) (t : TS) : Prop :=
  ∀ (pins : List (Addr × Obj)) (s : Shared) (σ : St) (H : Hp) (D : Ends), Inv X pins σ H s → t D σ H → wpAny (model X.prog X.w) X.A (execs st X.env) (SP X pins D) X.xe s
/-- weaken the end -/
theorem thn {α : Type} {t : Sem α} {Q Q' : α → Shared → Prop} {M : Model} {A : Around} {E : Value → Shared → Prop} {s : Shared} (h : wpAny M A t Q E s) (hQ : ∀ a s, Q a s → Q' a s) : wpAny M A t Q' E s := wpAny_mono h hQ fun _ _ x => x
end L2

namespace L2
open PySem PySem.Spec PyProof.Rows
section
variable {X : Cx}

/-- two expressions in a row -/
theorem bin {a b : Expr} {ta tb : TE} (ha : PE X a ta) (hb : PE X b tb) {pins : List (Addr × Obj)} {s : Shared} {σ : St} {H : Hp} {R : V → V → Hp → Prop} (I : Inv X pins σ H s) (h : ta σ H fun x H1 => tb σ H1 fun y H2 => R x y H2)
    {α : Type} {Q : α → Shared → Prop} {f : Value → Value → Sem α}
    (hf : ∀ v u s2 x y H2, Inv X pins σ H2 s2 → RelV x v → RelV y u → R x y H2 → wpAny (model X.prog X.w) X.A (f v u) Q X.xe s2) :
    wpAny (model X.prog X.w) X.A (eval a X.env) (fun v s₁ => wpAny (model X.prog X.w) X.A (eval b X.env) (fun u s₂ => wpAny (model X.prog X.w) X.A (f v u) Q X.xe s₂) X.xe s₁) X.xe s := by
  refine thn (ha pins s σ H _ I h) fun v s1 ⟨x, H1, I1, r1, q1⟩ => ?_
  refine thn (hb pins s1 σ H1 _ I1 q1) fun u s2 ⟨y, H2, I2, r2, q2⟩ => ?_
  exact hf v u s2 x y H2 I2 r1 r2 q2

/-! ### names and constants -/
def tVar (i : Nat) : TE := fun σ H Q => ∃ v, σ[i]? = some (some v) ∧ Q v H
def tC (v : V) : TE := fun _ H Q => Q v H
theorem pe_var {i : Nat} {x : Str} {pos : Pos} (hN : X.N[i]? = some x) (hv : Vis X.env.scope x) (hd : (x == ("__debug__" : Str)) = false := by decide) (hcd : (x == ("__classdict__" : Str)) = false := by decide) : PE X (.Name x pos) (tVar i) := by
  intro pins s σ H Q I h
  obtain ⟨v, e, h⟩ := h
  obtain ⟨m, hn, hl⟩ := I.loc
  obtain ⟨u, r, l⟩ := hl i x v hN e hv
  have fin : EP X pins σ Q u s := ⟨v, H, I, r, h⟩
  rcases l with ⟨hk, hm⟩ | ⟨hk, c, hc, hcell⟩
  · exact wpAny_Name (wpAny_loadName_local I.ok.kind hk hn hm fin) hd
  · rcases hk with hk | hk
    · exact wpAny_Name (wpAny_loadName_cell I.ok.kind hk hc hcell fin) hd
    · exact wpAny_Name (wpAny_loadName_free I.ok.kind hk hc hcell fin hcd) hd
theorem pe_int {i j pos} : PE X (.Constant (.int i) j pos) (tC (.int i)) := fun _ _ _ H _ I h => wpAny_Constant_int ⟨.int i, H, I.tok _, ⟨_, rfl⟩, h⟩
theorem pe_bl {b j pos} : PE X (.Constant (.bool b) j pos) (tC (.bl b)) := fun _ _ _ H _ I h => Constant_bool ⟨.bl b, H, I, rfl, h⟩
theorem pe_non {j pos} : PE X (.Constant .none j pos) (tC .non) := fun _ _ _ H _ I h => Constant_none ⟨.non, H, I, rfl, h⟩
theorem pe_str {x j pos} : PE X (.Constant (.str x) j pos) (tC (.str x)) := fun _ _ _ H _ I h => Calls.Constant_str ⟨.str x, H, I.tok _, ⟨_, rfl⟩, h⟩

/-- a global name of the def -/
def Gl (X : Cx) (x : Str) : Prop := X.env.kindOf x = some .globalImplicit
theorem ld_glob {E : Value → Shared → Prop} {pins : List (Addr × Obj)} {s : Shared} {σ : St} {H : Hp} {x : Str} {u : Value} {pos : Pos} {Q : Value → Shared → Prop} (I : Inv X pins σ H s) (hg : Gl X x) (hm : X.mg x = some u) (h : Q u s)
    (hd : (x == ("__debug__" : Str)) = false := by decide) : wpAny (model X.prog X.w) X.A (eval (.Name x pos) X.env) Q E s :=
  Calls.Name_function_global I.ok.kind hg (Calls.loadGlobal_global (by rw [I.ok.glob]; exact I.mod.glob.keeps I.bk) hm h) hd
theorem ld_blt {E : Value → Shared → Prop} {pins : List (Addr × Obj)} {s : Shared} {σ : St} {H : Hp} {x : Str} {u : Value} {pos : Pos} {Q : Value → Shared → Prop} (I : Inv X pins σ H s) (hg : Gl X x) (hm : X.mg x = none) (hv : bootBuiltins x = some u) (h : Q u s)
    (hn : x ≠ "__name__" := by decide) (hd : (x == ("__debug__" : Str)) = false := by decide) : wpAny (model X.prog X.w) X.A (eval (.Name x pos) X.env) Q E s := by
  obtain ⟨mb, h1, h2⟩ := I.mod.blt
  exact Calls.Name_function_global I.ok.kind hg (Calls.loadGlobal_builtin (by rw [I.ok.glob]; exact I.mod.glob.keeps I.bk) hm (by rw [I.ok.blt]; exact h1.keeps I.bk) ((h2 x hn).trans hv) h) hd
/-- a module's constant, a class, a function, as a value -/
theorem pe_glob {x : Str} {v : V} {u : Value} {pos : Pos} (hg : Gl X x) (hm : X.mg x = some u) (r : RelV v u) (hd : (x == ("__debug__" : Str)) = false := by decide) : PE X (.Name x pos) (tC v) :=
  fun _ _ _ H _ I h => ld_glob I hg hm ⟨v, H, I, r, h⟩ hd
theorem pe_bltn {x : Str} {v : V} {u : Value} {pos : Pos} (hg : Gl X x) (hm : X.mg x = none) (hv : bootBuiltins x = some u) (r : RelV v u) (hn : x ≠ "__name__" := by decide) (hd : (x == ("__debug__" : Str)) = false := by decide) : PE X (.Name x pos) (tC v) :=
  fun _ _ _ H _ I h => ld_blt I hg hm hv ⟨v, H, I, r, h⟩ hn hd

/-! ### arithmetic -/
/-- two ints -/
def t2I (ta tb : TE) (k : Int → Int → Hp → Prop) : St → Hp → Prop := fun σ H => ta σ H fun x H1 => tb σ H1 fun y H2 => ∃ i j, x = .int i ∧ y = .int j ∧ k i j H2
def tAdd (ta tb : TE) : TE := fun σ H Q => t2I ta tb (fun i j H2 => Q (.int (i + j)) H2) σ H
def tSub (ta tb : TE) : TE := fun σ H Q => t2I ta tb (fun i j H2 => Q (.int (i - j)) H2) σ H
/-- the left factor below 2^64 -/
def tMul (ta tb : TE) : TE := fun σ H Q => t2I ta tb (fun i j H2 => (-(2 ^ 64) < i ∧ i < 2 ^ 64) ∧ Q (.int (i * j)) H2) σ H
variable {a b : Expr} {ta tb : TE} {pos : Pos}
theorem pe_add (ha : PE X a ta) (hb : PE X b tb) : PE X (.BinOp a .Add b pos) (tAdd ta tb) := by
  intro pins s σ H Q I h
  refine wpAny_BinOp (bin ha hb I h fun v u s2 x y H2 I2 rx ry q => ?_)
  obtain ⟨i, j, rfl, rfl, q⟩ := q
  obtain ⟨t, rfl⟩ := rx
  obtain ⟨t', rfl⟩ := ry
  exact add_int ⟨.int _, H2, I2.tok _, ⟨_, rfl⟩, q⟩
theorem pe_sub (ha : PE X a ta) (hb : PE X b tb) : PE X (.BinOp a .Sub b pos) (tSub ta tb) := by
  intro pins s σ H Q I h
  refine wpAny_BinOp (bin ha hb I h fun v u s2 x y H2 I2 rx ry q => ?_)
  obtain ⟨i, j, rfl, rfl, q⟩ := q
  obtain ⟨t, rfl⟩ := rx
  obtain ⟨t', rfl⟩ := ry
  exact sub_int ⟨.int _, H2, I2.tok _, ⟨_, rfl⟩, q⟩
theorem pe_mul (ha : PE X a ta) (hb : PE X b tb) : PE X (.BinOp a .Mult b pos) (tMul ta tb) := by
  intro pins s σ H Q I h
  refine wpAny_BinOp (bin ha hb I h fun v u s2 x y H2 I2 rx ry q => ?_)
  obtain ⟨i, j, rfl, rfl, ⟨q1, q2⟩, q⟩ := q
  obtain ⟨t, rfl⟩ := rx
  obtain ⟨t', rfl⟩ := ry
  exact mul_int ⟨.int _, H2, I2.tok _, ⟨_, rfl⟩, q⟩ (.of_left (intBits_le_64 q1 q2))

/-! ### comparisons -/
def PC (X : Cx) (op : CmpOp) (a b : Expr) (t : TE) : Prop :=
  ∀ (pins : List (Addr × Obj)) (s : Shared) (σ : St) (H : Hp) (Q : VK), Inv X pins σ H s → t σ H Q →
    wpAny (model X.prog X.w) X.A (eval a X.env) (fun v s₁ => wpAny (model X.prog X.w) X.A (eval b X.env) (fun u s₂ => wpAny (model X.prog X.w) X.A (compareOp op v u) (EP X pins σ Q) X.xe s₂) X.xe s₁) X.xe s
theorem nobehind (b : Expr) {op : CmpOp} (h : op ≠ .In) (h2 : op ≠ .NotIn) : behindInMarks op b = false := by
  have e1 : (op == CmpOp.In) = false := by cases op <;> first | rfl | exact absurd rfl h
  have e2 : (op == CmpOp.NotIn) = false := by cases op <;> first | rfl | exact absurd rfl h2
  cases b <;> simp [behindInMarks, e1, e2]
def tCmp (p : Int → Int → Bool) (ta tb : TE) : TE := fun σ H Q => t2I ta tb (fun i j H2 => Q (.bl (p i j)) H2) σ H
abbrev tLt : TE → TE → TE := tCmp fun i j => decide (i < j)
abbrev tLe : TE → TE → TE := tCmp fun i j => decide (i ≤ j)
abbrev tGt : TE → TE → TE := tCmp fun i j => decide (j < i)
abbrev tGe : TE → TE → TE := tCmp fun i j => decide (j ≤ i)
abbrev tEqI : TE → TE → TE := tCmp fun i j => decide (i = j)
abbrev tNeI : TE → TE → TE := tCmp fun i j => !decide (i = j)
/-- a comparison of two ints, by its rule -/
theorem pc_int {op : CmpOp} {p : Int → Int → Bool} (ha : PE X a ta) (hb : PE X b tb)
    (rule : ∀ (i j : Int) (t u : Tok) (Q : Value → Shared → Prop) (s : Shared), Q (.bool (p i j)) s → wpAny (model X.prog X.w) X.A (compareOp op (.int i t) (.int j u)) Q X.xe s) : PC X op a b (tCmp p ta tb) := by
  intro pins s σ H Q I h
  refine bin ha hb I h fun v u s2 x y H2 I2 rx ry q => ?_
  obtain ⟨i, j, rfl, rfl, q⟩ := q
  obtain ⟨t, rfl⟩ := rx
  obtain ⟨t', rfl⟩ := ry
  exact rule i j t t' _ s2 ⟨.bl _, H2, I2, rfl, q⟩
theorem pc_lt (ha : PE X a ta) (hb : PE X b tb) : PC X .Lt a b (tLt ta tb) := pc_int ha hb fun _ _ _ _ _ _ h => lt_int h
theorem pc_le (ha : PE X a ta) (hb : PE X b tb) : PC X .LtE a b (tLe ta tb) := pc_int ha hb fun _ _ _ _ _ _ h => le_int h
theorem pc_gt (ha : PE X a ta) (hb : PE X b tb) : PC X .Gt a b (tGt ta tb) := pc_int ha hb fun _ _ _ _ _ _ h => gt_int h
theorem pc_ge (ha : PE X a ta) (hb : PE X b tb) : PC X .GtE a b (tGe ta tb) := pc_int ha hb fun _ _ _ _ _ _ h => ge_int h
theorem pc_eqI (ha : PE X a ta) (hb : PE X b tb) : PC X .Eq a b (tEqI ta tb) := pc_int ha hb fun _ _ _ _ _ _ h => eq_int (by rw [Bool.beq_eq_decide_eq]; exact h)
theorem pc_neI (ha : PE X a ta) (hb : PE X b tb) : PC X .NotEq a b (tNeI ta tb) := pc_int ha hb fun _ _ _ _ _ _ h => ne_int (by rw [bne, Bool.beq_eq_decide_eq]; exact h)
/-- is None -/
def tIsN (ta : TE) : TE := fun σ H Q => ta σ H fun x H1 => Q (.bl (decide (x = .non))) H1
def tNotN (ta : TE) : TE := fun σ H Q => ta σ H fun x H1 => Q (.bl (!decide (x = .non))) H1
theorem RelV.none_iff {x : V} {v : Value} (r : RelV x v) : (v == Value.none) = decide (x = .non) := by
  cases x with
  | non => cases r; rfl
  | bl _ => cases r; rfl
  | int _ => obtain ⟨t, rfl⟩ := r; rfl
  | str _ => obtain ⟨t, rfl⟩ := r; rfl
  | byt _ => obtain ⟨t, rfl⟩ := r; rfl
  | flt _ => obtain ⟨t, rfl⟩ := r; rfl
  | ref _ => cases r; rfl
  | ty _ => cases r; rfl
theorem pc_isN {j pos'} (ha : PE X a ta) : PC X .Is a (.Constant .none j pos') (tIsN ta) := by
  intro pins s σ H Q I h
  refine thn (ha pins s σ H _ I h) fun v s1 ⟨x, H1, I1, r1, q1⟩ => ?_
  exact Constant_none (is_none_gen ⟨.bl _, H1, I1, by rw [r1.none_iff]; rfl, q1⟩)
theorem pc_notN {j pos'} (ha : PE X a ta) : PC X .IsNot a (.Constant .none j pos') (tNotN ta) := by
  intro pins s σ H Q I h
  refine thn (ha pins s σ H _ I h) fun v s1 ⟨x, H1, I1, r1, q1⟩ => ?_
  exact Constant_none (isnot_none_gen ⟨.bl _, H1, I1, by rw [r1.none_iff]; rfl, q1⟩)
/-- a comparison as a value, as a test -/
def tB (t : TE) : TT := fun σ H Q => t σ H fun x H1 => ∃ c, x = .bl c ∧ Q c H1
theorem pe_cmp {op : CmpOp} {t : TE} (h : PC X op a b t) (h1 : behindInMarks op b = false := by first | exact nobehind _ (by decide) (by decide) | rfl) : PE X (.Compare a [op] [b] pos) t := fun pins s σ H Q I hw => wpAny_Compare1 (h pins s σ H Q I hw) h1
theorem pt_cmp {op : CmpOp} {t : TE} (h : PC X op a b t) (h1 : behindInMarks op b = false := by first | exact nobehind _ (by decide) (by decide) | rfl) : PT X (.Compare a [op] [b] pos) (tB t) := by
  intro pins s σ H Q I hw
  refine wpAny_isTrue_Compare1 (thn (h pins s σ H _ I hw) fun v s1 h1 => thn h1 fun u s2 h2 => thn h2 fun c s3 ⟨x, H1, I1, r1, q1⟩ => ?_) h1
  obtain ⟨d, rfl, q⟩ := q1
  cases r1
  exact wpAny_truthy_bool ⟨H1, I1, q⟩
/-- an expression whose value is a bool, as a test -/
theorem pt_val {e : Expr} {t : TE} (h : PE X e t) (he : ∀ whole, isTrue e X.env whole = (do let v ← whole; standAt e.pos; holding [v] (truthy v)) := by intro _; rfl) : PT X e (tB t) := by
  intro pins s σ H Q I hw
  refine isTrue_plain (thn (h pins s σ H _ I hw) fun v s1 ⟨x, H1, I1, r1, q1⟩ => ?_) (he _)
  obtain ⟨d, rfl, q⟩ := q1
  cases r1
  exact wpAny_truthy_bool ⟨H1, I1, q⟩

/-! ### and, or, not -/
variable {tA tB' : TT} {rest : List Expr}
def tAnd (t u : TT) : TT := fun σ H Q => t σ H fun c H1 => if c = true then u σ H1 Q else Q false H1
def tOr (t u : TT) : TT := fun σ H Q => t σ H fun c H1 => if c = true then Q true H1 else u σ H1 Q
def tNot (t : TT) : TT := fun σ H Q => t σ H fun c H1 => Q (!c) H1
theorem pw_and1 (ha : PT X a tA) : PW X (.BoolOp .And [a] pos) tA := by
  intro wh pins s σ H Q I h
  refine isTrue_and (thn (ha pins s σ H Q I h) fun c s1 e => ?_)
  cases c with
  | true => exact isTrue_and_nil e
  | false => exact e
theorem pw_or1 (ha : PT X a tA) : PW X (.BoolOp .Or [a] pos) tA := by
  intro wh pins s σ H Q I h
  refine isTrue_or (thn (ha pins s σ H Q I h) fun c s1 e => ?_)
  cases c with
  | false => exact isTrue_or_nil e
  | true => exact e
theorem pw_and (ha : PT X a tA) (hb : PW X (.BoolOp .And (b :: rest) pos) tB') : PW X (.BoolOp .And (a :: b :: rest) pos) (tAnd tA tB') := by
  intro wh pins s σ H Q I h
  refine isTrue_and (thn (ha pins s σ H _ I h) fun c s1 ⟨H1, I1, q1⟩ => ?_)
  cases c with
  | true => exact hb wh pins s1 σ H1 Q I1 q1
  | false => exact ⟨H1, I1, q1⟩
theorem pw_or (ha : PT X a tA) (hb : PW X (.BoolOp .Or (b :: rest) pos) tB') : PW X (.BoolOp .Or (a :: b :: rest) pos) (tOr tA tB') := by
  intro wh pins s σ H Q I h
  refine isTrue_or (thn (ha pins s σ H _ I h) fun c s1 ⟨H1, I1, q1⟩ => ?_)
  cases c with
  | true => exact ⟨H1, I1, q1⟩
  | false => exact hb wh pins s1 σ H1 Q I1 q1
theorem pt_not (ha : PT X a tA) : PT X (.UnaryOp .Not a pos) (tNot tA) := by
  intro pins s σ H Q I h
  exact isTrue_not (ha pins s σ H (fun c H1 => Q (!c) H1) I h)
/-- .. as values (bools) -/
def tAndV (ta tb : TE) : TE := fun σ H Q => ta σ H fun x H1 => ∃ c, x = .bl c ∧ if c = true then tb σ H1 Q else Q (.bl false) H1
def tOrV (ta tb : TE) : TE := fun σ H Q => ta σ H fun x H1 => ∃ c, x = .bl c ∧ if c = true then Q (.bl true) H1 else tb σ H1 Q
def tNotV (ta : TE) : TE := fun σ H Q => ta σ H fun x H1 => ∃ c, x = .bl c ∧ Q (.bl (!c)) H1
theorem pe_one {op} {t : TE} (h : PE X a t) : PE X (.BoolOp op [a] pos) t := fun pins s σ H Q I hw => BoolOp_one (h pins s σ H Q I hw)
theorem pe_and (ha : PE X a ta) (hb : PE X (.BoolOp .And (b :: rest) pos) tb) : PE X (.BoolOp .And (a :: b :: rest) pos) (tAndV ta tb) := by
  intro pins s σ H Q I h
  refine BoolOp_and (thn (ha pins s σ H _ I h) fun v s1 ⟨x, H1, I1, r1, q1⟩ => ?_)
  obtain ⟨c, rfl, q1⟩ := q1
  cases r1
  refine wpAny_truthy_bool ?_
  cases c with
  | true => exact hb pins s1 σ H1 Q I1 q1
  | false => exact ⟨.bl false, H1, I1, rfl, q1⟩
theorem pe_or (ha : PE X a ta) (hb : PE X (.BoolOp .Or (b :: rest) pos) tb) : PE X (.BoolOp .Or (a :: b :: rest) pos) (tOrV ta tb) := by
  intro pins s σ H Q I h
  refine BoolOp_or (thn (ha pins s σ H _ I h) fun v s1 ⟨x, H1, I1, r1, q1⟩ => ?_)
  obtain ⟨c, rfl, q1⟩ := q1
  cases r1
  refine wpAny_truthy_bool ?_
  cases c with
  | false => exact hb pins s1 σ H1 Q I1 q1
  | true => exact ⟨.bl true, H1, I1, rfl, q1⟩
theorem pe_not (ha : PE X a ta) : PE X (.UnaryOp .Not a pos) (tNotV ta) := by
  intro pins s σ H Q I h
  refine UnaryOp_ (thn (ha pins s σ H _ I h) fun v s1 ⟨x, H1, I1, r1, q1⟩ => ?_)
  obtain ⟨c, rfl, q1⟩ := q1
  cases r1
  exact not_of (wpAny_truthy_bool ⟨.bl (!c), H1, I1, rfl, q1⟩)
/-- a if t else b -/
def tIf (t : TT) (ta tb : TE) : TE := fun σ H Q => t σ H fun c H1 => if c = true then ta σ H1 Q else tb σ H1 Q
theorem pe_ifExp {c : Expr} (hc : PT X c tA) (ha : PE X a ta) (hb : PE X b tb) : PE X (.IfExp c a b pos) (tIf tA ta tb) := by
  intro pins s σ H Q I h
  refine wpAny_IfExp (thn (hc pins s σ H _ I h) fun d s1 ⟨H1, I1, q1⟩ => ?_)
  cases d with
  | true => exact ha pins s1 σ H1 Q I1 q1
  | false => exact hb pins s1 σ H1 Q I1 q1
end
end L2

namespace L2
open PySem PySem.Spec PyProof.Rows

/-! ### a list, a tuple that is read: tracked, frozen, or an object of the module -/
def SqL (K : PySem.W.Frag) (H : Hp) (a : Addr) (xs : List V) : Prop :=
  Rd H a (.lst xs) ∨
    ∃ (o : Obj) (its : Array Value) (n : Nat), K.lookup a = some o ∧ o.cls = .type "list" ∧ o.dict = none ∧ o.data = .seq its n ∧ its.size ≤ sizeLine ∧ Vals xs its.toList
def SqT (K : PySem.W.Frag) (H : Hp) (a : Addr) (xs : List V) : Prop :=
  Rd H a (.tup xs) ∨
    ∃ (o : Obj) (its : Array Value) (n : Nat), K.lookup a = some o ∧ o.cls = .type "tuple" ∧ o.data = .seq its n ∧ its.size ≤ sizeLine ∧ Vals xs its.toList
def absV : Value → Option V
  | .none => some .non
  | .bool b => some (.bl b)
  | .int i _ => some (.int i)
  | .str x _ => some (.str x)
  | .bytes b _ => some (.byt b)
  | .float b _ => some (.flt b)
  | .ref a => some (.ref a)
  | .type n => some (.ty n)
  | _ => none
theorem RelV.abs {x : V} {u : Value} (r : RelV x u) : absV u = some x := by
  cases x with
  | non => cases r; rfl
  | bl _ => cases r; rfl
  | int _ => obtain ⟨t, rfl⟩ := r; rfl
  | str _ => obtain ⟨t, rfl⟩ := r; rfl
  | byt _ => obtain ⟨t, rfl⟩ := r; rfl
  | flt _ => obtain ⟨t, rfl⟩ := r; rfl
  | ref _ => cases r; rfl
  | ty _ => cases r; rfl
theorem RelV.inj {x y : V} {u : Value} (r : RelV x u) (q : RelV y u) : x = y := Option.some.inj (r.abs.symm.trans q.abs)
theorem Vals.inj : ∀ {xs ys : List V} {us : List Value}, Vals xs us → Vals ys us → xs = ys
  | _, _, _, .nil, .nil => rfl
  | _, _, _, .cons r t, .cons r' t' => by rw [r.inj r', Vals.inj t t']
section
variable {X : Cx} {pins : List (Addr × Obj)} {σ : St} {H : Hp} {s : Shared} {a : Addr} {xs ys : List V}
theorem SqL.of {K : PySem.W.Frag} (h : H a = some (.lst xs)) : SqL K H a xs := .inl (.inl h)
theorem SqT.of {K : PySem.W.Frag} (h : H a = some (.tup xs)) : SqT K H a xs := .inl (.inl h)
theorem Inv.list (I : Inv X pins σ H s) (h : SqL X.K H a xs) : ∃ its : List Value, Vals xs its ∧ PlainL s.heap a its.toArray ∧ xs.length ≤ sizeLine := by
  rcases h with h | ⟨o, its, n, hk, hc, hd, hs, hz, r⟩
  · obtain ⟨z, its, n, r, e⟩ := h.ok I.hok
    exact ⟨its, r, ⟨_, n, e, rfl, rfl, rfl⟩, z⟩
  · refine ⟨its.toList, r, ⟨o, n, I.kIn a o hk, hc, hd, by simpa using hs⟩, ?_⟩
    have e := r.length
    simp only [Array.length_toList] at e
    omega
theorem Inv.tuple (I : Inv X pins σ H s) (h : SqT X.K H a xs) : ∃ its : List Value, Vals xs its ∧ IsTup s.heap a its.toArray ∧ xs.length ≤ sizeLine := by
  rcases h with h | ⟨o, its, n, hk, hc, hs, hz, r⟩
  · obtain ⟨z, its, r, p⟩ := h.ok I.hok
    exact ⟨its, r, p, z⟩
  · refine ⟨its.toList, r, ⟨o, I.kIn a o hk, hc, n, by simpa using hs⟩, ?_⟩
    have e := r.length
    simp only [Array.length_toList] at e
    omega
theorem Inv.list_inj (I : Inv X pins σ H s) (h : SqL X.K H a xs) (h' : SqL X.K H a ys) : xs = ys := by
  obtain ⟨its, r, ⟨o, n, e, _, _, d⟩, _⟩ := I.list h
  obtain ⟨its', r', ⟨o', n', e', _, _, d'⟩, _⟩ := I.list h'
  rw [e] at e'; cases e'
  rw [d] at d'
  injection d' with d1 _
  have : its = its' := by simpa using congrArg Array.toList d1
  subst this
  exact r.inj r'
theorem Inv.tuple_inj (I : Inv X pins σ H s) (h : SqT X.K H a xs) (h' : SqT X.K H a ys) : xs = ys := by
  obtain ⟨its, r, ⟨o, e, _, n, d⟩, _⟩ := I.tuple h
  obtain ⟨its', r', ⟨o', e', _, n', d'⟩, _⟩ := I.tuple h'
  rw [e] at e'; cases e'
  rw [d] at d'
  injection d' with d1 _
  have : its = its' := by simpa using congrArg Array.toList d1
  subst this
  exact r.inj r'
end

/-! ### another wish about exceptions -/
abbrev Cx.wish (X : Cx) (E : Value → Shared → Prop) : Cx := { X with xe := E }
/-- no exception leaves -/
abbrev Cx.nox (X : Cx) : Cx := X.wish fun _ _ => False
theorem Cx.Ok.wish {X : Cx} (ok : X.Ok) (E : Value → Shared → Prop) : (X.wish E).Ok :=
  ⟨ok.mod, ok.kind, ok.glob, ok.blt, ok.above, ok.inj, ok.has, ok.cab, ok.hd, ok.frames, ok.stk, ok.exf, ok.bs, ok.bsz, ok.noex, ok.exfs, ok.funs, ok.frf⟩
theorem Cx.Ok.unwish {X : Cx} {E : Value → Shared → Prop} (ok : (X.wish E).Ok) : X.Ok :=
  ⟨ok.mod, ok.kind, ok.glob, ok.blt, ok.above, ok.inj, ok.has, ok.cab, ok.hd, ok.frames, ok.stk, ok.exf, ok.bs, ok.bsz, ok.noex, ok.exfs, ok.funs, ok.frf⟩
section
variable {X : Cx} {pins : List (Addr × Obj)} {σ : St} {H : Hp} {s : Shared} {E : Value → Shared → Prop}
theorem Inv.wish (I : Inv X pins σ H s) (E : Value → Shared → Prop) : Inv (X.wish E) pins σ H s := ⟨I.ok.wish E, I.os, I.bare, I.base, I.loc, I.cell, I.free, I.freeC, I.pin, I.hok, I.len⟩
theorem Inv.unwish (I : Inv (X.wish E) pins σ H s) : Inv X pins σ H s := ⟨I.ok.unwish, I.os, I.bare, I.base, I.loc, I.cell, I.free, I.freeC, I.pin, I.hok, I.len⟩
theorem SP.unwish {D : Ends} {f : Flow} {s' : Shared} (h : SP (X.wish E) pins D f s') : SP X pins D f s' := by
  cases f with
  | next => obtain ⟨σ', H', I, q⟩ := h; exact ⟨σ', H', I.unwish, q⟩
  | brk => obtain ⟨σ', H', I, q⟩ := h; exact ⟨σ', H', I.unwish, q⟩
  | cont => obtain ⟨σ', H', I, q⟩ := h; exact ⟨σ', H', I.unwish, q⟩
  | ret u => obtain ⟨v, σ', H', I, r, q⟩ := h; exact ⟨v, σ', H', I.unwish, r, q⟩
theorem PE.nox {e : Expr} {t : TE} (h : PE X.nox e t) : PE X e t := fun pins s σ H Q I hw =>
  wpAny_mono (h pins s σ H Q (I.wish _) hw) (fun _ _ ⟨v, H', I', r, q⟩ => ⟨v, H', I'.unwish, r, q⟩) fun _ _ z => False.elim z
theorem PT.nox {e : Expr} {t : TT} (h : PT X.nox e t) : PT X e t := fun pins s σ H Q I hw =>
  wpAny_mono (h pins s σ H Q (I.wish _) hw) (fun _ _ ⟨H', I', q⟩ => ⟨H', I'.unwish, q⟩) fun _ _ z => False.elim z
theorem PSs.nox {st : List Stmt} {t : TS} (h : PSs X.nox st t) : PSs X st t := fun pins s σ H D I hw =>
  wpAny_mono (h pins s σ H D (I.wish _) hw) (fun _ _ q => q.unwish) fun _ _ z => False.elim z
end

/-! ### blocks and small statements -/
section
variable {X : Cx} {st : Stmt} {rest : List Stmt} {t u : TS} {e : Expr} {te : TE} {pos : Pos}
def tNext : TS := fun D σ H => D.nx σ H
def tSeq (t u : TS) : TS := fun D σ H => t { D with nx := u D } σ H
theorem pss_nil : PSs X [] tNext := fun _ _ σ H _ I h => wpAny_execs_nil ⟨σ, H, I, h⟩
theorem pss_cons (h1 : PS X st t) (h2 : PSs X rest u) : PSs X (st :: rest) (tSeq t u) := by
  intro pins s σ H D I h
  refine wpAny_execs_cons (thn (h1 pins s σ H { D with nx := u D } I h) fun f s1 q => ?_)
  cases f with
  | next =>
    obtain ⟨σ', H', I', q⟩ := q
    exact h2 pins s1 σ' H' D I' q
  | ret v => exact q
  | brk => exact q
  | cont => exact q
theorem pss_one (h1 : PS X st t) : PSs X [st] t := by
  intro pins s σ H D I h
  refine wpAny_execs_cons (thn (h1 pins s σ H D I h) fun f s1 q => ?_)
  cases f with
  | next => exact wpAny_execs_nil q
  | ret v => exact q
  | brk => exact q
  | cont => exact q
def tBreak : TS := fun D σ H => D.bk σ H
def tCont : TS := fun D σ H => D.ct σ H
theorem ps_pass : PS X (.Pass pos) tNext := fun _ _ σ H _ I h => wpAny_Pass ⟨σ, H, I, h⟩
theorem ps_break : PS X (.Break pos) tBreak := fun _ _ σ H _ I h => wpAny_Break ⟨σ, H, I, h⟩
theorem ps_continue : PS X (.Continue pos) tCont := fun _ _ σ H _ I h => wpAny_Continue ⟨σ, H, I, h⟩
/-- in a def's body nothing is shown -/
theorem Inv.quiet {pins : List (Addr × Obj)} {σ : St} {H : Hp} {s : Shared} (I : Inv X pins σ H s) : interactive X.env = false := by simp [interactive, I.ok.kind]
/-- a docstring -/
theorem ps_doc {x j pos pos'} : PS X (.Expr (.Constant (.str x) j pos) pos') tNext := fun _ s σ H _ I h => wpAny_Expr (Calls.Constant_str (show SP X _ _ .next { s with toks := s.toks + 1 } from ⟨σ, H, I.tok _, h⟩)) I.quiet
/-- an expression whose value is dropped -/
def tDrop (te : TE) : TS := fun D σ H => te σ H fun _ H1 => D.nx σ H1
theorem ps_expr (he : PE X e te) (hs : swapsWith e none pos.line X.env = pure false := by rfl) : PS X (.Expr e pos) (tDrop te) := by
  intro pins s σ H D I h
  exact wpAny_Expr_any (thn (he pins s σ H _ I h) fun v s1 ⟨x, H1, I1, r1, q1⟩ => ⟨σ, H1, I1, q1⟩) I.quiet hs
def tRet (te : TE) : TS := fun D σ H => te σ H D.rt
theorem ps_ret (he : PE X e te) : PS X (.Return (some e) pos) (tRet te) := by
  intro pins s σ H D I h
  exact wpAny_Return_some (thn (he pins s σ H _ I h) fun v s1 ⟨x, H1, I1, r1, q1⟩ => ⟨x, σ, H1, I1, r1, q1⟩)
def tRetN : TS := fun D _ H => D.rt .non H
theorem ps_retN : PS X (.Return none pos) tRetN := fun _ _ σ H _ I h => wpAny_Return_none ⟨.non, σ, H, I, rfl, h⟩
def tIfS (c : TT) (t u : TS) : TS := fun D σ H => c σ H fun b H1 => if b = true then t D σ H1 else u D σ H1
theorem ps_if {c : Expr} {a b : List Stmt} {tc : TT} (hc : PT X c tc) (ha : PSs X a t) (hb : PSs X b u) : PS X (.If c a b pos) (tIfS tc t u) := by
  intro pins s σ H D I h
  refine wpAny_If (thn (hc pins s σ H _ I h) fun d s1 ⟨H1, I1, q1⟩ => ?_)
  cases d with
  | true => exact ha pins s1 σ H1 D I1 q1
  | false => exact hb pins s1 σ H1 D I1 q1
/-- code that the proof never comes to -/
def tNever : TS := fun _ _ _ => False
theorem ps_never : PS X st tNever := fun _ _ _ _ _ _ h => h.elim
theorem pss_never {sts : List Stmt} : PSs X sts tNever := fun _ _ _ _ _ _ h => h.elim
end

/-! ### targets -/
abbrev TG := V → St → Hp → (St → Hp → Prop) → Prop
abbrev TGs := List V → St → Hp → (St → Hp → Prop) → Prop
def PG (X : Cx) (target : Expr) (t : TG) : Prop :=
  ∀ (pins : List (Addr × Obj)) (s : Shared) (σ : St) (H : Hp) (v : V) (u : Value) (Q : St → Hp → Prop), Inv X pins σ H s → RelV v u → t v σ H Q →
    wpAny (model X.prog X.w) X.A (assign target X.env u) (fun _ s' => ∃ σ' H', Inv X pins σ' H' s' ∧ Q σ' H') X.xe s
/-- several targets, one after another -/
def PGs (X : Cx) (ts : List Expr) (t : TGs) : Prop :=
  ∀ (pins : List (Addr × Obj)) (s : Shared) (σ : St) (H : Hp) (vs : List V) (us : List Value) (Q : St → Hp → Prop), Inv X pins σ H s → Vals vs us → t vs σ H Q →
    wpAny (model X.prog X.w) X.A (assignInOrder ((assignEach ts X.env).map (·.2)) us) (fun _ s' => ∃ σ' H', Inv X pins σ' H' s' ∧ Q σ' H') X.xe s
/-- o[i] = v, by values -/
abbrev TSet := V → V → V → Hp → (Hp → Prop) → Prop
def PSet (X : Cx) (t : TSet) : Prop :=
  ∀ (pins : List (Addr × Obj)) (s : Shared) (σ : St) (H : Hp) (o i v : V) (ov iv u : Value) (Q : Hp → Prop), Inv X pins σ H s → RelV o ov → RelV i iv → RelV v u → t o i v H Q →
    wpAny (model X.prog X.w) X.A (setItem ov iv u) (fun _ s' => ∃ H', Inv X pins σ H' s' ∧ Q H') X.xe s
/-- a op= b, by values -/
abbrev TIp := V → V → Hp → VK → Prop
def PIp (X : Cx) (op : Operator) (t : TIp) : Prop :=
  ∀ (pins : List (Addr × Obj)) (s : Shared) (σ : St) (H : Hp) (x y : V) (v u : Value) (Q : VK), Inv X pins σ H s → RelV x v → RelV y u → t x y H Q →
    wpAny (model X.prog X.w) X.A (inplaceOp op v u) (EP X pins σ Q) X.xe s
section
variable {X : Cx} {pos : Pos}
def gName (i : Nat) : TG := fun v σ H Q => Q (σ.set i (some v)) H
theorem pg_name {i : Nat} {x : Str} (hN : X.N.Nodup) (hi : X.N[i]? = some x) (hx : Loc X.env.scope x) (hf : X.fn x = true ∨ X.env.scope.names.lookup x = some .local := by first | exact .inl rfl | exact .inr rfl | assumption) : PG X (.Name x pos) (gName i) := by
  intro pins s σ H v u Q I r h
  exact wpAny_assign_Name (store_ok I hN hi hx r (fun s' I' => ⟨_, H, I', h⟩) hf)
def gNil : TGs := fun vs σ H Q => vs = [] ∧ Q σ H
def gCons (t : TG) (u : TGs) : TGs := fun vs σ H Q => ∃ v r, vs = v :: r ∧ t v σ H fun σ' H' => u r σ' H' Q
theorem pgs_nil : PGs X [] gNil := by
  intro pins s σ H vs us Q I r h
  obtain ⟨e, h⟩ := h
  subst e
  cases r
  exact assignInOrder_nil ⟨σ, H, I, h⟩
theorem pgs_cons {e : Expr} {es : List Expr} {t : TG} {u : TGs} (h1 : PG X e t) (h2 : PGs X es u)
    (hs : (assignEach (e :: es) X.env).map (·.2) = assign e X.env :: (assignEach es X.env).map (·.2) := by rfl) : PGs X (e :: es) (gCons t u) := by
  intro pins s σ H vs us Q I r h
  obtain ⟨v, vr, e1, h⟩ := h
  subst e1
  cases r with
  | cons r rr =>
    rw [hs]
    refine assignInOrder_cons (thn (h1 pins s σ H _ _ _ I r h) fun _ s1 ⟨σ1, H1, I1, q1⟩ => ?_)
    exact h2 pins s1 σ1 H1 _ _ Q I1 rr q1
/-- (a, b, ..) = a tuple of that length -/
def gTup (K : PySem.W.Frag) (n : Nat) (t : TGs) : TG := fun v σ H Q => ∃ a xs, v = .ref a ∧ SqT K H a xs ∧ xs.length = n ∧ t xs σ H Q
theorem pg_tup {es : List Expr} {k : Nat} {t : TGs} {n : Nat} (hc : X.calm = true) (h : PGs X es t)
    (hn : (assignEach es X.env).length = n := by rfl) (hst : (assignEach es X.env).findIdx? (·.1) = none := by rfl) : PG X (.Tuple es k pos) (gTup X.K n t) := by
  intro pins s σ H v u Q I r hw
  obtain ⟨a, xs, e1, hq, hl, hw⟩ := hw
  subst e1
  cases r
  obtain ⟨its, rv, ht, hz⟩ := I.tuple hq
  refine assign_Tuple_tuple (I.ok.hd hc) ht (by simp [hn, ← hl, rv.length]) hst fun h' hx => ?_
  have I1 : Inv X pins σ H { s with heap := h' } := I.kept (t' := s.toks) fun b o e => hx b o (Nat.ne_of_lt (Heap.lt_size e)) e
  exact h pins _ σ H xs _ Q I1 (by simpa using rv) hw
/-- o[i] = .. -/
def gSub (to ti : TE) (t : TSet) : TG := fun v σ H Q => to σ H fun o H1 => ti σ H1 fun i H2 => t o i v H2 fun H3 => Q σ H3
theorem pg_sub {o i : Expr} {to ti : TE} {t : TSet} (ho : PE X o to) (hi : PE X i ti) (hs : PSet X t)
    (ha : ∀ v, assign (.Subscript o i pos) X.env v = (do
      let ov ← holding [v] (eval o X.env)
      let iv ← holding [v, ov] (eval i X.env)
      standAt pos
      holding [v, ov, iv] (setItem ov iv v)
      release [v, ov, iv] []) := by intro _; rfl) : PG X (.Subscript o i pos) (gSub to ti t) := by
  intro pins s σ H v u Q I r h
  rw [ha]
  refine wpAny_bind (wpAny_holding (thn (ho pins s σ H _ I h) fun ov s1 ⟨x, H1, I1, r1, q1⟩ => ?_))
  refine wpAny_bind (wpAny_holding (thn (hi pins s1 σ H1 _ I1 q1) fun iv s2 ⟨y, H2, I2, r2, q2⟩ => ?_))
  refine wpAny_bind (wpAny_standAt (wpAny_bind (wpAny_holding (thn (hs pins s2 σ H2 x y v ov iv u _ I2 r1 r2 r q2) fun _ s3 ⟨H3, I3, q3⟩ => ?_))))
  exact wpAny_release ⟨σ, H3, I3, q3⟩
/-- target = value -/
def tAsg (te : TE) (g : TG) : TS := fun D σ H => te σ H fun x H1 => g x σ H1 D.nx
theorem ps_asg {tg e : Expr} {te : TE} {g : TG} (he : PE X e te) (hg : PG X tg g) (hs : swapsWithSole [tg] e pos.line X.env = pure false := by rfl) (hw : swappedStores [tg] e X.env = pure none := by rfl)
    (h1 : (assignEach [tg] X.env).map (·.2) = [assign tg X.env] := by rfl) : PS X (.Assign [tg] e pos) (tAsg te g) := by
  intro pins s σ H D I h
  refine wpAny_Assign_stores (thn (he pins s σ H _ I h) fun v s1 ⟨x, H1, I1, r1, q1⟩ => ?_) hs hw
  rw [h1]
  exact thn (hg pins s1 σ H1 x v _ I1 r1 q1) fun _ s2 q => q
/-- name = value -/
theorem ps_set {i : Nat} {x : Str} {e : Expr} {te : TE} {pos' : Pos} (hN : X.N.Nodup) (hi : X.N[i]? = some x) (hx : Loc X.env.scope x) (he : PE X e te) (hs : swapsWith e (some (.Name x pos')) pos.line X.env = pure false := by rfl) (hf : X.fn x = true ∨ X.env.scope.names.lookup x = some .local := by first | exact .inl rfl | exact .inr rfl | assumption) :
    PS X (.Assign [.Name x pos'] e pos) (tAsg te (gName i)) := by
  intro pins s σ H D I h
  refine wpAny_Assign_Name (thn (he pins s σ H _ I h) fun v s1 ⟨y, H1, I1, r1, q1⟩ => ?_) hs
  exact store_ok I1 hN hi hx r1 (fun s2 I2 => ⟨_, H1, I2, q1⟩) hf
/-- a, b = x, y with plain local names: stored from the right; the pair itself is not tracked (the opening rows as in PyProof/Rows/TupAssign.lean:23) -/
def tPar (i j : Nat) (ta : TA) : TS := fun D σ H => ta σ H fun vs H1 => ∃ v w, vs = [v, w] ∧ D.nx ((σ.set i (some v)).set j (some w)) H1
theorem ps_par {i j : Nat} {x y : Str} {a b : Expr} {ta : TA} {px py pt : Pos} {kt k2 pt2} (hc : X.calm = true) (hN : X.N.Nodup) (hi : X.N[i]? = some x) (hj : X.N[j]? = some y) (hij : i ≠ j)
    (hx : X.env.scope.names.lookup x = some .local) (hy : X.env.scope.names.lookup y = some .local) (ha : PA X [a, b] ta)
    (hw : swappedStores [.Tuple [.Name x px, .Name y py] kt pt] (.Tuple [a, b] k2 pt2) X.env = pure (some [x, y]))
    (hs : swapsWithSole [.Tuple [.Name x px, .Name y py] kt pt] (.Tuple [a, b] k2 pt2) pos.line X.env = pure false := by rfl) :
    PS X (.Assign [.Tuple [.Name x px, .Name y py] kt pt] (.Tuple [a, b] k2 pt2) pos) (tPar i j ta) := by
  intro pins s σ H D I h
  rw [exec_Assign_arm]
  refine wpAny_bind (wpAny_standAt ?_)
  rw [hs]
  refine wpAny_bind (wpAny_pure ?_)
  rw [if_neg (by decide)]
  refine wpAny_bind (Tuple_ (thn (ha _ pins s σ H _ I h) fun us s1 ⟨vs, H1, I1, r1, q1⟩ => ?_))
  obtain ⟨v, w, e1, q1⟩ := q1
  subst e1
  obtain ⟨u1, u2, rfl, rv, rw'⟩ : ∃ u1 u2, us = [u1, u2] ∧ RelV v u1 ∧ RelV w u2 := by
    cases r1 with
    | cons p q =>
      cases q with
      | cons p' q' =>
        cases q'
        exact ⟨_, _, rfl, p, p'⟩
  refine wpAny_newObj_type ?_ (by show 2 ≤ sizeLine; decide)
  have I2 : Inv X pins σ H1 { s1 with heap := s1.heap.push { cls := .type "tuple", data := .seq [u1, u2].toArray } } := I1.kept (t' := s1.toks) fun b o e => Heap.get?_push_of_some _ e
  rw [hw]
  refine wpAny_bind (wpAny_pure ?_)
  show wpAny (model X.prog X.w) X.A (do rule "assign.swapped-stores"; let items ← unpackItems (.ref s1.heap.objs.size) 2 none; assignInOrder [fun v => bindName X.env y v, fun v => bindName X.env x v] items.reverse; pure Flow.next) _ _ _
  refine wpAny_bind (wpAny_rule (wpAny_bind (unpackItems_tuple (items := #[u1, u2]) (I.ok.hd hc) (IsTup.new s1.heap _) fun h' hx' => ?_)))
  have I3 := I2.kept (h' := h') (t' := s1.toks) fun b o e => hx' b o (Nat.ne_of_lt (Heap.lt_size e)) e
  show wpAny _ _ (assignInOrder [fun v => bindName X.env y v, fun v => bindName X.env x v] [u2, u1] >>= fun _ => pure Flow.next) _ _ _
  refine wpAny_bind (assignInOrder_cons (wpAny_bindName (store_ok I3 hN hj (.inl hy) rw' (fun s2 I4 => ?_) (.inr hy))))
  refine assignInOrder_cons (wpAny_bindName (store_ok I4 hN hi (.inl hx) rv (fun s3 I5 => assignInOrder_nil (wpAny_pure ?_)) (.inr hx)))
  rw [List.set_comm _ _ (Ne.symm hij)] at I5
  exact ⟨_, H1, I5, q1⟩
/-- name op= e -/
def tAug (i : Nat) (te : TE) (ti : TIp) : TS := fun D σ H => ∃ x, σ[i]? = some (some x) ∧ te σ H fun y H1 => ti x y H1 fun z H2 => D.nx (σ.set i (some z)) H2
theorem ps_aug {i : Nat} {x : Str} {e : Expr} {te : TE} {op : Operator} {ti : TIp} {pos' : Pos} (hN : X.N.Nodup) (hi : X.N[i]? = some x) (hx : Loc X.env.scope x) (he : PE X e te) (ho : PIp X op ti) (hf : X.fn x = true ∨ X.env.scope.names.lookup x = some .local := by first | exact .inl rfl | exact .inr rfl | assumption) :
    PS X (.AugAssign (.Name x pos') op e pos) (tAug i te ti) := by
  intro pins s σ H D I h
  obtain ⟨v, e1, h⟩ := h
  obtain ⟨m, hn, hl⟩ := I.loc
  have vis : Vis X.env.scope x := by rcases hx with k | k; exact .inl k; exact .inr (.inl k)
  obtain ⟨u, r, l⟩ := hl i x v hi e1 vis
  refine wpAny_AugAssign_Name ?_
  have go : wpAny (model X.prog X.w) X.A (eval e X.env) (fun w s₂ => wpAny (model X.prog X.w) X.A (inplaceOp op u w) (fun r s₃ => wpAny (model X.prog X.w) X.A (storeName X.env x r) (fun _ => SP X pins D .next) X.xe s₃) X.xe s₂) X.xe s := by
    refine thn (he pins s σ H _ I h) fun w s1 ⟨y, H1, I1, r1, q1⟩ => ?_
    refine thn (ho pins s1 σ H1 v y u w _ I1 r r1 q1) fun z s2 ⟨zv, H2, I2, r2, q2⟩ => ?_
    exact store_ok I2 hN hi hx r2 (fun s3 I3 => ⟨_, H2, I3, q2⟩) hf
  rcases l with ⟨hk, hm⟩ | ⟨hk, c, hc, hcell⟩
  · exact wpAny_loadName_local I.ok.kind hk hn hm go
  · rcases hk with hk | hk
    · exact wpAny_loadName_cell I.ok.kind hk hc hcell go
    · rcases hx with k | k
      · have : X.env.scope.names.lookup x = some .free := hk
        rw [k] at this; cases this
      · have : X.env.scope.names.lookup x = some .free := hk
        rw [k] at this; cases this
/-- o[i] op= e -/
def tAugS (to ti te : TE) (tget : V → V → Hp → VK → Prop) (tip : TIp) (tset : TSet) : TS := fun D σ H => to σ H fun o H1 => ti σ H1 fun i H2 => tget o i H2 fun x H3 => te σ H3 fun y H4 => tip x y H4 fun z H5 => tset o i z H5 fun H6 => D.nx σ H6
/-- o[i], by values -/
def PGet (X : Cx) (t : V → V → Hp → VK → Prop) : Prop :=
  ∀ (pins : List (Addr × Obj)) (s : Shared) (σ : St) (H : Hp) (o i : V) (ov iv : Value) (Q : VK), Inv X pins σ H s → RelV o ov → RelV i iv → t o i H Q →
    wpAny (model X.prog X.w) X.A (getItem ov iv) (EP X pins σ Q) X.xe s
theorem ps_augS {o i e : Expr} {to ti te : TE} {tget : V → V → Hp → VK → Prop} {tip : TIp} {tset : TSet} {op : Operator} {tpos : Pos} (ho : PE X o to) (hi : PE X i ti) (hg : PGet X tget) (he : PE X e te) (hp : PIp X op tip) (hs : PSet X tset)
    (ha : ∀ ov iv new, augStore i ov iv new = (do holding [new, ov, iv] (setItem ov iv new); release [new, ov, iv] []; pure .next) := by intros; rfl) : PS X (.AugAssign (.Subscript o i tpos) op e pos) (tAugS to ti te tget tip tset) := by
  intro pins s σ H D I h
  refine wpAny_AugAssign_SubscriptAny (thn (ho pins s σ H _ I h) fun ov s1 ⟨x1, H1, I1, r1, q1⟩ => ?_) ha
  refine thn (hi pins s1 σ H1 _ I1 q1) fun iv s2 ⟨x2, H2, I2, r2, q2⟩ => ?_
  refine thn (hg pins s2 σ H2 x1 x2 ov iv _ I2 r1 r2 q2) fun old s3 ⟨x3, H3, I3, r3, q3⟩ => ?_
  refine thn (he pins s3 σ H3 _ I3 q3) fun v s4 ⟨x4, H4, I4, r4, q4⟩ => ?_
  refine thn (hp pins s4 σ H4 x3 x4 old v _ I4 r3 r4 q4) fun new s5 ⟨x5, H5, I5, r5, q5⟩ => ?_
  exact thn (hs pins s5 σ H5 x1 x2 x5 ov iv new _ I5 r1 r2 r5 q5) fun _ s6 ⟨H6, I6, q6⟩ => ⟨σ, H6, I6, q6⟩
/-- ints -/
def ipI (f : Int → Int → Int) : TIp := fun x y H Q => ∃ i j, x = .int i ∧ y = .int j ∧ Q (.int (f i j)) H
theorem ip_add : PIp X .Add (ipI fun i j => i + j) := by
  intro pins s σ H x y v u Q I r1 r2 h
  obtain ⟨i, j, e1, e2, q⟩ := h
  subst e1; subst e2
  obtain ⟨t, rfl⟩ := r1
  obtain ⟨t', rfl⟩ := r2
  exact iadd_int ⟨.int _, H, I.tok _, ⟨_, rfl⟩, q⟩
theorem ip_sub : PIp X .Sub (ipI fun i j => i - j) := by
  intro pins s σ H x y v u Q I r1 r2 h
  obtain ⟨i, j, e1, e2, q⟩ := h
  subst e1; subst e2
  obtain ⟨t, rfl⟩ := r1
  obtain ⟨t', rfl⟩ := r2
  exact isub_int ⟨.int _, H, I.tok _, ⟨_, rfl⟩, q⟩
end

/-! ### while -/
section
variable {X : Cx} {pos : Pos}
/-- the invariant W with its measure -/
def tWhile (c : TT) (tb : TS) : TS := fun D σ H => ∃ W : Nat → St → Hp → Prop, (∃ m, W m σ H) ∧ ∀ m σ H, W m σ H →
  c σ H fun b H1 => if b = true then ∃ N : St → Hp → Prop, (∀ σ' H', N σ' H' → ∃ m', m' < m ∧ W m' σ' H') ∧ tb { D with nx := N, ct := N, bk := D.nx } σ H1 else D.nx σ H1
theorem ps_while {c : Expr} {body : List Stmt} {tc : TT} {tb : TS} (hp : PassesOwn (model X.prog X.w) X.A X.env X.xe) (hc : PT X c tc) (hb : PSs X body tb) : PS X (.While c body [] pos) (tWhile tc tb) := by
  intro pins s σ H D I h
  obtain ⟨W, ⟨m0, w0⟩, turn⟩ := h
  refine wpAny_While (codeAny_whileLoop (fun n s' => ∃ σ' H', Inv X pins σ' H' s' ∧ W n σ' H') ?_ m0 ⟨σ, H, I, w0⟩)
  rintro n s1 ⟨σ1, H1, I1, w1⟩
  refine wpAny_passesOwn hp (thn (hc pins s1 σ1 H1 _ I1 (turn n σ1 H1 w1)) fun b s2 ⟨H2, I2, q2⟩ => ?_)
  cases b with
  | true =>
    obtain ⟨N, hN, q2⟩ := q2
    rw [if_pos rfl]
    refine wpAny_passesOwn hp (thn (hb pins s2 σ1 H2 _ I2 q2) fun f s3 q3 => ?_)
    cases f with
    | next =>
      obtain ⟨σ3, H3, I3, n3⟩ := q3
      obtain ⟨m', hm, w3⟩ := hN σ3 H3 n3
      exact ⟨m', hm, σ3, H3, I3, w3⟩
    | cont =>
      obtain ⟨σ3, H3, I3, n3⟩ := q3
      obtain ⟨m', hm, w3⟩ := hN σ3 H3 n3
      exact ⟨m', hm, σ3, H3, I3, w3⟩
    | brk => exact q3
    | ret v => exact q3
  | false =>
    rw [if_neg Bool.false_ne_true]
    exact wpAny_execs_nil ⟨σ1, H2, I2, q2⟩
end

/-! ### what a loop or a comprehension walks -/
/-- at turn i: it yields x (the heap may grow), or it stops -/
structure It where
  go : Nat → Hp → Prop
  yld : Nat → Hp → V → Hp → Prop
  stop : Nat → Hp → Prop
/-- the iterator's own objects may turn: they are not the frame's, not pinned, younger than the entry (or a comprehension's own) -/
def FpOk (X : Cx) (pins : List (Addr × Obj)) (H : Hp) (b : Addr) : Prop :=
  H b = none ∧ b ≠ X.env.locals ∧ b ∉ X.fs ∧ (b ∈ X.ex ∨ X.s₀.heap.objs.size ≤ b) ∧ (∀ x c, X.env.cells.lookup x = some c → c ≠ b) ∧ ∀ p ∈ X.pn ++ pins, p.1 ≠ b
theorem Inv.fpOk {X : Cx} {pins : List (Addr × Obj)} {σ : St} {H H' : Hp} {s : Shared} {b : Addr} (I : Inv X pins σ H s) (hb : s.heap.objs.size ≤ b) (hn : H' b = none) : FpOk X pins H' b := by
  refine ⟨hn, Nat.ne_of_gt (Nat.lt_of_lt_of_le I.lt hb), I.nofs hb, .inr (Nat.le_trans I.sz hb), fun x c e z => ?_, fun p hp z => ?_⟩
  · obtain ⟨v, q⟩ := I.cell x c e
    exact absurd (Nat.lt_of_lt_of_le q.lt (by rw [z]; exact hb)) (Nat.lt_irrefl _)
  · exact absurd (Nat.lt_of_lt_of_le (Heap.lt_size (I.pin p hp).1) (by rw [z]; exact hb)) (Nat.lt_irrefl _)
structure Turn (P : Program) (w : World) (K : PySem.W.Frag) (tg : Expr) (J : It) (fp : List Addr) (it : Addr) (tn : Nat → Heap → Prop) : Prop where
  mem : it ∈ fp
  obj : ∀ i h, tn i h → ∀ b ∈ fp, ∃ o, h.get? b = some o ∧ ∀ v, o.data ≠ .cell v
  keep : ∀ i h h', tn i h → (∀ b ∈ fp, ∀ o, h.get? b = some o → h'.get? b = some o) → tn i h'
  item : ∀ (X : Cx), X.prog = P → X.w = w → X.K = K → X.calm = true → ∀ (i : Nat) (pins : List (Addr × Obj)) (s : Shared) (σ : St) (H : Hp) (E : Value → Shared → Prop), Inv X pins σ H s → (∀ b ∈ fp, FpOk X pins H b) → tn i s.heap → J.go i H →
    wpAny (model P w) X.A (pyNext (.ref it)) (fun r s1 => ∃ u, r = some u ∧
      wpAny (model P w) X.A (letOwnedTupleGo tg (.ref it) u) (fun _ s2 => ∃ x H', Inv X pins σ H' s2 ∧ RelV x u ∧ J.yld i H x H' ∧ tn (i + 1) s2.heap ∧ ∀ b ∈ fp, H' b = none) E s1) E s
  done : ∀ (X : Cx), X.prog = P → X.w = w → X.K = K → X.calm = true → ∀ (i : Nat) (pins : List (Addr × Obj)) (s : Shared) (σ : St) (H : Hp) (E : Value → Shared → Prop), Inv X pins σ H s → (∀ b ∈ fp, FpOk X pins H b) → tn i s.heap → J.stop i H →
    wpAny (model P w) X.A (pyNext (.ref it)) (fun r s1 => r = none ∧ Inv X pins σ H s1) E s
  self : ∀ (A : Around) (i : Nat) (s : Shared) (Q : Value → Shared → Prop) (E : Value → Shared → Prop), tn i s.heap → Q (.ref it) s → wpAny (model P w) A (pyIter (.ref it)) Q E s
abbrev TI := St → Hp → (It → Hp → Prop) → Prop
/-- an iterator has come -/
def PIE (X : Cx) (pins : List (Addr × Obj)) (σ : St) (tg : Expr) (R : It → Hp → Prop) (itv : Value) (s2 : Shared) : Prop :=
  ∃ (it : Addr) (fp : List Addr) (tn : Nat → Heap → Prop) (J : It) (H' : Hp), itv = .ref it ∧ Inv X pins σ H' s2 ∧ Turn X.prog X.w X.K tg J fp it tn ∧ tn 0 s2.heap ∧ (∀ b ∈ fp, FpOk X pins H' b) ∧ R J H'
def PI (X : Cx) (tg iter : Expr) (wi : TI) : Prop :=
  ∀ (pins : List (Addr × Obj)) (s : Shared) (σ : St) (H : Hp) (R : It → Hp → Prop), Inv X pins σ H s → wi σ H R →
    wpAny (model X.prog X.w) X.A (eval iter X.env) (fun v s1 => wpAny (model X.prog X.w) X.A (pyIter v) (PIE X pins σ tg R) X.xe s1) X.xe s

/-- the step ahead of the store is nothing for an iterator that keeps no tuple -/
theorem go_of {M : Model} {A : Around} {E : Value → Shared → Prop} {s : Shared} {tg : Expr} {it : Addr} {u : Value} {o : Obj} {n : String} {vs : Array Value} {Q : Unit → Shared → Prop} (ho : s.heap.get? it = some o) (hc : o.cls = .type n) (hd : o.data = .fields vs)
    (hn : ["enumerate", "zip", "dict_itemiterator", "dict_reverseitemiterator", "odict_iterator", "itertools.zip_longest", "itertools.pairwise"].contains n = false) (hQ : Q () s) : wpAny M A (letOwnedTupleGo tg (.ref it) u) Q E s := by
  unfold letOwnedTupleGo
  cases tg <;> first
    | exact wpAny_pure hQ
    | (cases u <;> first
        | exact wpAny_pure hQ
        | (refine wpAny_bind (wpAny_load ho ?_)
           rw [hc, hd]
           show wpAny M A (if (["enumerate", "zip", "dict_itemiterator", "dict_reverseitemiterator", "odict_iterator", "itertools.zip_longest", "itertools.pairwise"].contains n && vs[0]? == some (rawInt _)) = true then _ else _) Q E s
           rw [if_neg (by intro h; rw [hn, Bool.false_and] at h; cases h)]
           exact wpAny_pure hQ))

/-- the list at a, as it stands at each turn (a loop may append to it) -/
def Itl (K : PySem.W.Frag) (a : Addr) : It :=
  ⟨fun i H => ∃ xs x, SqL K H a xs ∧ xs[i]? = some x, fun i H x H' => H' = H ∧ ∀ xs, SqL K H a xs → xs[i]? = some x, fun i H => ∃ xs, SqL K H a xs ∧ xs.length ≤ i⟩
def Itt (K : PySem.W.Frag) (a : Addr) : It :=
  ⟨fun i H => ∃ xs x, SqT K H a xs ∧ xs[i]? = some x, fun i H x H' => H' = H ∧ ∀ xs, SqT K H a xs → xs[i]? = some x, fun i H => ∃ xs, SqT K H a xs ∧ xs.length ≤ i⟩
/-- lo, lo + 1, .. (n of them) -/
def Itr (lo : Int) (n : Nat) : It := ⟨fun i _ => i < n, fun i H x H' => H' = H ∧ x = .int (lo + i), fun i _ => n ≤ i⟩
theorem turn_list {P : Program} {w : World} {K : PySem.W.Frag} {tg : Expr} (a it : Addr) : Turn P w K tg (Itl K a) [it] it (fun i h => h.IsListIter it a i) where
  mem := by simp
  obj := fun i h st b hb => by
    have e : b = it := by simpa using hb
    subst e
    obtain ⟨o, e, c, d⟩ := st
    exact ⟨o, e, fun v z => by rw [d] at z; cases z⟩
  keep := fun i h h' st k => st.at fun o e => k it (by simp) o e
  item := by
    intro X hP hw hK hc i pins s σ H E I hf st hg
    subst hP hw hK
    obtain ⟨xs, x, hq, hx⟩ := hg
    obtain ⟨its, rv, p, hz⟩ := I.list hq
    obtain ⟨u, hu, ru⟩ := rv.get hx
    obtain ⟨f0, f1, f2, f3, f4, f5⟩ := hf it (by simp)
    refine wpAny_pyNext_list_item st p.isList (x := u) (by simpa using hu) fun h' st' sb => ?_
    have I1 : Inv X pins σ H { s with heap := h' } := I.turned (t' := s.toks) (fun b o hb e => (sb.2 b hb).trans e) f0 f1 f3 f4 f5
    obtain ⟨o, e, c, d⟩ := id st'
    exact ⟨u, rfl, go_of (s := { s with heap := h' }) e c d (by decide) ⟨x, H, I1, ru, ⟨rfl, fun ys hy => by rw [I.list_inj hy hq]; exact hx⟩, st', fun b hb => (hf b hb).1⟩⟩
  done := by
    intro X hP hw hK hc i pins s σ H E I hf st hg
    subst hP hw hK
    obtain ⟨xs, hq, hx⟩ := hg
    obtain ⟨its, rv, p, hz⟩ := I.list hq
    obtain ⟨f0, f1, f2, f3, f4, f5⟩ := hf it (by simp)
    have hl := rv.length
    exact wpAny_pyNext_list_end (I.ok.hd hc) st p.isList (by simp; omega) fun h' eb => ⟨rfl, I.turned (t' := s.toks) (fun b o hb e => eb b o hb e) f0 f1 f3 f4 f5⟩
  self := fun _ _ _ _ _ st h => wpAny_pyIter_listiter st h
theorem turn_tuple {P : Program} {w : World} {K : PySem.W.Frag} {tg : Expr} (a it : Addr) : Turn P w K tg (Itt K a) [it] it (fun i h => h.IsTupleIter it a i) where
  mem := by simp
  obj := fun i h st b hb => by
    have e : b = it := by simpa using hb
    subst e
    obtain ⟨o, e, c, d⟩ := st
    exact ⟨o, e, fun v z => by rw [d] at z; cases z⟩
  keep := fun i h h' st k => st.at fun o e => k it (by simp) o e
  item := by
    intro X hP hw hK hc i pins s σ H E I hf st hg
    subst hP hw hK
    obtain ⟨xs, x, hq, hx⟩ := hg
    obtain ⟨its, rv, p, hz⟩ := I.tuple hq
    obtain ⟨u, hu, ru⟩ := rv.get hx
    obtain ⟨f0, f1, f2, f3, f4, f5⟩ := hf it (by simp)
    refine wpAny_pyNext_tuple_item st (show s.heap.IsTuple a its.toArray from p) (x := u) (by simpa using hu) fun h' st' sb => ?_
    have I1 : Inv X pins σ H { s with heap := h' } := I.turned (t' := s.toks) (fun b o hb e => (sb.2 b hb).trans e) f0 f1 f3 f4 f5
    obtain ⟨o, e, c, d⟩ := id st'
    exact ⟨u, rfl, go_of (s := { s with heap := h' }) e c d (by decide) ⟨x, H, I1, ru, ⟨rfl, fun ys hy => by rw [I.tuple_inj hy hq]; exact hx⟩, st', fun b hb => (hf b hb).1⟩⟩
  done := by
    intro X hP hw hK hc i pins s σ H E I hf st hg
    subst hP hw hK
    obtain ⟨xs, hq, hx⟩ := hg
    obtain ⟨its, rv, p, hz⟩ := I.tuple hq
    obtain ⟨f0, f1, f2, f3, f4, f5⟩ := hf it (by simp)
    have hl := rv.length
    exact wpAny_pyNext_tuple_end (I.ok.hd hc) st (show s.heap.IsTuple a its.toArray from p) (by simp; omega) fun h' eb => ⟨rfl, I.turned (t' := s.toks) (fun b o hb e => eb b o hb e) f0 f1 f3 f4 f5⟩
  self := fun _ _ _ _ _ st h => wpAny_pyIter_tupleiter st h
theorem turn_range {P : Program} {w : World} {K : PySem.W.Frag} {tg : Expr} (it : Addr) (lo : Int) (n : Nat) : Turn P w K tg (Itr lo n) [it] it (fun i h => IsRangeIter h it (lo + (i : Nat) * 1) ((n : Int) - (i : Nat)) 1) where
  mem := by simp
  obj := fun i h st b hb => by
    have e : b = it := by simpa using hb
    subst e
    exact ⟨_, st, fun v z => by
      have z' : Data.fields _ = Data.cell v := z
      cases z'⟩
  keep := fun i h h' st k => k it (by simp) _ st
  item := by
    intro X hP hw hK hc i pins s σ H E I hf st hg
    subst hP hw hK
    obtain ⟨f0, f1, f2, f3, f4, f5⟩ := hf it (by simp)
    have W := Walks.range (prog := X.prog) (w := X.w) (I.ok.hd hc) it lo 1 n
    refine W.item i s _ _ hg st fun v h' tk hv st' kk => ?_
    obtain ⟨t, rfl⟩ := hv
    have I1 : Inv X pins σ H { s with heap := h', toks := tk } := I.turned (fun b o hb e => kk b o (by simpa using hb) e) f0 f1 f3 f4 f5
    refine ⟨_, rfl, go_of (s := { s with heap := h', toks := tk }) (n := "range_iterator") st' rfl rfl (by decide) ⟨.int (lo + i), H, I1, ⟨t, ?_⟩, ⟨rfl, rfl⟩, st', fun b hb => (hf b hb).1⟩⟩
    rw [Int.mul_one]
  done := by
    intro X hP hw hK hc i pins s σ H E I hf st hg
    subst hP hw hK
    obtain ⟨f0, f1, f2, f3, f4, f5⟩ := hf it (by simp)
    exact wpAny_pyNext_range_end (I.ok.hd hc) st (by have : n ≤ i := hg; omega) fun h' eb => ⟨rfl, I.turned (t' := s.toks) (fun b o hb e => eb b o hb e) f0 f1 f3 f4 f5⟩
  self := fun _ _ _ _ _ st h => wpAny_pyIter_rangeiter st h
end L2

namespace L2
open PySem PySem.Spec PyProof.Rows
section
variable {X : Cx} {tg : Expr}
def iList (K : PySem.W.Frag) (tl : TE) : TI := fun σ H R => tl σ H fun x H1 => ∃ a, x = .ref a ∧ (∃ xs, SqL K H1 a xs) ∧ R (Itl K a) H1
def iTup (K : PySem.W.Frag) (tl : TE) : TI := fun σ H R => tl σ H fun x H1 => ∃ a, x = .ref a ∧ (∃ xs, SqT K H1 a xs) ∧ R (Itt K a) H1
theorem pi_list {l : Expr} {tl : TE} (hl : PE X l tl) : PI X tg l (iList X.K tl) := by
  intro pins s σ H R I h
  refine thn (hl pins s σ H _ I h) fun v s1 ⟨x, H1, I1, r1, q1⟩ => ?_
  obtain ⟨a, e, ⟨xs, hq⟩, q⟩ := q1
  subst e
  cases r1
  obtain ⟨its, rv, p, hz⟩ := I1.list hq
  refine wpAny_pyIter_list p.isList ?_
  refine ⟨s1.heap.objs.size, [s1.heap.objs.size], _, _, H1, rfl, I1.kept (t' := s1.toks) fun b o e => Heap.get?_push_of_some _ e, turn_list a _, ⟨_, Heap.get?_push_size _ rfl, rfl, rfl⟩, fun b hb => ?_, q⟩
  have e : b = s1.heap.objs.size := by simpa using hb
  subst e
  exact I1.fpOk (Nat.le_refl _) (I1.hok.fresh (Nat.le_refl _))
theorem pi_tup {l : Expr} {tl : TE} (hl : PE X l tl) : PI X tg l (iTup X.K tl) := by
  intro pins s σ H R I h
  refine thn (hl pins s σ H _ I h) fun v s1 ⟨x, H1, I1, r1, q1⟩ => ?_
  obtain ⟨a, e, ⟨xs, hq⟩, q⟩ := q1
  subst e
  cases r1
  obtain ⟨its, rv, p, hz⟩ := I1.tuple hq
  refine wpAny_pyIter_tuple (show s1.heap.IsTuple a its.toArray from p) ?_
  refine ⟨s1.heap.objs.size, [s1.heap.objs.size], _, _, H1, rfl, I1.kept (t' := s1.toks) fun b o e => Heap.get?_push_of_some _ e, turn_tuple a _, ⟨_, Heap.get?_push_size _ rfl, rfl, rfl⟩, fun b hb => ?_, q⟩
  have e : b = s1.heap.objs.size := by simpa using hb
  subst e
  exact I1.fpOk (Nat.le_refl _) (I1.hok.fresh (Nat.le_refl _))
/-- a range object just made, walked -/
theorem range_it {pins : List (Addr × Obj)} {σ : St} {H : Hp} {s : Shared} {R : It → Hp → Prop} {E : Value → Shared → Prop} {lo hi : Int} {t u v : Tok} {tk : Nat} (I : Inv X pins σ H s) (h1 : -(2 ^ 62) ≤ lo) (h2 : lo < 2 ^ 62) (h3 : -(2 ^ 62) ≤ hi) (h4 : hi < 2 ^ 62)
    (q : R (Itr lo (hi - lo).toNat) H) : wpAny (model X.prog X.w) X.A (pyIter (.ref s.heap.objs.size)) (PIE X pins σ tg R) E { s with heap := s.heap.push { cls := .type "range", data := .fields #[.int lo t, .int hi u, .int 1 v] }, toks := tk } := by
  refine wpAny_pyIter_range (IsRange.new ..) (small_one h1 h2 h3 h4) ?_
  have I1 : Inv X pins σ H { s with heap := s.heap.push { cls := .type "range", data := .fields #[.int lo t, .int hi u, .int 1 v] }, toks := tk } := I.kept fun b o e => Heap.get?_push_of_some _ e
  refine ⟨(s.heap.push { cls := .type "range", data := .fields #[.int lo t, .int hi u, .int 1 v] }).objs.size, [(s.heap.push { cls := .type "range", data := .fields #[.int lo t, .int hi u, .int 1 v] }).objs.size], _, _, H, rfl,
    I1.kept (t' := tk) fun b o e => Heap.get?_push_of_some _ e, turn_range _ lo (hi - lo).toNat, ?_, fun b hb => ?_, q⟩
  · have e1 : lo + ((0 : Nat) : Int) * 1 = lo := by simp
    have e2 : (((hi - lo).toNat : Nat) : Int) - ((0 : Nat) : Int) = Builtin.Range.rangeSize lo hi 1 := by rw [rangeSize_one]; split <;> omega
    show IsRangeIter _ _ (lo + ((0 : Nat) : Int) * 1) ((((hi - lo).toNat : Nat) : Int) - ((0 : Nat) : Int)) 1
    rw [e1, e2]
    exact Heap.get?_push_size _ rfl
  · have e : b = (s.heap.push { cls := .type "range", data := .fields #[.int lo t, .int hi u, .int 1 v] }).objs.size := by simpa using hb
    subst e
    exact I1.fpOk (Nat.le_refl _) (I1.hok.fresh (Nat.le_refl _))
def iRng1 (ta : TA) : TI := fun σ H R => ta σ H fun vs H1 => ∃ j : Int, vs = [.int j] ∧ -(2 ^ 62) ≤ j ∧ j < 2 ^ 62 ∧ R (Itr 0 j.toNat) H1
def iRng2 (ta : TA) : TI := fun σ H R => ta σ H fun vs H1 => ∃ i j : Int, vs = [.int i, .int j] ∧ (-(2 ^ 62) ≤ i ∧ i < 2 ^ 62 ∧ -(2 ^ 62) ≤ j ∧ j < 2 ^ 62) ∧ R (Itr i (j - i).toNat) H1
theorem pi_range1 {a : Expr} {ta : TA} {p pos : Pos} (hg : Gl X "range") (hm : X.mg "range" = none) (ha : PA X [a] ta) (hs : starEach [a] X.env = [(false, eval a X.env)] := by rfl) : PI X tg (.Call (.Name "range" p) [a] [] pos) (iRng1 ta) := by
  intro pins s σ H R I h
  refine Call_ (ld_blt I hg hm boot_range (PyProof.Rows.callWith_type1 (thn (ha pos pins s σ H _ I h) fun us s1 ⟨vs, H1, I1, r1, q1⟩ => ?_) hs rfl))
  obtain ⟨j, e, q1, q2, q⟩ := q1
  subst e
  cases r1 with
  | cons r rr =>
    cases rr
    obtain ⟨t, rfl⟩ := r
    exact call_range_1 (range_it I1 (by omega) (by omega) q1 q2 (by simpa using q))
theorem pi_range2 {a b : Expr} {ta : TA} {p pos : Pos} (hg : Gl X "range") (hm : X.mg "range" = none) (ha : PA X [a, b] ta) (hs : starEach [a, b] X.env = [(false, eval a X.env), (false, eval b X.env)] := by rfl) (hs2 : starEach [b] X.env = [(false, eval b X.env)] := by rfl) :
    PI X tg (.Call (.Name "range" p) [a, b] [] pos) (iRng2 ta) := by
  intro pins s σ H R I h
  refine Call_ (ld_blt I hg hm boot_range (PyProof.Rows.callWith_type1 (thn (ha pos pins s σ H _ I h) fun us s1 ⟨vs, H1, I1, r1, q1⟩ => ?_) (by rw [hs, hs2]) (by rw [hs2]; rfl)))
  obtain ⟨i, j, e, ⟨q1, q2, q3, q4⟩, q⟩ := q1
  subst e
  cases r1 with
  | cons r rr =>
    cases rr with
    | cons r' rr =>
      cases rr
      obtain ⟨t, rfl⟩ := r
      obtain ⟨t', rfl⟩ := r'
      exact call_range_2 (range_it I1 q1 q2 q3 q4 q)

/-! ### for -/
/-- W: the invariant by the turn and a measure; N: what the body is to reach -/
def tFor (wi : TI) (g : TG) (tb : TS) : TS := fun D σ H => wi σ H fun J H1 => ∃ W : Nat → Nat → St → Hp → Prop, (∃ m, W 0 m σ H1) ∧ ∀ i m σ H, W i m σ H →
  (J.stop i H ∧ D.nx σ H) ∨ (J.go i H ∧ ∃ N : St → Hp → Prop, (∀ σ' H', N σ' H' → ∃ m', m' < m ∧ W (i + 1) m' σ' H') ∧ ∀ x H', J.yld i H x H' → g x σ H' fun σ2 H2 => tb { D with nx := N, ct := N, bk := D.nx } σ2 H2)
/-- the records at fp as they stand -/
def pinsAt (fp : List Addr) (h : Heap) : List (Addr × Obj) := fp.filterMap fun b => (h.get? b).map fun o => (b, o)
theorem mem_pinsAt {fp : List Addr} {h : Heap} {b : Addr} {o : Obj} (hb : b ∈ fp) (e : h.get? b = some o) : (b, o) ∈ pinsAt fp h := List.mem_filterMap.mpr ⟨b, hb, by rw [e]; rfl⟩
theorem of_pinsAt {fp : List Addr} {h : Heap} {p : Addr × Obj} (hp : p ∈ pinsAt fp h) : p.1 ∈ fp ∧ h.get? p.1 = some p.2 := by
  obtain ⟨b, hb, e⟩ := List.mem_filterMap.mp hp
  cases q : h.get? b with
  | none => rw [q] at e; cases e
  | some o =>
    rw [q] at e
    have e' : (b, o) = p := Option.some.inj e
    subst e'
    exact ⟨hb, q⟩
theorem Inv.pinned {pins : List (Addr × Obj)} {σ : St} {H : Hp} {s : Shared} {fp : List Addr} (I : Inv X pins σ H s) (hf : ∀ b ∈ fp, FpOk X pins H b) (ho : ∀ b ∈ fp, ∃ o, s.heap.get? b = some o ∧ ∀ v, o.data ≠ .cell v) : Inv X (pins ++ pinsAt fp s.heap) σ H s :=
  I.pins_of fun p hp => (List.mem_append.mp hp).elim (fun z => I.pin p (List.mem_append_right _ z)) fun z => by
    obtain ⟨hb, e⟩ := of_pinsAt z
    obtain ⟨f0, f1, f2, _⟩ := hf p.1 hb
    obtain ⟨o, e', d⟩ := ho p.1 hb
    rw [e] at e'; cases e'
    exact ⟨e, f0, f1, f2, d⟩
theorem Inv.unpinned {pins pl : List (Addr × Obj)} {σ : St} {H : Hp} {s : Shared} (I : Inv X (pins ++ pl) σ H s) : Inv X pins σ H s := I.pins_of fun p hp => I.pin p (List.mem_append_right _ (List.mem_append_left _ hp))
theorem ps_for {iter : Expr} {body : List Stmt} {wi : TI} {g : TG} {tb : TS} {pos : Pos} (hp : PassesOwn (model X.prog X.w) X.A X.env X.xe) (hc : X.calm = true) (hi : PI X tg iter wi) (hg : PG X tg g) (hb : PSs X body tb)
    (hs : ∀ x, foldedSetIterable iter X.env x = pure x := by intro _; rfl) : PS X (.For tg iter body [] pos) (tFor wi g tb) := by
  intro pins s σ H D I h
  refine wpAny_For (thn (hi pins s σ H _ I h) fun v s1 h1 => thn h1 fun itv s2 h2 => ?_) hs
  obtain ⟨it, fp, tn, J, H2, e, I2, T, st2, f2, W, ⟨m0, w0⟩, turn⟩ := h2
  subst e
  -- what stays true of the iterator's objects through the loop
  have stat : ∀ {H' : Hp}, (∀ b ∈ fp, H' b = none) → ∀ b ∈ fp, FpOk X pins H' b := fun hn b hb => ⟨hn b hb, (f2 b hb).2⟩
  refine codeAny_forLoop_any (fun n s' => ∃ i σ' H', Inv X pins σ' H' s' ∧ tn i s'.heap ∧ (∀ b ∈ fp, H' b = none) ∧ W i n σ' H') ?_ m0 ⟨0, σ, H2, I2, st2, fun b hb => (f2 b hb).1, w0⟩
  rintro n s3 ⟨i, σ3, H3, I3, st3, fr3, w3⟩
  rcases turn i n σ3 H3 w3 with ⟨stop, qn⟩ | ⟨go, N, hN, step⟩
  · refine wpAny_passesOwn hp (thn (T.done X rfl rfl rfl hc i pins s3 σ3 H3 X.xe I3 (stat fr3) st3 stop) fun r s4 ⟨hr, I4⟩ => ?_)
    subst hr
    exact wpAny_execs_nil ⟨σ3, H3, I4, qn⟩
  · refine wpAny_passesOwn hp (thn (T.item X rfl rfl rfl hc i pins s3 σ3 H3 X.xe I3 (stat fr3) st3 go) fun r s4 ⟨u, hr, h4⟩ => ?_)
    subst hr
    refine wpAny_passesOwn hp (thn h4 fun _ s5 ⟨x, H5, I5, r5, y5, st5, fr5⟩ => ?_)
    have I5' := I5.pinned (stat fr5) (T.obj _ _ st5)
    refine wpAny_passesOwn hp (thn (hg _ s5 σ3 H5 x u _ I5' r5 (step x H5 y5)) fun _ s6 ⟨σ6, H6, I6, q6⟩ => ?_)
    refine wpAny_passesOwn hp (thn (hb _ s6 σ6 H6 _ I6 q6) fun f s7 q7 => ?_)
    have again : ∀ {σ7 : St} {H7 : Hp}, Inv X (pins ++ pinsAt fp s5.heap) σ7 H7 s7 → N σ7 H7 → ∃ m, m < n ∧ ∃ i σ' H', Inv X pins σ' H' s7 ∧ tn i s7.heap ∧ (∀ b ∈ fp, H' b = none) ∧ W i m σ' H' := fun {σ7 H7} I7 n7 => by
      obtain ⟨m', hm, w7⟩ := hN σ7 H7 n7
      refine ⟨m', hm, i + 1, σ7, H7, I7.unpinned, T.keep _ _ _ st5 fun b hb o e => (I7.pin (b, o) (List.mem_append_right _ (List.mem_append_right _ (mem_pinsAt hb e)))).1, fun b hb => ?_, w7⟩
      obtain ⟨o, e, d⟩ := T.obj _ _ st5 b hb
      exact (I7.pin (b, o) (List.mem_append_right _ (List.mem_append_right _ (mem_pinsAt hb e)))).2.1
    cases f with
    | next => obtain ⟨σ7, H7, I7, n7⟩ := q7; exact again I7 n7
    | cont => obtain ⟨σ7, H7, I7, n7⟩ := q7; exact again I7 n7
    | brk => obtain ⟨σ7, H7, I7, q7⟩ := q7; exact ⟨σ7, H7, I7.unpinned, q7⟩
    | ret v => obtain ⟨x7, σ7, H7, I7, r7, q7⟩ := q7; exact ⟨x7, σ7, H7, I7.unpinned, r7, q7⟩
end

/-! ### the forms one uses -/
/-- over a list that the body leaves as it is -/
theorem for_list {K : PySem.W.Frag} {a : Addr} {xs : List V} {g : TG} {tb : TS} {D : Ends} {σ : St} {H : Hp} (Pv : Nat → St → Hp → Prop) (h0 : Pv 0 σ H) (hl : ∀ i σ H, i ≤ xs.length → Pv i σ H → SqL K H a xs)
    (hs : ∀ i x σ H, xs[i]? = some x → Pv i σ H → g x σ H fun σ2 H2 => tb { D with nx := Pv (i + 1), ct := Pv (i + 1), bk := D.nx } σ2 H2) (hd : ∀ σ H, Pv xs.length σ H → D.nx σ H) :
    ∃ W : Nat → Nat → St → Hp → Prop, (∃ m, W 0 m σ H) ∧ ∀ i m σ H, W i m σ H →
      ((Itl K a).stop i H ∧ D.nx σ H) ∨ ((Itl K a).go i H ∧ ∃ N : St → Hp → Prop, (∀ σ' H', N σ' H' → ∃ m', m' < m ∧ W (i + 1) m' σ' H') ∧ ∀ x H', (Itl K a).yld i H x H' → g x σ H' fun σ2 H2 => tb { D with nx := N, ct := N, bk := D.nx } σ2 H2) := by
  refine ⟨fun i m σ H => m = xs.length - i ∧ i ≤ xs.length ∧ Pv i σ H, ⟨xs.length, by simp, Nat.zero_le _, h0⟩, ?_⟩
  rintro i m σ H ⟨rfl, hi, p⟩
  have q := hl i σ H hi p
  by_cases hlt : i < xs.length
  · refine .inr ⟨⟨xs, xs[i], q, by simp [hlt]⟩, Pv (i + 1), fun σ' H' p' => ⟨xs.length - (i + 1), by omega, rfl, hlt, p'⟩, fun x H' y => ?_⟩
    obtain ⟨e, y⟩ := y
    subst e
    exact hs i x σ _ (y xs q) p
  · have e : i = xs.length := by omega
    subst e
    exact .inl ⟨⟨xs, q, Nat.le_refl _⟩, hd σ H p⟩
theorem for_tup {K : PySem.W.Frag} {a : Addr} {xs : List V} {g : TG} {tb : TS} {D : Ends} {σ : St} {H : Hp} (Pv : Nat → St → Hp → Prop) (h0 : Pv 0 σ H) (hl : ∀ i σ H, i ≤ xs.length → Pv i σ H → SqT K H a xs)
    (hs : ∀ i x σ H, xs[i]? = some x → Pv i σ H → g x σ H fun σ2 H2 => tb { D with nx := Pv (i + 1), ct := Pv (i + 1), bk := D.nx } σ2 H2) (hd : ∀ σ H, Pv xs.length σ H → D.nx σ H) :
    ∃ W : Nat → Nat → St → Hp → Prop, (∃ m, W 0 m σ H) ∧ ∀ i m σ H, W i m σ H →
      ((Itt K a).stop i H ∧ D.nx σ H) ∨ ((Itt K a).go i H ∧ ∃ N : St → Hp → Prop, (∀ σ' H', N σ' H' → ∃ m', m' < m ∧ W (i + 1) m' σ' H') ∧ ∀ x H', (Itt K a).yld i H x H' → g x σ H' fun σ2 H2 => tb { D with nx := N, ct := N, bk := D.nx } σ2 H2) := by
  refine ⟨fun i m σ H => m = xs.length - i ∧ i ≤ xs.length ∧ Pv i σ H, ⟨xs.length, by simp, Nat.zero_le _, h0⟩, ?_⟩
  rintro i m σ H ⟨rfl, hi, p⟩
  have q := hl i σ H hi p
  by_cases hlt : i < xs.length
  · refine .inr ⟨⟨xs, xs[i], q, by simp [hlt]⟩, Pv (i + 1), fun σ' H' p' => ⟨xs.length - (i + 1), by omega, rfl, hlt, p'⟩, fun x H' y => ?_⟩
    obtain ⟨e, y⟩ := y
    subst e
    exact hs i x σ _ (y xs q) p
  · have e : i = xs.length := by omega
    subst e
    exact .inl ⟨⟨xs, q, Nat.le_refl _⟩, hd σ H p⟩
theorem for_range {lo : Int} {n : Nat} {g : TG} {tb : TS} {D : Ends} {σ : St} {H : Hp} (Pv : Nat → St → Hp → Prop) (h0 : Pv 0 σ H)
    (hs : ∀ i σ H, i < n → Pv i σ H → g (.int (lo + i)) σ H fun σ2 H2 => tb { D with nx := Pv (i + 1), ct := Pv (i + 1), bk := D.nx } σ2 H2) (hd : ∀ σ H, Pv n σ H → D.nx σ H) :
    ∃ W : Nat → Nat → St → Hp → Prop, (∃ m, W 0 m σ H) ∧ ∀ i m σ H, W i m σ H →
      ((Itr lo n).stop i H ∧ D.nx σ H) ∨ ((Itr lo n).go i H ∧ ∃ N : St → Hp → Prop, (∀ σ' H', N σ' H' → ∃ m', m' < m ∧ W (i + 1) m' σ' H') ∧ ∀ x H', (Itr lo n).yld i H x H' → g x σ H' fun σ2 H2 => tb { D with nx := N, ct := N, bk := D.nx } σ2 H2) := by
  refine ⟨fun i m σ H => m = n - i ∧ i ≤ n ∧ Pv i σ H, ⟨n, by simp, Nat.zero_le _, h0⟩, ?_⟩
  rintro i m σ H ⟨rfl, hi, p⟩
  by_cases hlt : i < n
  · refine .inr ⟨hlt, Pv (i + 1), fun σ' H' p' => ⟨n - (i + 1), by omega, rfl, hlt, p'⟩, fun x H' y => ?_⟩
    obtain ⟨e, y⟩ := y
    subst e y
    exact hs i σ _ hlt p
  · have e : i = n := by omega
    subst e
    exact .inl ⟨Nat.le_refl _, hd σ H p⟩
/-- while, by a word and a measure of the state -/
theorem while_by {c : TT} {tb : TS} {D : Ends} {σ : St} {H : Hp} (Pv : St → Hp → Prop) (μ : St → Hp → Nat) (h0 : Pv σ H)
    (hs : ∀ σ H, Pv σ H → c σ H fun b H1 => if b = true then tb { D with nx := fun σ' H' => Pv σ' H' ∧ μ σ' H' < μ σ H, ct := fun σ' H' => Pv σ' H' ∧ μ σ' H' < μ σ H, bk := D.nx } σ H1 else D.nx σ H1)
    (mono : ∀ σ H Q Q', (∀ b H1, Q b H1 → Q' b H1) → c σ H Q → c σ H Q') : tWhile c tb D σ H := by
  refine ⟨fun m σ H => m = μ σ H ∧ Pv σ H, ⟨_, rfl, h0⟩, ?_⟩
  rintro m σ H ⟨rfl, p⟩
  refine mono σ H _ _ (fun b H1 q => ?_) (hs σ H p)
  cases b with
  | true => exact ⟨_, fun σ' H' ⟨p', l⟩ => ⟨_, l, rfl, p'⟩, q⟩
  | false => exact q
end L2

namespace L2
open PySem PySem.Spec PyProof.Rows

abbrev R2 := V → V → Hp → VK → Prop
/-- a two-place operation on values: f is binaryOp op, inplaceOp op or compareOp op -/
def OpR (X : Cx) (f : Value → Value → Sem Value) (r : R2) : Prop :=
  ∀ (pins : List (Addr × Obj)) (s : Shared) (σ : St) (H : Hp) (x y : V) (v u : Value) (Q : VK), Inv X pins σ H s → RelV x v → RelV y u → r x y H Q →
    wpAny (model X.prog X.w) X.A (f v u) (EP X pins σ Q) X.xe s
/-- a one-place operation -/
def UnR (X : Cx) (f : Value → Sem Value) (r : V → Hp → VK → Prop) : Prop :=
  ∀ (pins : List (Addr × Obj)) (s : Shared) (σ : St) (H : Hp) (x : V) (v : Value) (Q : VK), Inv X pins σ H s → RelV x v → r x H Q →
    wpAny (model X.prog X.w) X.A (f v) (EP X pins σ Q) X.xe s
/-- a call of a value that is known (a builtin, a type) with values -/
def CallR (X : Cx) (f : Value) (r : List V → Hp → VK → Prop) : Prop :=
  ∀ (pins : List (Addr × Obj)) (s : Shared) (σ : St) (H : Hp) (xs : List V) (us : List Value) (Q : VK), Inv X pins σ H s → Vals xs us → r xs H Q →
    wpAny (model X.prog X.w) X.A (call f us) (EP X pins σ Q) X.xe s
/-- a value's truth -/
def TruR (X : Cx) (r : V → Hp → (Bool → Hp → Prop) → Prop) : Prop :=
  ∀ (pins : List (Addr × Obj)) (s : Shared) (σ : St) (H : Hp) (x : V) (v : Value) (Q : Bool → Hp → Prop), Inv X pins σ H s → RelV x v → r x H Q →
    wpAny (model X.prog X.w) X.A (truthy v) (TP X pins σ Q) X.xe s

def tOp (r : R2) (ta tb : TE) : TE := fun σ H Q => ta σ H fun x H1 => tb σ H1 fun y H2 => r x y H2 Q
def tUn (r : V → Hp → VK → Prop) (ta : TE) : TE := fun σ H Q => ta σ H fun x H1 => r x H1 Q
/-- ints in, under C, and a value out -/
def rI (C : Int → Int → Prop) (g : Int → Int → V) : R2 := fun x y H Q => ∃ i j, x = .int i ∧ y = .int j ∧ C i j ∧ Q (g i j) H
def rI0 (g : Int → Int → V) : R2 := fun x y H Q => ∃ i j, x = .int i ∧ y = .int j ∧ Q (g i j) H
def rU (g : Int → V) : V → Hp → VK → Prop := fun x H Q => ∃ i, x = .int i ∧ Q (g i) H

section
variable {X : Cx} {a b c : Expr} {ta tb tc : TE} {pos : Pos}

theorem binT (ha : PE X a ta) (hb : PE X b tb) {pins : List (Addr × Obj)} {s : Shared} {σ : St} {H : Hp} {R : V → V → Hp → Prop} (I : Inv X pins σ H s)
    (h : ta σ H fun x H1 => tb σ H1 fun y H2 => R x y H2) {Q : Value → Shared → Prop} {f : Value → Value → Sem Value}
    (hf : ∀ v u s2 x y H2, Inv X pins σ H2 s2 → RelV x v → RelV y u → R x y H2 → wpAny (model X.prog X.w) X.A (f v u) Q X.xe s2) :
    wpAny (model X.prog X.w) X.A (eval a X.env) (fun v s₁ => wpAny (model X.prog X.w) X.A (eval b X.env) (fun u s₂ => wpAny (model X.prog X.w) X.A (f v u) Q X.xe s₂) X.xe s₁) X.xe s := by
  refine thn (ha pins s σ H _ I h) fun v s1 ⟨x, H1, I1, r1, q1⟩ => ?_
  refine thn (hb pins s1 σ H1 _ I1 q1) fun u s2 ⟨y, H2, I2, r2, q2⟩ => ?_
  exact hf v u s2 x y H2 I2 r1 r2 q2

theorem pe_op {op : Operator} {r : R2} (ho : OpR X (binaryOp op) r) (ha : PE X a ta) (hb : PE X b tb) : PE X (.BinOp a op b pos) (tOp r ta tb) := by
  intro pins s σ H Q I h
  exact wpAny_BinOp (binT ha hb I h fun v u s2 x y H2 I2 rx ry q => ho pins s2 σ H2 x y v u Q I2 rx ry q)
theorem pe_un {op : UnaryOp} {r : V → Hp → VK → Prop} (ho : UnR X (unaryOp op) r) (ha : PE X a ta) : PE X (.UnaryOp op a pos) (tUn r ta) := by
  intro pins s σ H Q I h
  exact UnaryOp_ (thn (ha pins s σ H _ I h) fun v s1 ⟨x, H1, I1, r1, q1⟩ => ho pins s1 σ H1 x v Q I1 r1 q1)
/-- a op= e at a name: the name's slot i -/
theorem augR {op : Operator} {r : R2} (ho : OpR X (inplaceOp op) r) {pins : List (Addr × Obj)} {s : Shared} {σ : St} {H : Hp} {x y : V} {v u : Value} {Q : VK} (I : Inv X pins σ H s)
    (rx : RelV x v) (ry : RelV y u) (q : r x y H Q) : wpAny (model X.prog X.w) X.A (inplaceOp op v u) (EP X pins σ Q) X.xe s := ho pins s σ H x y v u Q I rx ry q

/-! ### ints -/
theorem opI {f : Value → Value → Sem Value} {C : Int → Int → Prop} {g : Int → Int → Int}
    (rule : ∀ (i j : Int) (t u : Tok) (s : Shared) (Q : Value → Shared → Prop) (E : Value → Shared → Prop), C i j → Q (.int (g i j) s.toks) { s with toks := s.toks + 1 } → wpAny (model X.prog X.w) X.A (f (.int i t) (.int j u)) Q E s) :
    OpR X f (rI C fun i j => .int (g i j)) := by
  intro pins s σ H x y v u Q I rx ry h
  obtain ⟨i, j, rfl, rfl, hc, q⟩ := h
  obtain ⟨t, rfl⟩ := rx
  obtain ⟨t', rfl⟩ := ry
  exact rule i j t t' s _ _ hc ⟨.int (g i j), H, I.tok _, ⟨_, rfl⟩, q⟩
theorem opI0 {f : Value → Value → Sem Value} {g : Int → Int → Int}
    (rule : ∀ (i j : Int) (t u : Tok) (s : Shared) (Q : Value → Shared → Prop) (E : Value → Shared → Prop), Q (.int (g i j) s.toks) { s with toks := s.toks + 1 } → wpAny (model X.prog X.w) X.A (f (.int i t) (.int j u)) Q E s) :
    OpR X f (rI0 fun i j => .int (g i j)) := by
  intro pins s σ H x y v u Q I rx ry h
  obtain ⟨i, j, rfl, rfl, q⟩ := h
  obtain ⟨t, rfl⟩ := rx
  obtain ⟨t', rfl⟩ := ry
  exact rule i j t t' s _ _ ⟨.int (g i j), H, I.tok _, ⟨_, rfl⟩, q⟩
theorem opB0 {f : Value → Value → Sem Value} {g : Int → Int → Bool}
    (rule : ∀ (i j : Int) (t u : Tok) (s : Shared) (Q : Value → Shared → Prop) (E : Value → Shared → Prop), Q (.bool (g i j)) s → wpAny (model X.prog X.w) X.A (f (.int i t) (.int j u)) Q E s) :
    OpR X f (rI0 fun i j => .bl (g i j)) := by
  intro pins s σ H x y v u Q I rx ry h
  obtain ⟨i, j, rfl, rfl, q⟩ := h
  obtain ⟨t, rfl⟩ := rx
  obtain ⟨t', rfl⟩ := ry
  exact rule i j t t' s _ _ ⟨.bl (g i j), H, I, rfl, q⟩

def CDiv (i j : Int) : Prop := 0 < j ∧ j < 1073741824
def CDivN (i j : Int) : Prop := j ≠ 0 ∧ j.natAbs < 1073741824
def CPow (i j : Int) : Prop := 0 ≤ j ∧ j ≤ 1000000 ∧ i.natAbs < 2 ^ 64
def CMul (i j : Int) : Prop := (-(2 ^ 64) < i ∧ i < 2 ^ 64) ∨ (-(2 ^ 64) < j ∧ j < 2 ^ 64)
theorem CMul.ok {i j : Int} (h : CMul i j) : IntMulOk i j := by
  rcases h with ⟨h1, h2⟩ | ⟨h1, h2⟩
  · exact .of_left (intBits_le_64 h1 h2)
  · exact .of_right (intBits_le_64 h1 h2)
theorem two_pow_nn (k : Nat) : (0 : Int) ≤ 2 ^ k := by
  rw [two_pow_cast]
  exact Int.natCast_nonneg _

theorem op_add : OpR X (binaryOp .Add) (rI0 fun i j => .int (i + j)) := opI0 fun _ _ _ _ _ _ _ q => add_int q
theorem op_sub : OpR X (binaryOp .Sub) (rI0 fun i j => .int (i - j)) := opI0 fun _ _ _ _ _ _ _ q => sub_int q
theorem op_mul : OpR X (binaryOp .Mult) (rI CMul fun i j => .int (i * j)) := opI fun _ _ _ _ _ _ _ hc q => mul_int q hc.ok
/-- // by a positive divisor -/
theorem op_fdiv : OpR X (binaryOp .FloorDiv) (rI CDiv fun i j => .int (i / j)) := opI fun i j _ _ _ _ _ hc q => by
  have h1 : (0 : Int) < j := hc.1
  have h2 : j < 1073741824 := hc.2
  exact floordiv_int (by omega) (by rw [Int.fdiv_eq_ediv_of_nonneg i (by omega)]; exact q) (.inl (PyProof.noPylong_small (by omega)))
theorem op_fdivN : OpR X (binaryOp .FloorDiv) (rI CDivN fun i j => .int (i.fdiv j)) := opI fun _ _ _ _ _ _ _ hc q => floordiv_int hc.1 q (.inl (PyProof.noPylong_small hc.2))
/-- % by a positive divisor of any size -/
theorem op_mod : OpR X (binaryOp .Mod) (rI (fun _ j => 0 < j) fun i j => .int (i % j)) := opI fun i j _ _ _ _ _ hc q => by
  have h1 : (0 : Int) < j := hc
  exact mod_int' (by omega) (by rw [Int.fmod_eq_emod_of_nonneg i (by omega)]; exact q)
theorem op_modN : OpR X (binaryOp .Mod) (rI (fun _ j => j ≠ 0) fun i j => .int (i.fmod j)) := opI fun _ _ _ _ _ _ _ hc q => mod_int' hc q
theorem op_pow : OpR X (binaryOp .Pow) (rI CPow fun i j => .int (i ^ j.toNat)) := opI fun _ _ _ _ _ _ _ hc q => pow_int_small hc.1 hc.2.1 hc.2.2 q
theorem op_shl : OpR X (binaryOp .LShift) (rI CPow fun i j => .int (i * 2 ^ j.toNat)) := opI fun _ _ _ _ _ _ _ hc q => lshift_int_small hc.1 hc.2.1 hc.2.2 q
theorem op_shr : OpR X (binaryOp .RShift) (rI (fun _ j => 0 ≤ j) fun i j => .int (i / 2 ^ j.toNat)) := opI fun i j _ _ _ _ _ hc q =>
  rshift_int hc (by rw [Int.fdiv_eq_ediv_of_nonneg i (two_pow_nn _)]; exact q)
theorem op_and : OpR X (binaryOp .BitAnd) (rI0 fun i j => .int (Builtin.bitAnd i j)) := opI0 fun _ _ _ _ _ _ _ q => and_int q
theorem op_or : OpR X (binaryOp .BitOr) (rI0 fun i j => .int (Builtin.bitOr i j)) := opI0 fun _ _ _ _ _ _ _ q => or_int q
theorem op_xor : OpR X (binaryOp .BitXor) (rI0 fun i j => .int (Builtin.bitXor i j)) := opI0 fun _ _ _ _ _ _ _ q => xor_int q

theorem iop_add : OpR X (inplaceOp .Add) (rI0 fun i j => .int (i + j)) := opI0 fun _ _ _ _ _ _ _ q => iadd_int q
theorem iop_sub : OpR X (inplaceOp .Sub) (rI0 fun i j => .int (i - j)) := opI0 fun _ _ _ _ _ _ _ q => isub_int q
theorem iop_mul : OpR X (inplaceOp .Mult) (rI CMul fun i j => .int (i * j)) := opI fun _ _ _ _ _ _ _ hc q => imul_int q hc.ok
theorem iop_fdiv : OpR X (inplaceOp .FloorDiv) (rI CDiv fun i j => .int (i / j)) := opI fun i j _ _ _ _ _ hc q => by
  have h1 : (0 : Int) < j := hc.1
  have h2 : j < 1073741824 := hc.2
  exact ifloordiv_int (by omega) (by rw [Int.fdiv_eq_ediv_of_nonneg i (by omega)]; exact q) (.inl (PyProof.noPylong_small (by omega)))
theorem iop_mod : OpR X (inplaceOp .Mod) (rI (fun _ j => 0 < j) fun i j => .int (i % j)) := opI fun i j _ _ _ _ _ hc q => by
  have h1 : (0 : Int) < j := hc
  exact imod_int (by omega) (by rw [Int.fmod_eq_emod_of_nonneg i (by omega)]; exact q)
theorem iop_shl : OpR X (inplaceOp .LShift) (rI CPow fun i j => .int (i * 2 ^ j.toNat)) := opI fun _ _ _ _ _ _ _ hc q => ilshift_int_small hc.1 hc.2.1 hc.2.2 q
theorem iop_shr : OpR X (inplaceOp .RShift) (rI (fun _ j => 0 ≤ j) fun i j => .int (i / 2 ^ j.toNat)) := opI fun i j _ _ _ _ _ hc q =>
  irshift_int hc (by rw [Int.fdiv_eq_ediv_of_nonneg i (two_pow_nn _)]; exact q)
theorem iop_and : OpR X (inplaceOp .BitAnd) (rI0 fun i j => .int (Builtin.bitAnd i j)) := opI0 fun _ _ _ _ _ _ _ q => iand_int q
theorem iop_or : OpR X (inplaceOp .BitOr) (rI0 fun i j => .int (Builtin.bitOr i j)) := opI0 fun _ _ _ _ _ _ _ q => ior_int q
theorem iop_xor : OpR X (inplaceOp .BitXor) (rI0 fun i j => .int (Builtin.bitXor i j)) := opI0 fun _ _ _ _ _ _ _ q => ixor_int q

theorem unI {f : Value → Sem Value} {g : Int → Int}
    (rule : ∀ (i : Int) (t : Tok) (s : Shared) (Q : Value → Shared → Prop) (E : Value → Shared → Prop), Q (.int (g i) s.toks) { s with toks := s.toks + 1 } → wpAny (model X.prog X.w) X.A (f (.int i t)) Q E s) :
    UnR X f (rU fun i => .int (g i)) := by
  intro pins s σ H x v Q I rx h
  obtain ⟨i, rfl, q⟩ := h
  obtain ⟨t, rfl⟩ := rx
  exact rule i t s _ _ ⟨.int (g i), H, I.tok _, ⟨_, rfl⟩, q⟩
theorem un_neg : UnR X (unaryOp .USub) (rU fun i => .int (-i)) := unI fun _ _ _ _ _ q => neg_int q
theorem un_inv : UnR X (unaryOp .Invert) (rU fun i => .int (Builtin.bitNot i)) := unI fun _ _ _ _ _ q => invert_int q

/-! ### bools among ints: n += (a < b) -/
theorem op_add_ib : OpR X (binaryOp .Add) (fun x y H Q => ∃ i k, x = .int i ∧ y = .bl k ∧ Q (.int (i + b2i k)) H) := by
  intro pins s σ H x y v u Q I rx ry h
  obtain ⟨i, k, rfl, rfl, q⟩ := h
  obtain ⟨t, rfl⟩ := rx
  cases ry
  exact add_int_bool ⟨.int (i + b2i k), H, I.tok _, ⟨_, rfl⟩, q⟩
end

/-! ### comparisons -/
/-- the scalars that == tells apart as data does -/
def scal : V → V → Bool
  | .non, .non => true | .non, .int _ => true | .int _, .non => true | .non, .bl _ => true | .bl _, .non => true | .non, .str _ => true | .str _, .non => true
  | .int _, .int _ => true | .bl _, .bl _ => true | .str _, .str _ => true | .byt _, .byt _ => true
  | .int _, .str _ => true | .str _, .int _ => true | .bl _, .str _ => true | .str _, .bl _ => true
  | _, _ => false
def rEq : R2 := fun x y H Q => scal x y = true ∧ Q (.bl (decide (x = y))) H
def rNe : R2 := fun x y H Q => scal x y = true ∧ Q (.bl (!decide (x = y))) H

theorem dec_int {i j : Int} : decide (V.int i = V.int j) = (i == j) := by
  rw [Bool.eq_iff_iff]
  simp
theorem dec_bl {i j : Bool} : decide (V.bl i = V.bl j) = (i == j) := by
  rw [Bool.eq_iff_iff]
  simp
theorem dec_str {i j : Str} : decide (V.str i = V.str j) = (i == j) := by
  rw [Bool.eq_iff_iff]
  simp
theorem dec_byt {i j : Array UInt8} : decide (V.byt i = V.byt j) = (i.toList == j.toList) := by
  rw [Bool.eq_iff_iff]
  cases i
  cases j
  simp

section
variable {X : Cx} {a b c : Expr} {ta tb tc : TE} {pos : Pos}
theorem fin_bl {pins : List (Addr × Obj)} {σ : St} {H : Hp} {s : Shared} {Q : VK} {k k' : Bool} (I : Inv X pins σ H s) (q : Q (.bl k) H) (e : k = k') : EP X pins σ Q (.bool k') s := by
  subst e
  exact ⟨.bl k, H, I, rfl, q⟩
theorem op_eq : OpR X (compareOp .Eq) rEq := by
  intro pins s σ H x y v u Q I rx ry h
  obtain ⟨hs, q⟩ := h
  cases x with
  | non =>
    cases rx
    cases y with
    | non => cases ry; exact PySem.EqNone.eq_none_none (fin_bl I q (by simp))
    | bl j => cases ry; exact PySem.EqNone.eq_none_bool (fin_bl I q (by simp))
    | int j => obtain ⟨t', rfl⟩ := ry; exact PySem.EqNone.eq_none_int (fin_bl I q (by simp))
    | str j => obtain ⟨t', rfl⟩ := ry; exact PySem.EqNone.eq_none_str (fin_bl I q (by simp))
    | _ => exact absurd (show false = true from hs) Bool.false_ne_true
  | bl i =>
    cases rx
    cases y with
    | non => cases ry; exact PySem.EqNone.eq_bool_none (fin_bl I q (by simp))
    | bl j => cases ry; exact eq_bool (fin_bl I q dec_bl)
    | str j => obtain ⟨t', rfl⟩ := ry; exact PySem.EqMixed.eq_bool_str (fin_bl I q (by simp))
    | _ => exact absurd (show false = true from hs) Bool.false_ne_true
  | int i =>
    obtain ⟨t, rfl⟩ := rx
    cases y with
    | non => cases ry; exact PySem.EqNone.eq_int_none (fin_bl I q (by simp))
    | int j => obtain ⟨t', rfl⟩ := ry; exact eq_int (fin_bl I q dec_int)
    | str j => obtain ⟨t', rfl⟩ := ry; exact PySem.EqMixed.eq_int_str (fin_bl I q (by simp))
    | _ => exact absurd (show false = true from hs) Bool.false_ne_true
  | str i =>
    obtain ⟨t, rfl⟩ := rx
    cases y with
    | non => cases ry; exact PySem.EqNone.eq_str_none (fin_bl I q (by simp))
    | bl j => cases ry; exact PySem.EqMixed.eq_str_bool (fin_bl I q (by simp))
    | int j => obtain ⟨t', rfl⟩ := ry; exact PySem.EqMixed.eq_str_int (fin_bl I q (by simp))
    | str j => obtain ⟨t', rfl⟩ := ry; exact eq_str (fin_bl I q dec_str)
    | _ => exact absurd (show false = true from hs) Bool.false_ne_true
  | byt i =>
    obtain ⟨t, rfl⟩ := rx
    cases y with
    | byt j => obtain ⟨t', rfl⟩ := ry; exact PySem.W.eq_bytes (fin_bl I q dec_byt)
    | _ => exact absurd (show false = true from hs) Bool.false_ne_true
  | _ => cases y <;> exact absurd (show false = true from hs) Bool.false_ne_true
theorem op_ne : OpR X (compareOp .NotEq) rNe := by
  intro pins s σ H x y v u Q I rx ry h
  obtain ⟨hs, q⟩ := h
  cases x with
  | non =>
    cases rx
    cases y with
    | non => cases ry; exact PySem.EqNone.ne_none_none (fin_bl I q (by simp))
    | bl j => cases ry; exact PySem.EqNone.ne_none_bool (fin_bl I q (by simp))
    | int j => obtain ⟨t', rfl⟩ := ry; exact PySem.EqNone.ne_none_int (fin_bl I q (by simp))
    | str j => obtain ⟨t', rfl⟩ := ry; exact PySem.EqNone.ne_none_str (fin_bl I q (by simp))
    | _ => exact absurd (show false = true from hs) Bool.false_ne_true
  | bl i =>
    cases rx
    cases y with
    | non => cases ry; exact PySem.EqNone.ne_bool_none (fin_bl I q (by simp))
    | bl j => cases ry; exact ne_bool (fin_bl I q (congrArg not dec_bl))
    | str j => obtain ⟨t', rfl⟩ := ry; exact PySem.EqMixed.ne_bool_str (fin_bl I q (by simp))
    | _ => exact absurd (show false = true from hs) Bool.false_ne_true
  | int i =>
    obtain ⟨t, rfl⟩ := rx
    cases y with
    | non => cases ry; exact PySem.EqNone.ne_int_none (fin_bl I q (by simp))
    | int j => obtain ⟨t', rfl⟩ := ry; exact ne_int (fin_bl I q (congrArg not dec_int))
    | str j => obtain ⟨t', rfl⟩ := ry; exact PySem.EqMixed.ne_int_str (fin_bl I q (by simp))
    | _ => exact absurd (show false = true from hs) Bool.false_ne_true
  | str i =>
    obtain ⟨t, rfl⟩ := rx
    cases y with
    | non => cases ry; exact PySem.EqNone.ne_str_none (fin_bl I q (by simp))
    | bl j => cases ry; exact PySem.EqMixed.ne_str_bool (fin_bl I q (by simp))
    | int j => obtain ⟨t', rfl⟩ := ry; exact PySem.EqMixed.ne_str_int (fin_bl I q (by simp))
    | str j => obtain ⟨t', rfl⟩ := ry; exact ne_str (fin_bl I q (congrArg not dec_str))
    | _ => exact absurd (show false = true from hs) Bool.false_ne_true
  | byt i =>
    obtain ⟨t, rfl⟩ := rx
    cases y with
    | byt j => obtain ⟨t', rfl⟩ := ry; exact PySem.W.ne_bytes (fin_bl I q (congrArg not dec_byt))
    | _ => exact absurd (show false = true from hs) Bool.false_ne_true
  | _ => cases y <;> exact absurd (show false = true from hs) Bool.false_ne_true

theorem op_lt : OpR X (compareOp .Lt) (rI0 fun i j => .bl (decide (i < j))) := opB0 fun _ _ _ _ _ _ _ q => lt_int q
theorem op_le : OpR X (compareOp .LtE) (rI0 fun i j => .bl (decide (i ≤ j))) := opB0 fun _ _ _ _ _ _ _ q => le_int q
theorem op_gt : OpR X (compareOp .Gt) (rI0 fun i j => .bl (decide (j < i))) := opB0 fun _ _ _ _ _ _ _ q => gt_int q
theorem op_ge : OpR X (compareOp .GtE) (rI0 fun i j => .bl (decide (j ≤ i))) := opB0 fun _ _ _ _ _ _ _ q => ge_int q
theorem op_lt_str : OpR X (compareOp .Lt) (fun x y H Q => ∃ i j, x = .str i ∧ y = .str j ∧ Q (.bl (decide (i.cps.toList < j.cps.toList))) H) := by
  intro pins s σ H x y v u Q I rx ry h
  obtain ⟨i, j, rfl, rfl, q⟩ := h
  obtain ⟨t, rfl⟩ := rx
  obtain ⟨t', rfl⟩ := ry
  exact lt_str (fin_bl I q rfl)
/-- the one string within the other -/
theorem op_in_str : OpR X (compareOp .In) (fun x y H Q => ∃ i j, x = .str i ∧ y = .str j ∧ Q (.bl (!(Builtin.Str.occurrences j i 0 j.length 1).isEmpty)) H) := by
  intro pins s σ H x y v u Q I rx ry h
  obtain ⟨i, j, rfl, rfl, q⟩ := h
  obtain ⟨t, rfl⟩ := rx
  obtain ⟨t', rfl⟩ := ry
  exact in_str (fin_bl I q rfl)

/-- is None, is not None: the right side a value none -/
theorem op_isN : OpR X (compareOp .Is) (fun x y H Q => y = .non ∧ Q (.bl (decide (x = .non))) H) := by
  intro pins s σ H x y v u Q I rx ry h
  obtain ⟨rfl, q⟩ := h
  cases ry
  refine is_none_gen (fin_bl I q ?_)
  cases x <;> first
    | (cases rx; rfl)
    | (obtain ⟨t, rfl⟩ := rx; rfl)
theorem op_notN : OpR X (compareOp .IsNot) (fun x y H Q => y = .non ∧ Q (.bl (!decide (x = .non))) H) := by
  intro pins s σ H x y v u Q I rx ry h
  obtain ⟨rfl, q⟩ := h
  cases ry
  refine isnot_none_gen (fin_bl I q ?_)
  cases x <;> first
    | (cases rx; rfl)
    | (obtain ⟨t, rfl⟩ := rx; rfl)

theorem op_notin_str : OpR X (compareOp .NotIn) (fun x y H Q => ∃ i j, x = .str i ∧ y = .str j ∧ Q (.bl (!(!(Builtin.Str.occurrences j i 0 j.length 1).isEmpty))) H) := by
  intro pins s σ H x y v u Q I rx ry h
  obtain ⟨i, j, rfl, rfl, q⟩ := h
  obtain ⟨t, rfl⟩ := rx
  obtain ⟨t', rfl⟩ := ry
  exact notIn_str (fin_bl I q rfl)
/-- is, is not of two objects that are tracked lists or instances -/
def isObj : HO → Bool
  | .lst _ => true
  | .ins _ _ _ => true
  | _ => false
theorem obj_there {pins : List (Addr × Obj)} {s : Shared} {σ : St} {H : Hp} {a : Addr} {o : HO} (I : Inv X pins σ H s) (h : H a = some o) (p : isObj o = true) : ∃ ob, s.heap.get? a = some ob ∧ ob.cls ≠ .type "tuple" := by
  cases o with
  | lst xs =>
    obtain ⟨_, its, n, _, e⟩ : xs.length ≤ sizeLine ∧ ∃ (its : List Value) (n : Nat), Vals xs its ∧ s.heap.get? a = some { cls := .type "list", data := .seq its.toArray n } := I.hok a _ h
    exact ⟨_, e, (by show Value.type "list" ≠ .type "tuple"; decide +kernel)⟩
  | ins C dx fs =>
    have x := I.hok a _ h
    obtain ⟨_, _, _, e, _⟩ := x
    exact ⟨_, e, (by show Value.ref C ≠ .type "tuple"; exact fun z => by cases z)⟩
  | _ => exact absurd (show false = true from p) Bool.false_ne_true
theorem op_is_ref : OpR X (compareOp .Is) (fun x y H Q => ∃ a b oa ob, x = .ref a ∧ y = .ref b ∧ H a = some oa ∧ isObj oa = true ∧ H b = some ob ∧ isObj ob = true ∧ Q (.bl (decide (a = b))) H) := by
  intro pins s σ H x y v u Q I rx ry h
  obtain ⟨a, b, oa, ob, rfl, rfl, ha, pa, hb, pb, q⟩ := h
  cases rx
  cases ry
  obtain ⟨o1, e1, n1⟩ := obj_there I ha pa
  obtain ⟨o2, e2, _⟩ := obj_there I hb pb
  by_cases z : a = b
  · subst z
    exact wpAny_is_ref_self (fin_bl I q (by simp))
  · exact wpAny_is_ref_other z e1 e2 n1 (fin_bl I q (by simp [z]))
theorem op_isnot_ref : OpR X (compareOp .IsNot) (fun x y H Q => ∃ a b oa ob, x = .ref a ∧ y = .ref b ∧ H a = some oa ∧ isObj oa = true ∧ H b = some ob ∧ isObj ob = true ∧ Q (.bl (!decide (a = b))) H) := by
  intro pins s σ H x y v u Q I rx ry h
  obtain ⟨a, b, oa, ob, rfl, rfl, ha, pa, hb, pb, q⟩ := h
  cases rx
  cases ry
  obtain ⟨o1, e1, n1⟩ := obj_there I ha pa
  obtain ⟨o2, e2, _⟩ := obj_there I hb pb
  by_cases z : a = b
  · subst z
    exact wpAny_isNot_ref_self (fin_bl I q (by simp))
  · exact wpAny_isNot_ref_other z e1 e2 n1 (fin_bl I q (by simp [z]))

/-- two rules for one operation: by cases -/
theorem OpR.or {f : Value → Value → Sem Value} {r r' : R2} (h : OpR X f r) (h' : OpR X f r') : OpR X f (fun x y H Q => r x y H Q ∨ r' x y H Q) := by
  intro pins s σ H x y v u Q I rx ry q
  rcases q with q | q
  · exact h pins s σ H x y v u Q I rx ry q
  · exact h' pins s σ H x y v u Q I rx ry q

theorem nomark (b : Expr) {op : CmpOp} (h : op ≠ .In := by decide) (h2 : op ≠ .NotIn := by decide) : behindInMarks op b = false := by
  have e1 : (op == CmpOp.In) = false := by cases op <;> first | rfl | exact absurd rfl h
  have e2 : (op == CmpOp.NotIn) = false := by cases op <;> first | rfl | exact absurd rfl h2
  cases b <;> simp [behindInMarks, e1, e2]
/-- a comparison as a value; hm: nomark b, or (for in, not in) by with_unfolding_all rfl -/
theorem pe_cmpR {op : CmpOp} {r : R2} (ho : OpR X (compareOp op) r) (ha : PE X a ta) (hb : PE X b tb) (hm : behindInMarks op b = false) : PE X (.Compare a [op] [b] pos) (tOp r ta tb) := by
  intro pins s σ H Q I h
  exact wpAny_Compare1 (binT ha hb I h fun v u s2 x y H2 I2 rx ry q => ho pins s2 σ H2 x y v u Q I2 rx ry q) hm
/-- a reading of a value as a test -/
def tTest (t : TE) : TT := fun σ H Q => t σ H fun x H' => ∃ k, x = .bl k ∧ Q k H'
theorem pt_cmpR {op : CmpOp} {r : R2} (ho : OpR X (compareOp op) r) (ha : PE X a ta) (hb : PE X b tb) (hm : behindInMarks op b = false) : PT X (.Compare a [op] [b] pos) (tTest (tOp r ta tb)) := by
  intro pins s σ H Q I h
  refine wpAny_isTrue_Compare1 (thn (ha pins s σ H _ I h) fun v s1 ⟨x, H1, I1, r1, q1⟩ => thn (hb pins s1 σ H1 _ I1 q1) fun u s2 ⟨y, H2, I2, r2, q2⟩ =>
    thn (ho pins s2 σ H2 x y v u _ I2 r1 r2 q2) fun c s3 ⟨z, H3, I3, r3, k, e, q3⟩ => ?_) hm
  subst e
  cases r3
  exact wpAny_truthy_bool ⟨H3, I3, q3⟩
/-- a op1 b op2 c -/
def tChain (r r' : R2) (ta tb tc : TE) : TE := fun σ H Q => ta σ H fun x H1 => tb σ H1 fun y H2 => r x y H2 fun z H3 => ∃ k, z = .bl k ∧
  (if k = true then tc σ H3 fun w' H4 => r' y w' H4 Q else Q (.bl false) H3)
theorem pe_chain {op op' : CmpOp} {r r' : R2} (ho : OpR X (compareOp op) r) (ho' : OpR X (compareOp op') r') (ha : PE X a ta) (hb : PE X b tb) (hc : PE X c tc)
    (hm : lastMarks [op, op'] [b, c] = false := by with_unfolding_all rfl) : PE X (.Compare a [op, op'] [b, c] pos) (tChain r r' ta tb tc) := by
  intro pins s σ H Q I h
  refine Compare_chain (thn (ha pins s σ H _ I h) fun v s1 ⟨x, H1, I1, r1, q1⟩ => chain_link (thn (hb pins s1 σ H1 _ I1 q1) fun u s2 ⟨y, H2, I2, r2, q2⟩ =>
    thn (ho pins s2 σ H2 x y v u _ I2 r1 r2 q2) fun d s3 ⟨z, H3, I3, r3, k, e, q3⟩ => ?_)) hm
  subst e
  cases r3
  refine wpAny_truthy_bool ?_
  cases k with
  | false => exact ite_ff ⟨.bl false, H3, I3, rfl, q3⟩
  | true => exact ite_tt (chain_last (thn (hc pins s3 σ H3 _ I3 q3) fun w' s4 ⟨z', H4, I4, r4, q4⟩ => ho' pins s4 σ H4 y z' u w' Q I4 r2 r4 q4))
theorem pt_chain {op op' : CmpOp} {r r' : R2} (ho : OpR X (compareOp op) r) (ho' : OpR X (compareOp op') r') (ha : PE X a ta) (hb : PE X b tb) (hc : PE X c tc)
    (hm : lastMarks [op, op'] [b, c] = false := by with_unfolding_all rfl) : PT X (.Compare a [op, op'] [b, c] pos) (tTest (tChain r r' ta tb tc)) := by
  intro pins s σ H Q I h
  refine isTrue_chain (thn (ha pins s σ H _ I h) fun v s1 ⟨x, H1, I1, r1, q1⟩ => test_link (thn (hb pins s1 σ H1 _ I1 q1) fun u s2 ⟨y, H2, I2, r2, q2⟩ =>
    thn (ho pins s2 σ H2 x y v u _ I2 r1 r2 q2) fun d s3 ⟨z, H3, I3, r3, k, e, q3⟩ => ?_)) hm
  subst e
  cases r3
  refine wpAny_truthy_bool ?_
  cases k with
  | false =>
    obtain ⟨k', e', q'⟩ := q3
    cases e'
    exact ite_ff ⟨H3, I3, q'⟩
  | true =>
    refine ite_tt (test_last (thn (hc pins s3 σ H3 _ I3 q3) fun w' s4 ⟨z', H4, I4, r4, q4⟩ => thn (ho' pins s4 σ H4 y z' u w' _ I4 r2 r4 q4) fun d' s5 ⟨z2, H5, I5, r5, k2, e2, q5⟩ => ?_))
    subst e2
    cases r5
    exact wpAny_truthy_bool ⟨H5, I5, q5⟩

/-! ### truth -/
/-- a value's truth by the abstract heap -/
def TruV (K : PySem.W.Frag) (x : V) (H : Hp) (k : Bool) : Prop :=
  match x with
  | .non => k = false
  | .bl b => k = b
  | .int i => k = (i != 0)
  | .str y => y.length ≤ sizeLine ∧ k = ((y.length : Int) != 0)
  | .byt y => y.size ≤ sizeLine ∧ k = ((y.size : Int) != 0)
  | .ref p => (∃ xs, SqL K H p xs ∧ k = !xs.isEmpty) ∨ (∃ xs, SqT K H p xs ∧ k = !xs.isEmpty) ∨ ∃ kvs, H p = some (.dK kvs) ∧ k = !kvs.isEmpty
  | _ => False
theorem isEmpty_kv {κ : Type} {kvs : List (κ × V)} {vs : List (κ × Value)} (r : KV kvs vs) : (!vs.isEmpty) = !kvs.isEmpty := by
  cases r <;> rfl
theorem isEmpty_of {xs : List V} {its : List Value} (r : Vals xs its) : (!its.toArray.isEmpty) = !xs.isEmpty := by
  cases r <;> simp
theorem line63 : (sizeLine : Nat) < 2 ^ 63 := by rw [sizeLine_eq]; decide
theorem tru_ok : TruR X (fun x H Q => ∃ k, TruV X.K x H k ∧ Q k H) := by
  intro pins s σ H x v Q I rx h
  obtain ⟨k, e, q⟩ := h
  have hl := line63
  have hs : sizeLine = 16777216 := sizeLine_eq
  cases x with
  | non =>
    cases rx
    have e' : k = false := e
    subst e'
    exact truthy_none ⟨H, I, q⟩
  | bl b =>
    cases rx
    have e' : k = b := e
    subst e'
    exact wpAny_truthy_bool ⟨H, I, q⟩
  | int i =>
    obtain ⟨t, rfl⟩ := rx
    have e' : k = (i != 0) := e
    subst e'
    exact PySem.P.truthy_int ⟨H, I, q⟩
  | str y =>
    obtain ⟨t, rfl⟩ := rx
    obtain ⟨hy, e'⟩ : y.length ≤ sizeLine ∧ k = ((y.length : Int) != 0) := e
    subst e'
    exact PySem.P.truthy_str (by omega) ⟨H, I.tok _, q⟩
  | byt y =>
    obtain ⟨t, rfl⟩ := rx
    obtain ⟨hy, e'⟩ : y.size ≤ sizeLine ∧ k = ((y.size : Int) != 0) := e
    subst e'
    exact PySem.W.truthy_bytes (by omega) ⟨H, I.tok _, q⟩
  | ref p =>
    cases rx
    have e' : (∃ xs, SqL X.K H p xs ∧ k = !xs.isEmpty) ∨ (∃ xs, SqT X.K H p xs ∧ k = !xs.isEmpty) ∨ ∃ kvs, H p = some (.dK kvs) ∧ k = !kvs.isEmpty := e
    rcases e' with ⟨xs, hx, e'⟩ | ⟨xs, hx, e'⟩ | ⟨kvs, hx, e'⟩
    · subst e'
      obtain ⟨its, r, pl, hz⟩ := I.list hx
      have hlen := r.length
      exact wpAny_truthy_list pl.isList (by simp only [List.size_toArray]; omega) ⟨H, I.tok _, by rw [isEmpty_of r]; exact q⟩
    · subst e'
      obtain ⟨its, r, pl, hz⟩ := I.tuple hx
      have hlen := r.length
      exact truthy_tuple pl (by simp only [List.size_toArray]; omega) ⟨H, I.tok _, by rw [isEmpty_of r]; exact q⟩
    · subst e'
      obtain ⟨hz, hS, vs, r, m⟩ : kvs.length ≤ sizeLine ∧ (p == sysModules) = false ∧ ∃ vs, KV kvs vs ∧ s.heap.DictOf (mixKind X.prog X.w) p vs := I.hok p _ hx
      have hlen : kvs.length = vs.length := Paired.length r
      exact wpAny_truthy_dict hS m (by omega) ⟨H, I.tok _, by rw [isEmpty_kv r]; exact q⟩
  | _ => exact (show False from e).elim
/-- any expression whose test is its value's truth (a name, a call, a subscript, a field ..: he by fun _ => rfl) -/
theorem pt_truth (ha : PE X a ta) (he : ∀ whole, isTrue a X.env whole = (do let v ← whole; standAt a.pos; holding [v] (truthy v))) :
    PT X a (fun σ H Q => ta σ H fun x H' => ∃ k, TruV X.K x H' k ∧ Q k H') := by
  intro pins s σ H Q I h
  exact isTrue_plain (thn (ha pins s σ H _ I h) fun v s1 ⟨x, H1, I1, r1, q1⟩ => tru_ok pins s1 σ H1 x v Q I1 r1 q1) (he _)

/-! ### strs and bytes -/
theorem pe_byt {x : List UInt8} {k : Nat} : PE X (.Constant (.bytes x) k pos) (fun _ H Q => Q (.byt x.toArray) H) := fun _ _ _ H _ I h => PySem.W.Constant_bytes ⟨.byt x.toArray, H, I.tok _, ⟨_, rfl⟩, h⟩
theorem op_add_str : OpR X (binaryOp .Add) (fun x y H Q => ∃ i j, x = .str i ∧ y = .str j ∧ i.length + j.length ≤ sizeLine ∧ Q (.str (i ++ j)) H) := by
  intro pins s σ H x y v u Q I rx ry h
  obtain ⟨i, j, rfl, rfl, hz, q⟩ := h
  obtain ⟨t, rfl⟩ := rx
  obtain ⟨t', rfl⟩ := ry
  exact add_str (fun t' tk => ⟨.str (i ++ j), H, I.tok _, ⟨_, rfl⟩, q⟩) hz
theorem iop_add_str : OpR X (inplaceOp .Add) (fun x y H Q => ∃ i j, x = .str i ∧ y = .str j ∧ i.length + j.length ≤ sizeLine ∧ Q (.str (i ++ j)) H) := by
  intro pins s σ H x y v u Q I rx ry h
  obtain ⟨i, j, rfl, rfl, hz, q⟩ := h
  obtain ⟨t, rfl⟩ := rx
  obtain ⟨t', rfl⟩ := ry
  exact iadd_str (fun t' tk => ⟨.str (i ++ j), H, I.tok _, ⟨_, rfl⟩, q⟩) hz
theorem op_add_byt : OpR X (binaryOp .Add) (fun x y H Q => ∃ i j, x = .byt i ∧ y = .byt j ∧ i.size + j.size ≤ 16777216 ∧ Q (.byt (i ++ j)) H) := by
  intro pins s σ H x y v u Q I rx ry h
  obtain ⟨i, j, rfl, rfl, hz, q⟩ := h
  obtain ⟨t, rfl⟩ := rx
  obtain ⟨t', rfl⟩ := ry
  exact PySem.W.KBy.add_bytes hz (fun t' tk => ⟨.byt (i ++ j), H, I.tok _, ⟨_, rfl⟩, q⟩)

def PlainIxT (b : Expr) : Prop := ∀ o i, subscripted b false o i = operate [o, i] (getItem o i)
/-- s[i], 0 ≤ i < len -/
theorem pe_item_str (ha : PE X a ta) (hb : PE X b tb) (hs : PlainIxT b) :
    PE X (.Subscript a b pos) (tOp (fun x y H Q => ∃ z i c, x = .str z ∧ y = .int i ∧ 0 ≤ i ∧ i < 2 ^ 63 ∧ i < z.length ∧ z.cps[i.toNat]? = some c ∧ Q (.str ⟨#[c]⟩) H) ta tb) := by
  intro pins s σ H Q I h
  refine Subscript_ (binT ha hb I h fun v u s2 x y H2 I2 rx ry q => ?_)
  obtain ⟨z, i, c, rfl, rfl, h0, h63, h1, hc, q⟩ := q
  obtain ⟨t, rfl⟩ := rx
  obtain ⟨t', rfl⟩ := ry
  have e : seqIndex? i z.length = some i.toNat := PySem.StrLaws.seqIndex_nonneg h0 h1
  exact tail_any (typeIs_str s2 z t) slot_str_getitem.lookup (getItem_str (c := c) (by
    have e1 : decide (i < -(2 ^ 63 : Int)) = false := decide_eq_false (by omega)
    have e2 : decide (i ≥ 2 ^ 63) = false := decide_eq_false (by omega)
    rw [e1, e2] <;> rfl) (by rw [e]; exact hc) ⟨.str ⟨#[c]⟩, H2, I2.tok _, ⟨_, rfl⟩, q⟩) (hs _ _)
/-- b[i], 0 ≤ i < len -/
theorem pe_item_byt (ha : PE X a ta) (hb : PE X b tb) (hs : PlainIxT b) :
    PE X (.Subscript a b pos) (tOp (fun x y H Q => ∃ (z : List UInt8) (i : Int), x = .byt z.toArray ∧ y = .int i ∧ z.length ≤ sizeLine ∧ 0 ≤ i ∧ i < z.length ∧ Q (.int ((z.getD i.toNat 0).toNat : Nat)) H) ta tb) := by
  intro pins s σ H Q I h
  refine Subscript_ (binT ha hb I h fun v u s2 x y H2 I2 rx ry q => ?_)
  obtain ⟨z, i, rfl, rfl, hz, h0, h1, q⟩ := q
  obtain ⟨t, rfl⟩ := rx
  obtain ⟨t', rfl⟩ := ry
  have hl : sizeLine = 16777216 := sizeLine_eq
  exact tail_any (PySem.W.typeIs_bytes s2 z.toArray t) PySem.W.FB.slot_bytes_getitem.lookup (PySem.W.getItem_bytes (by omega) h0 h1 ⟨.int ((z.getD i.toNat 0).toNat : Nat), H2, I2.tok _, ⟨_, rfl⟩, q⟩) (hs _ _)

/-! ### scalar builtins, by CallR -/
theorem vals1 {x : V} {us : List Value} (r : Vals [x] us) : ∃ u, us = [u] ∧ RelV x u := by
  cases r with
  | cons r1 r2 => cases r2; exact ⟨_, rfl, r1⟩
theorem vals2 {x y : V} {us : List Value} (r : Vals [x, y] us) : ∃ u w', us = [u, w'] ∧ RelV x u ∧ RelV y w' := by
  cases r with
  | cons r1 r2 =>
    cases r2 with
    | cons r3 r4 => cases r4; exact ⟨_, _, rfl, r1, r3⟩
theorem call_abs : CallR X (.builtin "abs") (fun xs H Q => ∃ i, xs = [.int i] ∧ Q (.int (if i < 0 then -i else i)) H) := by
  intro pins s σ H xs us Q I r h
  obtain ⟨i, rfl, q⟩ := h
  obtain ⟨u, rfl, t, rfl⟩ := vals1 r
  exact call_abs_int fun u tk => ⟨.int (if i < 0 then -i else i), H, I.tok _, ⟨_, rfl⟩, q⟩
theorem call_max2 (hc : X.calm = true) : CallR X (.builtin "max") (fun xs H Q => ∃ i j, xs = [.int i, .int j] ∧ Q (.int (if j > i then j else i)) H) := by
  intro pins s σ H xs us Q I r h
  obtain ⟨i, j, rfl, q⟩ := h
  obtain ⟨u, w', rfl, ⟨t, rfl⟩, ⟨t', rfl⟩⟩ := vals2 r
  refine max_two_ints (I.ok.hd hc) fun h' tk k => ⟨_, H, I.kept k, ?_, q⟩
  by_cases hj : j > i
  · rw [if_pos hj, if_pos hj]; exact ⟨_, rfl⟩
  · rw [if_neg hj, if_neg hj]; exact ⟨_, rfl⟩
theorem call_min2 (hc : X.calm = true) : CallR X (.builtin "min") (fun xs H Q => ∃ i j, xs = [.int i, .int j] ∧ Q (.int (if j < i then j else i)) H) := by
  intro pins s σ H xs us Q I r h
  obtain ⟨i, j, rfl, q⟩ := h
  obtain ⟨u, w', rfl, ⟨t, rfl⟩, ⟨t', rfl⟩⟩ := vals2 r
  refine min_two_ints (I.ok.hd hc) fun h' tk k => ⟨_, H, I.kept k, ?_, q⟩
  by_cases hj : j < i
  · rw [if_pos hj, if_pos hj]; exact ⟨_, rfl⟩
  · rw [if_neg hj, if_neg hj]; exact ⟨_, rfl⟩
theorem call_int1 : CallR X (.type "int") (fun xs H Q => (∃ i, xs = [.int i] ∧ Q (.int i) H) ∨ ∃ k, xs = [.bl k] ∧ Q (.int (if k then 1 else 0)) H) := by
  intro pins s σ H xs us Q I r h
  rcases h with ⟨i, rfl, q⟩ | ⟨k, rfl, q⟩
  · obtain ⟨u, rfl, t, rfl⟩ := vals1 r
    exact call_int_int ⟨.int i, H, I, ⟨_, rfl⟩, q⟩
  · obtain ⟨u, rfl, r1⟩ := vals1 r
    cases r1
    exact call_int_bool ⟨.int (if k then 1 else 0), H, I.tok _, ⟨_, rfl⟩, q⟩
theorem call_bool1 : CallR X (.type "bool") (fun xs H Q => (∃ i, xs = [.int i] ∧ Q (.bl (i != 0)) H) ∨ ∃ k, xs = [.bl k] ∧ Q (.bl k) H) := by
  intro pins s σ H xs us Q I r h
  rcases h with ⟨i, rfl, q⟩ | ⟨k, rfl, q⟩
  · obtain ⟨u, rfl, t, rfl⟩ := vals1 r
    exact call_bool_int ⟨.bl (i != 0), H, I, rfl, q⟩
  · obtain ⟨u, rfl, r1⟩ := vals1 r
    cases r1
    exact call_bool_bool ⟨.bl k, H, I, rfl, q⟩
theorem call_str_int : CallR X (.type "str") (fun xs H Q => ∃ i, xs = [.int i] ∧ i.natAbs.log2 < 1920 ∧ Q (.str (toString i)) H) := by
  intro pins s σ H xs us Q I r h
  obtain ⟨i, rfl, hz, q⟩ := h
  obtain ⟨u, rfl, t, rfl⟩ := vals1 r
  exact PySem.P.str_of_int hz ⟨.str _, H, I.tok _, ⟨_, rfl⟩, q⟩
theorem call_ord : CallR X (.builtin "ord") (fun xs H Q => ∃ x, xs = [.str x] ∧ x.length = 1 ∧ Q (.int (x.cps.getD 0 0 : Nat)) H) := by
  intro pins s σ H xs us Q I r h
  obtain ⟨x, rfl, hz, q⟩ := h
  obtain ⟨u, rfl, t, rfl⟩ := vals1 r
  exact ord_of_one hz ⟨.int _, H, I.tok _, ⟨_, rfl⟩, q⟩
theorem call_chr : CallR X (.builtin "chr") (fun xs H Q => ∃ i, xs = [.int i] ∧ 0 ≤ i ∧ i ≤ 1114111 ∧ Q (.str ⟨#[i.toNat]⟩) H) := by
  intro pins s σ H xs us Q I r h
  obtain ⟨i, rfl, h0, h1, q⟩ := h
  obtain ⟨u, rfl, t, rfl⟩ := vals1 r
  exact chr_of_range h0 h1 ⟨.str _, H, I.tok _, ⟨_, rfl⟩, q⟩
/-- len of a str, a bytes, a list, a tuple -/
def LenV (K : PySem.W.Frag) (x : V) (H : Hp) (n : Nat) : Prop :=
  match x with
  | .str y => y.length ≤ sizeLine ∧ n = y.length
  | .byt y => y.size ≤ sizeLine ∧ n = y.size
  | .ref p => (∃ xs, SqL K H p xs ∧ n = xs.length) ∨ ∃ xs, SqT K H p xs ∧ n = xs.length
  | _ => False
theorem call_len : CallR X (.builtin "len") (fun xs H Q => ∃ x n, xs = [x] ∧ LenV X.K x H n ∧ Q (.int n) H) := by
  intro pins s σ H xs us Q I r h
  obtain ⟨x, n, rfl, e, q⟩ := h
  obtain ⟨u, rfl, rx⟩ := vals1 r
  have hl := line63
  have hs : sizeLine = 16777216 := sizeLine_eq
  cases x with
  | str y =>
    obtain ⟨t, rfl⟩ := rx
    obtain ⟨hy, e'⟩ : y.length ≤ sizeLine ∧ n = y.length := e
    subst e'
    exact len_str (by omega) ⟨.int _, H, I.tok _, ⟨_, rfl⟩, q⟩
  | byt y =>
    obtain ⟨t, rfl⟩ := rx
    obtain ⟨hy, e'⟩ : y.size ≤ sizeLine ∧ n = y.size := e
    subst e'
    exact PySem.W.len_bytes (by omega) ⟨.int _, H, I.tok _, ⟨_, rfl⟩, q⟩
  | ref p =>
    cases rx
    have e' : (∃ xs, SqL X.K H p xs ∧ n = xs.length) ∨ ∃ xs, SqT X.K H p xs ∧ n = xs.length := e
    rcases e' with ⟨xs, hx, e'⟩ | ⟨xs, hx, e'⟩
    · subst e'
      obtain ⟨its, r', pl, hz⟩ := I.list hx
      have hlen := r'.length
      exact Calls.call_len_list pl.isList (by simp only [List.size_toArray]; omega) ⟨.int xs.length, H, I.tok _, ⟨_, by simp only [List.size_toArray]; rw [hlen]⟩, q⟩
    · subst e'
      obtain ⟨its, r', pl, hz⟩ := I.tuple hx
      have hlen := r'.length
      exact len_tuple pl (by simp only [List.size_toArray]; omega) ⟨.int xs.length, H, I.tok _, ⟨_, by simp only [List.size_toArray]; rw [hlen]⟩, q⟩
  | _ => exact (show False from e).elim
/-- divmod: a new tuple -/
theorem call_divmod : CallR X (.builtin "divmod") (fun xs H Q => ∃ i j, xs = [.int i, .int j] ∧ CDiv i j ∧ ∀ p, H p = none → Q (.ref p) (upd H p (.tup [.int (i / j), .int (i % j)]))) := by
  intro pins s σ H xs us Q I r h
  obtain ⟨i, j, rfl, ⟨h1, h2⟩, q⟩ := h
  obtain ⟨u, w', rfl, ⟨t, rfl⟩, ⟨t', rfl⟩⟩ := vals2 r
  refine divmod_int (by omega) ?_ (.inl (PyProof.noPylong_small (by omega)))
  rw [Int.fdiv_eq_ediv_of_nonneg i (by omega), Int.fmod_eq_emod_of_nonneg i (by omega)]
  have hn : H s.heap.objs.size = none := I.hok.fresh (Nat.le_refl _)
  refine ⟨.ref s.heap.objs.size, _, ?_, rfl, q _ hn⟩
  refine I.laid (fun b o e => Heap.get?_push_of_some _ e) (Nat.le_refl _) ⟨by simp only [List.length_cons, List.length_nil]; rw [sizeLine_eq]; decide, [.int (i / j) s.toks, .int (i % j) (s.toks + 1)], .cons ⟨_, rfl⟩ (.cons ⟨_, rfl⟩ .nil), ?_⟩
  exact ⟨_, Heap.get?_push_size s.heap rfl, rfl, 0, rfl⟩
end
end L2

namespace L2
open PySem PySem.Spec PyProof.Rows

/-! ### an instance, its attributes a map -/
structure ObjM (h : Heap) (x dx C : Addr) (mA : Str → Option Value) : Prop where
  obj : h.get? x = some (PySem.W.instObj C dx)
  ns : h.Ns1 dx mA
  ne : dx ≠ x

theorem lookIn_ns {h : Heap} {dx : Addr} {mA : Str → Option Value} (n : h.Ns1 dx mA) : ∃ od, h.get? dx = some od ∧ ∀ name, PySem.W.lookIn name od = some (mA name) := by
  obtain ⟨o, es, ep, ho, hd, hk, _, hm⟩ := n
  refine ⟨o, ho, fun name => ?_⟩
  have e := hm name
  unfold nsFind findBy at e
  rw [← Array.find?_toList] at e
  unfold PySem.W.lookIn
  rw [hd]
  dsimp only
  split
  · rename_i y q
    rw [q] at e
    exact congrArg some e
  · rename_i q
    rw [q] at e
    have a : es.toList.any (·.refKey) = false := by
      rw [List.any_eq_false]
      intro y hy
      obtain ⟨z, t, hkey⟩ := hk y (Array.mem_toList_iff.mp hy)
      simp [DictEntry.refKey, hkey]
    have a' : ¬ es.toList.any (·.refKey) = true := by rw [a]; exact Bool.false_ne_true
    rw [if_neg a']
    exact congrArg some e

theorem ObjM.look {h : Heap} {x dx C : Addr} {mA : Str → Option Value} (I : ObjM h x dx C mA) : ∃ od, PySem.W.InstAt h x (PySem.W.instObj C dx) C (some od) ∧ ∀ name, PySem.W.lookIn name od = some (mA name) :=
  let ⟨od, ho, hl⟩ := lookIn_ns I.ns
  ⟨od, ⟨I.obj, rfl, rfl, ho⟩, hl⟩

section
variable {prog : Program} {w : World} {A : Around} {E : Value → Shared → Prop} {s : Shared} {K : PySem.W.Frag} {x dx C f : Addr} {mA : Str → Option Value} {name : Str} {v : Value}

theorem get_map {expr : Bool} {Q : Value → Shared → Prop} (X : K.In s.heap) (I : ObjM s.heap x dx C mA) (hg : PySem.W.plainGet K C name = true) (hh : PySem.W.hasDictIn K C = true)
    (ha : PySem.W.findIn K (.ref C) name = some none) (hv : mA name = some v) (hv' : PySem.W.handedIn v = true) (h : Q v { s with toks := s.toks + 1 }) :
    wpAny (model prog w) A (getAttr (.ref x) name expr) Q E s := by
  obtain ⟨od, J, hl⟩ := I.look
  exact PySem.W.get_value X J (PySem.W.plainGet_of hg).1 (PySem.W.findObj_own hh ha rfl (by rw [hl, hv])) hv' h

theorem get_const {expr : Bool} {a : Value} {Q : Value → Shared → Prop} (X : K.In s.heap) (I : ObjM s.heap x dx C mA) (hg : PySem.W.plainGet K C name = true) (hh : PySem.W.hasDictIn K C = true)
    (ha : PySem.W.findIn K (.ref C) name = some (some a)) (hn : PySem.W.specialIn K a "__get__" = some none) (hc : PySem.W.copiedNames.contains name = false) (hv : mA name = none) (hv' : PySem.W.handedIn a = true)
    (h : Q a { s with toks := s.toks + 1 }) : wpAny (model prog w) A (getAttr (.ref x) name expr) Q E s := by
  obtain ⟨od, J, hl⟩ := I.look
  exact PySem.W.get_value X J (PySem.W.plainGet_of hg).1 (PySem.W.findObj_cls hh ha hn hv' hc (by rw [hl, hv])) hv' h

theorem get_meth {pl : Sem Bool} {Q : Value × List Value → Shared → Prop} (X : K.In s.heap) (I : ObjM s.heap x dx C mA) (hg : PySem.W.plainGet K C name = true)
    (hf : PySem.W.findIn K (.ref C) name = some (some (.ref f))) (ht : PySem.W.isFn K (.ref f) = true) (hv : mA name = none) (h : Q (.ref f, [.ref x]) s) :
    wpAny (model prog w) A (getMethod (.ref x) name pl) Q E s := by
  obtain ⟨od, J, hl⟩ := I.look
  exact PySem.W.method_fn X J (PySem.W.plainGet_of hg).1 (PySem.W.plainGet_of hg).2 hf (beq_iff_eq.mp ht) (by show (PySem.W.lookIn name od).map (·.isSome) = some false; rw [hl, hv]; rfl) h

theorem set_map {ns : List Str} {Q : Unit → Shared → Prop} (X : K.In s.heap) (I : ObjM s.heap x dx C mA)
    (hs : PySem.W.findIn K (.ref C) "__setattr__" = some (some (.builtin "object.__setattr__"))) (hp : PySem.W.plainOver K C = true) (ht : PySem.W.takerIn K C name = some none) (hh : PySem.W.hasDictIn K C = true)
    (hw : PySem.Within mA ns) (hsz : ns.length ≤ sizeLine)
    (h : ∀ h', ObjM h' x dx C (fun y => if y = name then some v else mA y) → Heap.SameBut dx s.heap h' → Q () { s with heap := h', toks := s.toks + 2 }) :
    wpAny (model prog w) A (setAttr (.ref x) name v) Q E s := by
  obtain ⟨od, J, hl⟩ := I.look
  refine PySem.W.set_plain X J hs (PySem.W.osa_open (s := { s with toks := s.toks + 1 }) (r := none) X J hp ht fun b => ?_)
  obtain ⟨cd, hc, hd'⟩ := PySem.W.any_some hh
  have hx : s.heap.get? x = some ⟨.ref C, some dx, .plain, #[]⟩ := I.obj
  refine wpAny_bind (wpAny_pure (wpAny_bind (wpAny_bind (wpAny_loadPart hx (wpAny_bind (PySem.W.Looks.here (s := { s with toks := s.toks + 1 }) (PySem.W.looks_clsIn X hc) ?_))))))
  rw [hd']
  refine wpAny_pure (a := some dx) (wpAny_bind (wpAny_pure (wpAny_bind ?_)))
  refine wpAny_nsSet1 (s := { s with toks := s.toks + 1 }) I.ns fun h' hn2 hs2 => ?_
  obtain ⟨oD, esD, epD, hoD, hdD, hcD⟩ := hn2.count (PySem.Within.cons name v hw)
  refine wpAny_bind (wpAny_lookBehind hoD (by rw [hdD]; exact pastItsLine_dict (Nat.le_trans hcD (by rw [List.length_cons]; omega))) ?_)
  exact wpAny_pure (h _ ⟨(hs2.2 _ (Ne.symm I.ne)).trans I.obj, hn2, I.ne⟩ hs2)

/-- C(..): the dict at the heap's end, the instance behind it; then its __init__ -/
theorem make_map {R : Result → Shared → Prop} {vs : List Value} {kw : List (Str × Value)} (X : K.In s.heap) (hm : PySem.W.makesIn K C = true)
    (hi : PySem.W.findIn K (.ref C) "__init__" = some (some (.ref f))) (hf : PySem.W.typeIn K (.ref f) = some (.type "function"))
    (h : codeAny (model prog w) (A.under (.builtin "type.__call__" ⟨.ref C :: vs, kw⟩)) (.call (.ref f) ⟨.ref (s.heap.objs.size + 1) :: vs, kw⟩) (PySem.W.InitBack (s.heap.objs.size + 1) R)
      { s with heap := (s.heap.push PySem.W.emptyDict).push (PySem.W.instObj C s.heap.objs.size) }) :
    codeAny (model prog w) A (.call (.ref C) ⟨vs, kw⟩) R s := by
  obtain ⟨hh, g, d, t, os⟩ := s
  exact PySem.W.make_core (PySem.W.makes_of X hm) (PySem.W.looks_findIn X hi) (fun self => PySem.W.bind_fn X self hf) (.inl rfl) h
/-- C() where there is no __init__ but object's -/
theorem make_map0 {R : Result → Shared → Prop} (X : K.In s.heap) (hm : PySem.W.makesIn K C = true)
    (hi : PySem.W.findIn K (.ref C) "__init__" = some (some (.builtin "object.__init__")))
    (hb : ∀ self, PySem.W.Looks (model prog w) s.heap (bindSpecial (.builtin "object.__init__") self) (.builtin "object.__init__", [self]))
    (h : codeAny (model prog w) (A.under (.builtin "type.__call__" ⟨[.ref C], []⟩)) (.call (.builtin "object.__init__") ⟨[.ref (s.heap.objs.size + 1)], []⟩) (PySem.W.InitBack (s.heap.objs.size + 1) R)
      { s with heap := (s.heap.push PySem.W.emptyDict).push (PySem.W.instObj C s.heap.objs.size) }) :
    codeAny (model prog w) A (.call (.ref C) ⟨[], []⟩) R s := by
  obtain ⟨hh, g, d, t, os⟩ := s
  exact PySem.W.make_core (PySem.W.makes_of X hm) (PySem.W.looks_findIn X hi) hb (.inr ⟨rfl, rfl⟩) h
end

/-! ### the attributes as a list of pairs -/
def putF (f : Str) (v : V) : List (Str × V) → List (Str × V)
  | [] => [(f, v)]
  | (g, x) :: r => if g = f then (g, v) :: r else (g, x) :: putF f v r
theorem lookup_putF (f g : Str) (v : V) : ∀ fs : List (Str × V), (putF f v fs).lookup g = if g = f then some v else fs.lookup g
  | [] => by
    show List.lookup g [(f, v)] = _
    by_cases h : g = f
    · have hb : (g == f) = true := beq_iff_eq.mpr h
      simp only [List.lookup, hb, if_pos h]
    · have hb : (g == f) = false := beq_eq_false_iff_ne.mpr h
      simp only [List.lookup, hb, if_neg h]
  | (k, x) :: r => by
    have ih := lookup_putF f g v r
    rw [show putF f v ((k, x) :: r) = (if k = f then (k, v) :: r else (k, x) :: putF f v r) from rfl]
    by_cases hk : k = f
    · rw [if_pos hk]
      by_cases h : g = k
      · have hb : (g == k) = true := beq_iff_eq.mpr h
        simp only [List.lookup, hb, if_pos (h.trans hk)]
      · have hb : (g == k) = false := beq_eq_false_iff_ne.mpr h
        simp only [List.lookup, hb, if_neg (fun e : g = f => h (e.trans hk.symm))]
    · rw [if_neg hk]
      by_cases h : g = k
      · have hb : (g == k) = true := beq_iff_eq.mpr h
        simp only [List.lookup, hb, if_neg (fun e : g = f => hk (h.symm.trans e))]
      · have hb : (g == k) = false := beq_eq_false_iff_ne.mpr h
        simp only [List.lookup, hb]
        exact ih
theorem keys_putF (f : Str) (v : V) : ∀ fs : List (Str × V), f ∈ (putF f v fs).map (·.1) ∧ ∀ g, g ∈ fs.map (·.1) → g ∈ (putF f v fs).map (·.1)
  | [] => ⟨by simp [putF], fun g h => by simp at h⟩
  | (k, x) :: r => by
    obtain ⟨i1, i2⟩ := keys_putF f v r
    rw [show putF f v ((k, x) :: r) = (if k = f then (k, v) :: r else (k, x) :: putF f v r) from rfl]
    by_cases hk : k = f
    · rw [if_pos hk]
      subst hk
      exact ⟨by simp, fun g h => by simpa using h⟩
    · rw [if_neg hk]
      refine ⟨?_, fun g h => ?_⟩
      · rw [List.map_cons]
        exact List.mem_cons_of_mem _ i1
      · rw [List.map_cons] at h ⊢
        rcases List.mem_cons.mp h with e | e
        · exact List.mem_cons.mpr (.inl e)
        · exact List.mem_cons_of_mem _ (i2 g e)
theorem length_putF (f : Str) (v : V) : ∀ fs : List (Str × V), (putF f v fs).length ≤ fs.length + 1
  | [] => by simp [putF]
  | (k, x) :: r => by
    have ih := length_putF f v r
    rw [show putF f v ((k, x) :: r) = (if k = f then (k, v) :: r else (k, x) :: putF f v r) from rfl]
    by_cases hk : k = f
    · rw [if_pos hk, List.length_cons, List.length_cons]; omega
    · rw [if_neg hk, List.length_cons, List.length_cons]; omega

theorem RelO.some_of {v : V} {o : Option Value} (r : RelO (some v) o) : ∃ u, o = some u ∧ RelV v u := by
  cases o with
  | none => exact (show False from r).elim
  | some u => exact ⟨u, rfl, r⟩
theorem RelO.none_of {o : Option Value} (r : RelO none o) : o = none := by
  cases o with
  | none => rfl
  | some u => exact (show False from r).elim
theorem handed_of {v : V} {u : Value} (r : RelV v u) : PySem.W.handedIn u = true := by
  cases v with
  | non => cases (show u = Value.none from r); rfl
  | bl b => cases (show u = Value.bool b from r); rfl
  | int i => obtain ⟨t, e⟩ := (show ∃ t, u = Value.int i t from r); cases e; rfl
  | str x => obtain ⟨t, e⟩ := (show ∃ t, u = Value.str x t from r); cases e; rfl
  | byt b => obtain ⟨t, e⟩ := (show ∃ t, u = Value.bytes b t from r); cases e; rfl
  | flt b => obtain ⟨t, e⟩ := (show ∃ t, u = Value.float b t from r); cases e; rfl
  | ref a => cases (show u = Value.ref a from r); rfl
  | ty n => cases (show u = Value.type n from r); rfl

section
variable {P : Program} {w : World} {H H' : Hp} {h h' : Heap} {a C dx : Addr} {fs fs' : List (Str × V)}
theorem ins_get (hok : HOk P w H h) (e : H a = some (.ins C dx fs)) : ∃ mA, ObjM h a dx C mA ∧ (∀ f, RelO (fs.lookup f) (mA f)) ∧ PySem.Within mA (fs.map (·.1)) ∧ fs.length ≤ 1000 ∧ H dx = some (.own a) := by
  obtain ⟨d, z, ne, ob, mA, n, r, q⟩ := (show ObjOk P w H h a (.ins C dx fs) from hok a _ e)
  exact ⟨mA, ⟨ob, n, ne⟩, r, q, z, d⟩
end

/-! ### what of the text a class must have -/
structure Cls (K : PySem.W.Frag) (C : Addr) : Prop where
  pg : PySem.W.plainGet K C Str.empty = true
  hd : PySem.W.hasDictIn K C = true
  po : PySem.W.plainOver K C = true
  sa : PySem.W.findIn K (.ref C) "__setattr__" = some (some (.builtin "object.__setattr__"))
theorem Cls.get {K : PySem.W.Frag} {C : Addr} (c : Cls K C) (f : Str) : PySem.W.plainGet K C f = true := c.pg
/-- no class of it has the name -/
def NoAttr (K : PySem.W.Frag) (C : Addr) (f : Str) : Prop := PySem.W.findIn K (.ref C) f = some none
theorem NoAttr.taker {K : PySem.W.Frag} {C : Addr} {f : Str} (n : NoAttr K C f) : PySem.W.takerIn K C f = some none := by
  unfold PySem.W.takerIn
  rw [show PySem.W.findIn K (.ref C) f = some none from n]
  rfl
/-- a constant of the class -/
structure Con (K : PySem.W.Frag) (C : Addr) (f : Str) (v : V) (u : Value) : Prop where
  at_ : PySem.W.findIn K (.ref C) f = some (some u)
  rel : RelV v u
  get : PySem.W.specialIn K u "__get__" = some none
  cp : PySem.W.copiedNames.contains f = false
/-- a method: a plain def of the class or of one above it -/
structure Meth (K : PySem.W.Frag) (C : Addr) (m : Str) (f : Addr) : Prop where
  at_ : PySem.W.findIn K (.ref C) m = some (some (.ref f))
  fn : PySem.W.isFn K (.ref f) = true
  kp : PySem.W.keepIn K (.ref f) = true

section
variable {X : Cx} {pins : List (Addr × Obj)} {σ : St} {H : Hp} {s : Shared} {a C dx : Addr} {fs : List (Str × V)} {f : Str} {v : V} {A : Around} {E : Value → Shared → Prop}

theorem getattr_ok {b : Bool} {Q : Value → Shared → Prop} (I : Inv X pins σ H s) (e : H a = some (.ins C dx fs)) (c : Cls X.K C) (n : NoAttr X.K C f) (l : fs.lookup f = some v)
    (h : ∀ u s', Inv X pins σ H s' → RelV v u → Q u s') : wpAny (model X.prog X.w) A (getAttr (.ref a) f b) Q E s := by
  obtain ⟨mA, O, r, _, _, _⟩ := ins_get I.hok e
  obtain ⟨u, hu, ru⟩ := RelO.some_of (v := v) (o := mA f) (by rw [← l]; exact r f)
  exact get_map I.kIn O (c.get f) c.hd n hu (handed_of ru) (h u _ (I.tok _) ru)

theorem getcon_ok {b : Bool} {u : Value} {Q : Value → Shared → Prop} (I : Inv X pins σ H s) (e : H a = some (.ins C dx fs)) (c : Cls X.K C) (k : Con X.K C f v u) (l : fs.lookup f = none)
    (h : ∀ s', Inv X pins σ H s' → Q u s') : wpAny (model X.prog X.w) A (getAttr (.ref a) f b) Q E s := by
  obtain ⟨mA, O, r, _, _, _⟩ := ins_get I.hok e
  have hn : mA f = none := RelO.none_of (by rw [← l]; exact r f)
  exact get_const I.kIn O (c.get f) c.hd k.at_ k.get k.cp hn (handed_of k.rel) (h _ (I.tok _))

theorem getmeth_ok {m : Str} {g : Addr} {pl : Sem Bool} {Q : Value × List Value → Shared → Prop} (I : Inv X pins σ H s) (e : H a = some (.ins C dx fs)) (c : Cls X.K C) (k : Meth X.K C m g) (l : fs.lookup m = none)
    (h : Q (.ref g, [.ref a]) s) : wpAny (model X.prog X.w) A (getMethod (.ref a) m pl) Q E s := by
  obtain ⟨mA, O, r, _, _, _⟩ := ins_get I.hok e
  have hn : mA m = none := RelO.none_of (by rw [← l]; exact r m)
  exact get_meth I.kIn O (c.get m) k.at_ k.fn hn h

theorem setattr_ok {y : V} {u : Value} {Q : Unit → Shared → Prop} (I : Inv X pins σ H s) (e : H a = some (.ins C dx fs)) (c : Cls X.K C) (n : NoAttr X.K C f) (hl : fs.length < 1000) (ry : RelV y u)
    (h : ∀ s', Inv X pins σ (upd H a (.ins C dx (putF f y fs))) s' → Q () s') : wpAny (model X.prog X.w) A (setAttr (.ref a) f u) Q E s := by
  obtain ⟨mA, O, r, wi, _, ho⟩ := ins_get I.hok e
  have hz : (fs.map (·.1)).length ≤ sizeLine := by rw [List.length_map, sizeLine_eq]; omega
  refine set_map I.kIn O c.sa c.po n.taker c.hd wi hz fun h' O' sb => h _ ?_
  have hd : ∃ o, h'.get? dx = some o := let ⟨o, _, _, e', _⟩ := O'.ns; ⟨o, e'⟩
  refine I.write (x := a) (e := dx) (by rw [e]; exact True.intro) (.inr ho) (fun b q hb z => (sb.2 b hb).trans z) hd ?_
  refine ⟨by rw [upd_ne O.ne]; exact ho, ?_, O.ne, O'.obj, _, O'.ns, fun g => ?_, fun g hg => ?_⟩
  · have := length_putF f y fs; omega
  · show RelO ((putF f y fs).lookup g) (if g = f then some u else mA g)
    rw [lookup_putF]
    by_cases q : g = f
    · rw [if_pos q, if_pos q]; exact ry
    · rw [if_neg q, if_neg q]; exact r g
  · by_cases q : g = f
    · rw [q]; exact (keys_putF f y fs).1
    · refine (keys_putF f y fs).2 g (wi g fun z => hg ?_)
      show (if g = f then some u else mA g) = none
      rw [if_neg q]; exact z

/-- a new instance, tracked, without attributes -/
theorem Inv.made (I : Inv X pins σ H s) : Inv X pins σ (upd (upd H s.heap.objs.size (.own (s.heap.objs.size + 1))) (s.heap.objs.size + 1) (.ins C s.heap.objs.size []))
    { s with heap := (s.heap.push PySem.W.emptyDict).push (PySem.W.instObj C s.heap.objs.size) } := by
  have e1 : (s.heap.push PySem.W.emptyDict).get? s.heap.objs.size = some PySem.W.emptyDict := Heap.get?_push_size s.heap rfl
  have e2 : ((s.heap.push PySem.W.emptyDict).push (PySem.W.instObj C s.heap.objs.size)).get? (s.heap.objs.size + 1) = some (PySem.W.instObj C s.heap.objs.size) := by
    have := Heap.get?_push_size (s.heap.push PySem.W.emptyDict) (o := PySem.W.instObj C s.heap.objs.size) rfl
    rwa [Heap.size_push] at this
  have e3 : (s.heap.push PySem.W.emptyDict).Ns s.heap.objs.size (fun _ => none) := ⟨PySem.W.emptyDict, #[], _, e1, rfl, (fun e he => absurd he (by simp)), fun _ => rfl⟩
  have I1 := I.laid (a := s.heap.objs.size) (o := .own (s.heap.objs.size + 1)) (h' := s.heap.push PySem.W.emptyDict) (t' := s.toks) (fun b u q => Heap.get?_push_of_some _ q) (Nat.le_refl _) ⟨_, e1⟩
  refine I1.laid (a := s.heap.objs.size + 1) (o := .ins C s.heap.objs.size []) (t' := s.toks) (fun b u q => Heap.get?_push_of_some _ q) (Nat.le_of_eq (Heap.size_push _ _)) ?_
  have ne : s.heap.objs.size ≠ s.heap.objs.size + 1 := Nat.ne_of_lt (Nat.lt_succ_self _)
  refine ⟨by rw [upd_ne ne, upd_same], Nat.zero_le _, ne, e2, fun _ => none, (Heap.Ns1.of_empty e3).at fun o q => Heap.get?_push_of_some _ q, fun _ => True.intro, fun y hy => absurd rfl hy⟩

/-- e.f where nothing but the object is asked: through attributeBase (super) and the last hold -/
theorem attr_of {prog : Program} {w : World} {env : Env} {e : Expr} {f : Str} {pos : Pos} {s : Shared} {Q : Value → Shared → Prop} (hb : attributeBase e f env (eval e env) = eval e env)
    (h : wpAny (model prog w) A (eval e env) (fun o s₁ => wpAny (model prog w) A (getAttr o f true) Q E s₁) E s) : wpAny (model prog w) A (eval (.Attribute e f pos) env) Q E s :=
  Attribute_any_ h (by rw [arm_eval_Attribute, hb])
end

/-! ### readings and rules -/
/-- e.f, an attribute of the instance -/
def tFld (K : PySem.W.Frag) (ta : TE) (f : Str) : TE := fun σ H Q => ta σ H fun x H1 => ∃ a C dx fs v, x = .ref a ∧ H1 a = some (.ins C dx fs) ∧ Cls K C ∧ NoAttr K C f ∧ fs.lookup f = some v ∧ Q v H1
/-- e.f, a constant of the class -/
def tCon (K : PySem.W.Frag) (ta : TE) (f : Str) : TE := fun σ H Q => ta σ H fun x H1 => ∃ a C dx fs v u, x = .ref a ∧ H1 a = some (.ins C dx fs) ∧ Cls K C ∧ Con K C f v u ∧ fs.lookup f = none ∧ Q v H1
/-- e.f = value -/
def sFld (K : PySem.W.Frag) (ta tv : TE) (f : Str) : TS := fun D σ H => tv σ H fun y H1 => ta σ H1 fun x H2 => ∃ a C dx fs, x = .ref a ∧ H2 a = some (.ins C dx fs) ∧ Cls K C ∧ NoAttr K C f ∧ fs.length < 1000 ∧
  D.nx σ (upd H2 a (.ins C dx (putF f y fs)))
/-- an augmented operator on two values -/
def InOp (X : Cx) (op : Operator) (rd : V → V → Hp → VK → Prop) : Prop :=
  ∀ (pins : List (Addr × Obj)) (s : Shared) (σ : St) (H : Hp) (x y : V) (u v : Value) (Q : VK), Inv X pins σ H s → RelV x u → RelV y v → rd x y H Q → wpAny (model X.prog X.w) X.A (inplaceOp op u v) (EP X pins σ Q) X.xe s
/-- e.f op= value -/
def sFldAug (K : PySem.W.Frag) (ta tv : TE) (rd : V → V → Hp → VK → Prop) (f : Str) : TS := fun D σ H => ta σ H fun x H1 => ∃ a C dx fs v, x = .ref a ∧ H1 a = some (.ins C dx fs) ∧ Cls K C ∧ NoAttr K C f ∧ fs.lookup f = some v ∧
  tv σ H1 fun y H2 => rd v y H2 fun z H3 => ∃ dx' fs', H3 a = some (.ins C dx' fs') ∧ fs'.length < 1000 ∧ D.nx σ (upd H3 a (.ins C dx' (putF f z fs')))

section
variable {X : Cx} {o e value : Expr} {f : Str} {pos pos' tpos : Pos} {ta tv : TE}
theorem pe_fld (he : PE X e ta) (hb : attributeBase e f X.env (eval e X.env) = eval e X.env) : PE X (.Attribute e f pos) (tFld X.K ta f) := by
  intro pins s σ H Q I h
  refine attr_of hb (thn (he pins s σ H _ I h) fun u s1 ⟨x, H1, I1, rx, a, C, dx, fs, v, ex, ea, c, n, l, q⟩ => ?_)
  subst ex
  obtain rfl : u = Value.ref a := rx
  exact getattr_ok I1 ea c n l fun u' s2 I2 ru => ⟨v, H1, I2, ru, q⟩
theorem pe_con (he : PE X e ta) (hb : attributeBase e f X.env (eval e X.env) = eval e X.env) : PE X (.Attribute e f pos) (tCon X.K ta f) := by
  intro pins s σ H Q I h
  refine attr_of hb (thn (he pins s σ H _ I h) fun u s1 ⟨x, H1, I1, rx, a, C, dx, fs, v, u0, ex, ea, c, k, l, q⟩ => ?_)
  subst ex
  obtain rfl : u = Value.ref a := rx
  exact getcon_ok I1 ea c k l fun s2 I2 => ⟨v, H1, I2, k.rel, q⟩
theorem ps_fld (ha : PE X o ta) (hv : PE X value tv) (hs : swapsWith value (some (.Attribute o f pos')) pos.line X.env = pure false) : PS X (.Assign [.Attribute o f pos'] value pos) (sFld X.K ta tv f) := by
  intro pins s σ H D I h
  refine plainObj_wpAny_Assign_Attribute (thn (hv pins s σ H _ I h) fun u s1 ⟨y, H1, I1, ry, q⟩ => thn (ha pins s1 σ H1 _ I1 q) fun ov s2 ⟨x, H2, I2, rx, a, C, dx, fs, ex, ea, c, n, l, q2⟩ => ?_) hs
  subst ex
  obtain rfl : ov = Value.ref a := rx
  exact setattr_ok I2 ea c n l ry fun s3 I3 => ⟨σ, _, I3, q2⟩
theorem ps_fldaug {op : Operator} {rd : V → V → Hp → VK → Prop} (ha : PE X o ta) (hv : PE X value tv) (hop : InOp X op rd) : PS X (.AugAssign (.Attribute o f tpos) op value pos) (sFldAug X.K ta tv rd f) := by
  intro pins s σ H D I h
  refine wpAny_AugAssign_AttributeAny (thn (ha pins s σ H _ I h) fun ov s1 ⟨x, H1, I1, rx, a, C, dx, fs, v, ex, ea, c, n, l, q⟩ => ?_)
  subst ex
  obtain rfl : ov = Value.ref a := rx
  refine getattr_ok I1 ea c n l fun u s2 I2 ru => thn (hv pins s2 σ H1 _ I2 q) fun w3 s3 ⟨y, H2, I3, ry, q3⟩ => thn (hop pins s3 σ H2 v y u w3 _ I3 ru ry q3) fun w4 s4 ⟨z, H3, I4, rz, dx', fs', ea', l', q4⟩ => ?_
  exact setattr_ok I4 ea' c n l' rz fun s5 I5 => ⟨σ, _, I5, q4⟩
def rAdd : V → V → Hp → VK → Prop := fun x y H Q => ∃ i j, x = .int i ∧ y = .int j ∧ Q (.int (i + j)) H
def rSub : V → V → Hp → VK → Prop := fun x y H Q => ∃ i j, x = .int i ∧ y = .int j ∧ Q (.int (i - j)) H
theorem in_add : InOp X .Add rAdd := by
  rintro pins s σ H x y u v Q I rx ry ⟨i, j, rfl, rfl, q⟩
  obtain ⟨t, rfl⟩ := (show ∃ t, u = Value.int i t from rx)
  obtain ⟨t', rfl⟩ := (show ∃ t', v = Value.int j t' from ry)
  exact PyProof.Rows.iadd_int ⟨.int (i + j), H, I.tok _, ⟨_, rfl⟩, q⟩
theorem in_sub : InOp X .Sub rSub := by
  rintro pins s σ H x y u v Q I rx ry ⟨i, j, rfl, rfl, q⟩
  obtain ⟨t, rfl⟩ := (show ∃ t, u = Value.int i t from rx)
  obtain ⟨t', rfl⟩ := (show ∃ t', v = Value.int j t' from ry)
  exact PyProof.Rows.isub_int ⟨.int (i - j), H, I.tok _, ⟨_, rfl⟩, q⟩

/-- what is between an instance and its method: the tree of a method call -/
theorem methcall_of {pl : Sem Bool} {m : Str} {apos : Pos} {args : List Expr} {pins : List (Addr × Obj)} {s : Shared} {σ : St} {H : Hp} {Q : Value → Shared → Prop} {te : TE} (he : PE X e te) (I : Inv X pins σ H s)
    (h : te σ H fun x H1 => ∃ a C dx fs g, x = .ref a ∧ H1 a = some (.ins C dx fs) ∧ Cls X.K C ∧ Meth X.K C m g ∧ fs.lookup m = none ∧
      ∀ s1, Inv X pins σ H1 s1 → wpAny (model X.prog X.w) X.A (callWith pos (.ref g) [.ref a] (backTo pos (starEach args X.env)) (backToKw pos (keywordEach [] X.env))) Q X.xe s1)
    (ht : eval (.Call (.Attribute e m apos) args [] pos) X.env = (do
      let ov ← eval e X.env
      standAt apos.atName
      let (f, first) ← holding [ov] (getMethod ov m pl)
      callWith pos f first (backTo pos (starEach args X.env)) (backToKw pos (keywordEach [] X.env)))) :
    wpAny (model X.prog X.w) X.A (eval (.Call (.Attribute e m apos) args [] pos) X.env) Q X.xe s := by
  refine PySem.W.methodCall_KW (pl := pl) (thn (he pins s σ H _ I h) fun u s1 ⟨x, H1, I1, rx, a, C, dx, fs, g, ex, ea, c, k, l, q⟩ => ?_) ht
  subst ex
  obtain rfl : u = Value.ref a := rx
  exact getmeth_ok I1 ea c k l (q s1 I1)
end

/-! ### isinstance -/
section
variable {X : Cx} {pins : List (Addr × Obj)} {σ : St} {H : Hp} {s : Shared} {A : Around} {E : Value → Shared → Prop} {Q : Value → Shared → Prop} {c : Value} {b : Bool}
/-- the type of a value, as the fragment's deciders take it; for an instance its class -/
inductive TyOf (K : PySem.W.Frag) (H : Hp) : V → Value → Prop where
  | non : TyOf K H .non (.type "NoneType")
  | bl (x : Bool) : TyOf K H (.bl x) (.type "bool")
  | int (i : Int) : TyOf K H (.int i) (.type "int")
  | str (x : Str) : TyOf K H (.str x) (.type "str")
  | flt (x : UInt64) : TyOf K H (.flt x) (.type "float")
  | lst {a : Addr} {xs : List V} (e : H a = some (.lst xs)) : TyOf K H (.ref a) (.type "list")
  | frz {a : Addr} {o : Obj} {xs : List V} (e : H a = some (.frz o (.lst xs))) : TyOf K H (.ref a) (.type "list")
  | tup {a : Addr} {xs : List V} (e : H a = some (.tup xs)) : TyOf K H (.ref a) (.type "tuple")
  | dK {a : Addr} {kvs : List (Key × V)} (e : H a = some (.dK kvs)) : TyOf K H (.ref a) (.type "dict")
  | dT {a : Addr} {kvs : List (List Key × V)} (e : H a = some (.dT kvs)) : TyOf K H (.ref a) (.type "dict")
  | ins {a C dx : Addr} {fs : List (Str × V)} (e : H a = some (.ins C dx fs)) (cl : Cls K C) (ha : PySem.W.findIn K (.ref C) "__class__" = some (some (.builtin "object.__class__")))
      (hn : PySem.W.specialIn K (.builtin "object.__class__") "__get__" = some (some (.builtin "getset_descriptor.__get__"))) (htk : PySem.W.takesIn K (.builtin "object.__class__") = some true)
      (hm : PySem.W.mroIn K C (.type "object") = some true) : TyOf K H (.ref a) (.ref C)
/-- isinstance(x, c) for one class c, a built-in or an own one: kitOne's answer -/
theorem isinst_ok {x : V} {u t : Value} (I : Inv X pins σ H s) (rx : RelV x u) (ty : TyOf X.K H x t) (e : PySem.W.kitOne X.K t c = some b) (h : ∀ tk, Q (.bool b) { s with toks := tk }) :
    wpAny (model X.prog X.w) A (call (.builtin "isinstance") [u, c]) Q E s := by
  cases ty with
  | non => cases (show u = Value.none from rx); exact PySem.W.kia_one PySem.W.kitx_none I.kIn True.intro e (fun z => nomatch z) h
  | bl y => cases (show u = Value.bool y from rx); exact PySem.W.kia_one PySem.W.kitx_bool I.kIn True.intro e (fun z => nomatch z) h
  | int i => obtain ⟨t, q⟩ := (show ∃ t, u = Value.int i t from rx); cases q; exact PySem.W.kia_one PySem.W.kitx_int I.kIn True.intro e (fun z => nomatch z) h
  | str y => obtain ⟨t, q⟩ := (show ∃ t, u = Value.str y t from rx); cases q; exact PySem.W.kia_one PySem.W.kitx_str I.kIn True.intro e (fun z => nomatch z) h
  | flt y => obtain ⟨t, q⟩ := (show ∃ t, u = Value.float y t from rx); cases q; exact PySem.W.kia_one PySem.W.kitx_float I.kIn True.intro e (fun z => nomatch z) h
  | @lst a xs ea =>
    cases (show u = Value.ref a from rx)
    obtain ⟨_, _, n, _, h1⟩ := (show ObjOk X.prog X.w H s.heap a (.lst xs) from I.hok a _ ea)
    exact PySem.W.kia_one PySem.W.kitx_list I.kIn ⟨_, h1, rfl⟩ e (fun z => nomatch z) h
  | @frz a ob xs ea =>
    cases (show u = Value.ref a from rx)
    obtain ⟨_, _, _, n, _, h1⟩ := (show ObjOk X.prog X.w H s.heap a (.frz ob (.lst xs)) from I.hok a _ ea)
    exact PySem.W.kia_one PySem.W.kitx_list I.kIn ⟨_, h1, rfl⟩ e (fun z => nomatch z) h
  | @tup a xs ea =>
    cases (show u = Value.ref a from rx)
    obtain ⟨_, _, _, p⟩ := (show ObjOk X.prog X.w H s.heap a (.tup xs) from I.hok a _ ea)
    obtain ⟨o, h1, h2, _⟩ := p
    exact PySem.W.kia_one PySem.W.kitx_tuple I.kIn ⟨o, h1, h2⟩ e (fun z => nomatch z) h
  | @dK a kvs ea =>
    cases (show u = Value.ref a from rx)
    obtain ⟨_, _, vs, _, p⟩ := (show ObjOk X.prog X.w H s.heap a (.dK kvs) from I.hok a _ ea)
    obtain ⟨o, es, ep, h1, h2, _⟩ := p
    exact PySem.W.kia_one PySem.W.kitx_dict I.kIn ⟨o, h1, h2.1⟩ e (fun z => nomatch z) h
  | @dT a kvs ea =>
    cases (show u = Value.ref a from rx)
    obtain ⟨_, _, xs, _, o, es, ep, h1, h2, _⟩ := (show ObjOk X.prog X.w H s.heap a (.dT kvs) from I.hok a _ ea)
    exact PySem.W.kia_one PySem.W.kitx_dict I.kIn ⟨o, h1, h2.1⟩ e (fun z => nomatch z) h
  | @ins a C dx fs ea cl ha hn htk hm =>
    cases (show u = Value.ref a from rx)
    obtain ⟨mA, O, _⟩ := ins_get I.hok ea
    obtain ⟨od, J, _⟩ := O.look
    exact PySem.W.kia_one (PySem.W.kitx_own (cl.get _) cl.hd ha hn htk hm) I.kIn J e (fun z => nomatch z) h
end
end L2

namespace L2
open PySem PySem.Spec PyProof.Rows

/-! ### room -/
structure Room (k : Nat) (A : Around) : Prop where
  hd : A.handled = none
  dp : A.depth + 3 * k + 5 < recursionLimit
  un : A.units + 16 * k + 200 < cLine
theorem Room.mono {j k : Nat} {A : Around} (r : Room k A) (h : j ≤ k) : Room j A := ⟨r.hd, by have := r.dp; omega, by have := r.un; omega⟩
theorem Room.deeper {k : Nat} {A : Around} (r : Room (k + 1) A) (env : Env) : Room k (A.deeper env) :=
  ⟨r.hd, by have := r.dp; show A.depth + 1 + 3 * k + 5 < _; omega, by have := r.un; show A.units + 3 + 16 * k + 200 < _; omega⟩
theorem Room.in1 {k : Nat} {A : Around} (r : Room (k + 1) A) : Room k A.in1 :=
  ⟨r.hd, by have := r.dp; show A.depth + 3 * k + 5 < _; omega, by have := r.un; show A.units + 1 + 16 * k + 200 < _; omega⟩
theorem make_depth {A : Around} {C : Addr} {us : List Value} {kw : List (Str × Value)} : (A.under (.builtin "type.__call__" ⟨.ref C :: us, kw⟩)).depth = A.depth + 1 := by
  first | rfl | simp [Around.under, Code.weight, Code.isCreation, Code.isGuard, Code.isCaller, Code.frames, Code.isFrame, guardIds]
theorem make_units {A : Around} {C : Addr} {us : List Value} {kw : List (Str × Value)} : (A.under (.builtin "type.__call__" ⟨.ref C :: us, kw⟩)).units = A.units + 1 := by
  first | rfl | simp [Around.under, Code.cUnits, Code.frames, Code.isFrame]
theorem Room.make {k : Nat} {A : Around} (r : Room (k + 1) A) (C : Addr) (us : List Value) (kw : List (Str × Value)) : Room k (A.under (.builtin "type.__call__" ⟨.ref C :: us, kw⟩)) :=
  ⟨r.hd, by have := r.dp; rw [make_depth]; omega, by have := r.un; rw [make_units]; omega⟩
theorem Room.depth {k : Nat} {A : Around} (r : Room k A) : A.depth < recursionLimit := by have := r.dp; omega
theorem Room.units {k : Nat} {A : Around} (r : Room k A) : A.units + 64 < cLine := by have := r.un; omega
theorem Room.units0 {k : Nat} {A : Around} (r : Room k A) : A.units < cLine := by have := r.un; omega

/-! ### argument lists and displays -/
def tNil : TA := fun _ H Q => Q [] H
def tCons (ta : TE) (tr : TA) : TA := fun σ H Q => ta σ H fun x H1 => tr σ H1 fun xs H2 => Q (x :: xs) H2
section
variable {X : Cx} {e : Expr} {es : List Expr} {te : TE} {t : TA} {pos : Pos}
theorem pa_nil : PA X [] tNil := fun _ _ _ _ H Q I h => Calls.spliced_nil ⟨[], H, I, .nil, h⟩
theorem pa_cons (ha : PE X e te) (hr : PA X es t) (hs : starEach (e :: es) X.env = (false, eval e X.env) :: starEach es X.env := by rfl) : PA X (e :: es) (tCons te t) := by
  intro pos pins s σ H Q I h
  rw [hs]
  show wpAny _ _ (spliced ((false, eval e X.env) :: backTo pos (starEach es X.env))) _ _ s
  refine Calls.spliced_cons (thn (ha pins s σ H _ I h) fun u s1 ⟨x, H1, I1, r1, q1⟩ => ?_)
  exact thn (hr pos pins s1 σ H1 _ I1 q1) fun us s2 ⟨xs, H2, I2, r2, q2⟩ => ⟨x :: xs, H2, I2, .cons r1 r2, q2⟩

/-- a tuple, a list of written items -/
def tTup (t : TA) : TE := fun σ H Q => t σ H fun xs H1 => xs.length ≤ sizeLine ∧ ∀ p, H1 p = none → Q (.ref p) (upd H1 p (.tup xs))
def tLst (t : TA) : TE := fun σ H Q => t σ H fun xs H1 => xs.length ≤ sizeLine ∧ ∀ p, H1 p = none → Q (.ref p) (upd H1 p (.lst xs))
theorem pe_tup {x1} (h : PA X es t) : PE X (.Tuple es x1 pos) (tTup t) := by
  intro pins s σ H Q I hq
  refine wpAny_Tuple_spliced (thn (h pos pins s σ H _ I hq) fun us s1 ⟨xs, H1, I1, r, z, q⟩ => ⟨by rw [← r.length]; exact z, ?_⟩)
  have hf : H1 s1.heap.objs.size = none := I1.hok.fresh (Nat.le_refl _)
  refine ⟨.ref s1.heap.objs.size, upd H1 s1.heap.objs.size (.tup xs), I1.laid (t' := s1.toks) (fun b u e => Heap.get?_push_of_some _ e) (Nat.le_refl _) ?_, rfl, q _ hf⟩
  exact ⟨z, us, r, ⟨_, Heap.get?_push_size _ rfl, rfl, _, rfl⟩⟩
theorem pe_lst (h : PA X es t) : PE X (.List es pos) (tLst t) := by
  intro pins s σ H Q I hq
  refine wpAny_List_spliced (thn (h pos pins s σ H _ I hq) fun us s1 ⟨xs, H1, I1, r, z, q⟩ => ⟨by rw [← r.length]; exact z, ?_⟩)
  have hf : H1 s1.heap.objs.size = none := I1.hok.fresh (Nat.le_refl _)
  refine ⟨.ref s1.heap.objs.size, upd H1 s1.heap.objs.size (.lst xs), I1.laid (t' := s1.toks) (fun b u e => Heap.get?_push_of_some _ e) (Nat.le_refl _) ?_, rfl, q _ hf⟩
  exact ⟨z, us, 0, r, Heap.get?_push_size _ rfl⟩
end

/-! ### what a def promises -/
/-- a def's promise: the bound arguments in the parameters' order, the heap, the wanted end, the wanted exception -/
abbrev Sp := List V → Hp → VK → XK → Prop
/-- how an exception lies behind a call (file 08 gives it): the callers' frames, abstract heap and state ahead of the call, the wish, the exception, the state -/
abbrev CXT := List Env → Hp → Shared → XK → Value → Shared → Prop

/-- the state at a call -/
structure Env0 (P : Program) (w : World) (K : PySem.W.Frag) (mg : Str → Option Value) (base : Heap) (A : Around) (outer : List Env) (s : Shared) (H : Hp) : Prop where
  frames : A.frames = some outer
  mod : Mod K mg base
  bs : ∀ b o, base.get? b = some o → s.heap.get? b = some o ∧ H b = none
  bsz : base.objs.size ≤ s.heap.objs.size
  funs : s.heap.FunFrames base outer
  frf : ∀ b ∈ frs outer, H b = none
  hok : HOk P w H s.heap
  bare : AllBare s.gens
/-- a call's end -/
def CE (outer : List Env) (P : Program) (w : World) (H : Hp) (s : Shared) (Q : VK) (u : Value) (s' : Shared) : Prop :=
  ∃ v H', s'.os = s.os ∧ AllBare s'.gens ∧ Un (frs outer) [] H H' s.heap s'.heap ∧ HOk P w H' s'.heap ∧ RelV v u ∧ Q v H'
def CR (CX : CXT) (outer : List Env) (P : Program) (w : World) (H : Hp) (s : Shared) (Q : VK) (E : XK) (r : Result) (s' : Shared) : Prop :=
  match r with
  | .ok (.ret u) => CE outer P w H s Q u s'
  | .ok _ => False
  | .error e => CX outer H s E e s'
structure FnOk (P : Program) (w : World) (K : PySem.W.Frag) (mg : Str → Option Value) (base : Heap) (CX : CXT) (k : Nat) (f : Addr) (fd : FuncData) (ps : List Str) (sp : Sp) : Prop where
  len : ∀ vs H Q E, sp vs H Q E → vs.length = ps.length
  run : ∀ (A : Around) (outer : List Env) (s : Shared) (H : Hp) (args : Args) (us : List Value) (vs : List V) (Q : VK) (E : XK), Room k A → Env0 P w K mg base A outer s H → BindsTo s fd args (ps.zip us) → Vals vs us → sp vs H Q E →
    codeAny (model P w) A (.call (.ref f) args) (CR CX outer P w H s Q E) s
theorem FnOk.mono {P : Program} {w : World} {K : PySem.W.Frag} {mg : Str → Option Value} {base : Heap} {CX : CXT} {j k : Nat} {f : Addr} {fd : FuncData} {ps : List Str} {sp : Sp} (F : FnOk P w K mg base CX j f fd ps sp) (h : j ≤ k) :
    FnOk P w K mg base CX k f fd ps sp := ⟨F.len, fun A outer s H args us vs Q E hr => F.run A outer s H args us vs Q E (hr.mono h)⟩
/-- a weaker promise -/
theorem FnOk.imp {P : Program} {w : World} {K : PySem.W.Frag} {mg : Str → Option Value} {base : Heap} {CX : CXT} {k : Nat} {f : Addr} {fd : FuncData} {ps : List Str} {sp sp' : Sp} (F : FnOk P w K mg base CX k f fd ps sp)
    (h : ∀ vs H Q E, sp' vs H Q E → sp vs H Q E) : FnOk P w K mg base CX k f fd ps sp' :=
  ⟨fun vs H Q E q => F.len vs H Q E (h _ _ _ _ q), fun A outer s H args us vs Q E hr he hb hv hs => F.run A outer s H args us vs Q E hr he hb hv (h _ _ _ _ hs)⟩

theorem Env0.make {P : Program} {w : World} {K : PySem.W.Frag} {mg : Str → Option Value} {base : Heap} {A : Around} {outer : List Env} {s : Shared} {H : Hp} (e : Env0 P w K mg base A outer s H) (C : Addr) (us : List Value) (kw : List (Str × Value)) :
    Env0 P w K mg base (A.under (.builtin "type.__call__" ⟨.ref C :: us, kw⟩)) outer s H := ⟨by first | exact e.frames | (simpa [Around.under, Code.envs, Code.isFrame, pushEnvs] using e.frames), e.mod, e.bs, e.bsz, e.funs, e.frf, e.hok, e.bare⟩
theorem Env0.in1 {P : Program} {w : World} {K : PySem.W.Frag} {mg : Str → Option Value} {base : Heap} {A : Around} {outer : List Env} {s : Shared} {H : Hp} (e : Env0 P w K mg base A outer s H) :
    Env0 P w K mg base A.in1 outer s H := ⟨e.frames, e.mod, e.bs, e.bsz, e.funs, e.frf, e.hok, e.bare⟩

section
variable {X : Cx} {pins : List (Addr × Obj)} {σ : St} {H : Hp} {s s' : Shared}
/-- from a body: what a callee wants -/
theorem Inv.env0 (I : Inv X pins σ H s) : Env0 X.prog X.w X.K X.mg X.base X.A X.stack s H :=
  ⟨I.ok.frames, I.ok.mod, I.bs, Nat.le_trans I.ok.bsz I.sz, I.stack, I.stkFree, I.hok, I.bare⟩
/-- behind a call -/
theorem Inv.after {Q : VK} {u : Value} (I : Inv X pins σ H s) (h : CE X.stack X.prog X.w H s Q u s') : EP X pins σ Q u s' := by
  obtain ⟨v, H', os, bare, un, hok, r, q⟩ := h
  obtain ⟨hh, g, d, t, os'⟩ := s'
  obtain rfl : os' = s.os := os
  exact ⟨v, H', I.call (h' := hh) (g' := g) (d' := d) (t' := t) (ch := []) un hok bare (fun b z => absurd z (by simp)), r, q⟩
end

/-! ### calls -/
/-- f(..): the written arguments, then the defaults dvs; E: what is wanted of an exception -/
def tCall (sp : Sp) (dvs : List V) (E : XK) (t : TA) : TE := fun σ H Q => t σ H fun vs H1 => sp (vs ++ dvs) H1 Q E
/-- o.m(..) of an instance of the class at C -/
def tMeth (C : Addr) (m : Str) (sp : Sp) (dvs : List V) (E : XK) (ta : TE) (t : TA) : TE := fun σ H Q => ta σ H fun x H1 => ∃ a dx fs, x = .ref a ∧ H1 a = some (.ins C dx fs) ∧ fs.lookup m = none ∧
  t σ H1 fun vs H2 => sp (x :: (vs ++ dvs)) H2 Q E
/-- C(..): a new instance and its dict, then __init__ -/
def tMake (C : Addr) (sp : Sp) (dvs : List V) (E : XK) (t : TA) : TE := fun σ H Q => t σ H fun vs H1 => ∀ x dx, H1 x = none → H1 dx = none → dx ≠ x →
  sp (.ref x :: (vs ++ dvs)) (upd (upd H1 dx (.own x)) x (.ins C dx [])) (fun v H2 => v = .non ∧ Q (.ref x) H2) E

/-- how the parameters are bound: us the positional arguments, kw the keywords' values by name, ds the defaults that fill up -/
def Binds (K : PySem.W.Frag) (fd : FuncData) (ps : List Str) (ds : List Value) : Prop :=
  ∀ (s : Shared) (us : List Value), K.In s.heap → (us ++ ds).length = ps.length → BindsTo s fd ⟨us, []⟩ (ps.zip (us ++ ds))
/-- every parameter is given -/
theorem Binds.all {K : PySem.W.Frag} {fd : FuncData} {ps : List Str} (h : ∀ us : List Value, us.length = ps.length → bindArgs fd ⟨us, []⟩ = pure (ps.zip us)) : Binds K fd ps [] := fun s us _ hl => by
  rw [List.append_nil] at hl ⊢
  exact .of_eq (h us hl)

/-- an exception of a callee reaches what this body wants of exceptions -/
def Passes (CX : CXT) (X : Cx) (E : XK) : Prop := ∀ (pins : List (Addr × Obj)) (σ : St) (H : Hp) (s : Shared) (e : Value) (s' : Shared), Inv X pins σ H s → CX X.stack H s E e s' → X.xe e s'

section
variable {X : Cx} {CX : CXT} {k : Nat} {f C : Addr} {fd : FuncData} {ps : List Str} {sp : Sp} {dvs : List V} {ds : List Value} {E : XK} {x m : Str} {p pos apos : Pos} {e o : Expr} {es : List Expr} {ta : TE} {t : TA}

/-- the callee runs -/
theorem run_fn {pins : List (Addr × Obj)} {σ : St} {H : Hp} {s : Shared} {Q : VK} {us : List Value} {vs : List V} (F : FnOk X.prog X.w X.K X.mg X.base CX k f fd ps sp) (hr : Room k X.A) (hb : Binds X.K fd ps ds) (hd : Vals dvs ds) (hx : Passes CX X E)
    (I : Inv X pins σ H s) (r : Vals vs us) (h : sp (vs ++ dvs) H Q E) : wpAny (model X.prog X.w) X.A (call (.ref f) us) (EP X pins σ Q) X.xe s := by
  have r2 : Vals (vs ++ dvs) (us ++ ds) := r.append hd
  have hl : (us ++ ds).length = ps.length := by rw [← r2.length]; exact F.len _ _ _ _ h
  refine wpAny_call (codeAny_mono (F.run X.A X.stack s H ⟨us, []⟩ (us ++ ds) (vs ++ dvs) Q E hr I.env0 (hb s us I.kIn hl) r2 h) fun r s' hq => ?_)
  cases r with
  | error e => exact hx pins σ H s e s' I hq
  | ok fl =>
    cases fl with
    | ret u => exact I.after hq
    | next => exact False.elim hq
    | brk => exact False.elim hq
    | cont => exact False.elim hq

theorem pe_call (F : FnOk X.prog X.w X.K X.mg X.base CX k f fd ps sp) (hr : Room k X.A) (hg : Gl X x) (hm : X.mg x = some (.ref f)) (hk : PySem.W.keepIn X.K (.ref f) = true) (hb : Binds X.K fd ps ds) (hd : Vals dvs ds) (hx : Passes CX X E)
    (ha : PA X (e :: es) t) (hdb : (x == ("__debug__" : Str)) = false := by decide) (he : starEach (e :: es) X.env = (false, eval e X.env) :: starEach es X.env := by rfl) (hpl : (backTo pos (starEach es X.env)).any (·.1) = false := by rfl) :
    PE X (.Call (.Name x p) (e :: es) [] pos) (tCall sp dvs E t) := by
  intro pins s σ H Q I h
  refine wpAny_Call_Name_kw (ld_glob I hg hm ?_ hdb)
  refine PySem.W.callWith_K (h₀ := X.base) I.ok.mod.kin hk (thn (ha pos pins s σ H _ I h) fun us s1 ⟨vs, H1, I1, r, q⟩ => ⟨I1.kIn, ?_⟩) he hpl
  exact run_fn F hr hb hd hx I1 r q
theorem pe_call0 (F : FnOk X.prog X.w X.K X.mg X.base CX k f fd ps sp) (hr : Room k X.A) (hg : Gl X x) (hm : X.mg x = some (.ref f)) (hk : PySem.W.keepIn X.K (.ref f) = true) (hb : Binds X.K fd ps ds) (hd : Vals dvs ds) (hx : Passes CX X E)
    (hdb : (x == ("__debug__" : Str)) = false := by decide) : PE X (.Call (.Name x p) [] [] pos) (tCall sp dvs E tNil) := by
  intro pins s σ H Q I h
  refine wpAny_Call_Name_kw (ld_glob I hg hm ?_ hdb)
  exact PySem.W.callWith_K0 I.kIn hk (run_fn (us := []) F hr hb hd hx I .nil h)

/-- o.m(e, ..) -/
theorem pe_meth {pl : Sem Bool} (he : PE X o ta) (c : Cls X.K C) (hm : Meth X.K C m f) (F : FnOk X.prog X.w X.K X.mg X.base CX k f fd ps sp) (hr : Room k X.A) (hb : Binds X.K fd ps ds) (hd : Vals dvs ds) (hx : Passes CX X E) (ha : PA X (e :: es) t)
    (hst : starEach (e :: es) X.env = (false, eval e X.env) :: starEach es X.env := by rfl) (hpl : (backTo pos (starEach es X.env)).any (·.1) = false := by rfl)
    (ht : eval (.Call (.Attribute o m apos) (e :: es) [] pos) X.env = (do
      let ov ← eval o X.env
      standAt apos.atName
      let (f, first) ← holding [ov] (getMethod ov m pl)
      callWith pos f first (backTo pos (starEach (e :: es) X.env)) (backToKw pos (keywordEach [] X.env))) := by rfl) :
    PE X (.Call (.Attribute o m apos) (e :: es) [] pos) (tMeth C m sp dvs E ta t) := by
  intro pins s σ H Q I h
  refine PySem.W.methodCall_KW (pl := pl) (thn (he pins s σ H _ I h) fun u s1 ⟨x, H1, I1, rx, a, dx, fs, ex, ea, l, q⟩ => ?_) ht
  subst ex
  obtain rfl : u = Value.ref a := rx
  refine getmeth_ok I1 ea c hm l ?_
  refine PySem.W.callWith_K (first := [.ref a]) (h₀ := X.base) I.ok.mod.kin hm.kp (thn (ha pos pins s1 σ H1 _ I1 q) fun us s2 ⟨vs, H2, I2, r, q2⟩ => ⟨I2.kIn, ?_⟩) hst hpl
  exact run_fn (us := .ref a :: us) (vs := .ref a :: vs) F hr hb hd hx I2 (.cons rfl r) q2
/-- o.m() -/
theorem pe_meth0 {pl : Sem Bool} (he : PE X o ta) (c : Cls X.K C) (hm : Meth X.K C m f) (F : FnOk X.prog X.w X.K X.mg X.base CX k f fd ps sp) (hr : Room k X.A) (hb : Binds X.K fd ps ds) (hd : Vals dvs ds) (hx : Passes CX X E)
    (ht : eval (.Call (.Attribute o m apos) [] [] pos) X.env = (do
      let ov ← eval o X.env
      standAt apos.atName
      let (f, first) ← holding [ov] (getMethod ov m pl)
      callWith pos f first (backTo pos (starEach [] X.env)) (backToKw pos (keywordEach [] X.env))) := by rfl) :
    PE X (.Call (.Attribute o m apos) [] [] pos) (tMeth C m sp dvs E ta tNil) := by
  intro pins s σ H Q I h
  refine PySem.W.methodCall_KW (pl := pl) (thn (he pins s σ H _ I h) fun u s1 ⟨x, H1, I1, rx, a, dx, fs, ex, ea, l, q⟩ => ?_) ht
  subst ex
  obtain rfl : u = Value.ref a := rx
  refine getmeth_ok I1 ea c hm l ?_
  exact PySem.W.callWith_K0 (first := [.ref a]) I1.kIn hm.kp (run_fn (us := [.ref a]) (vs := [.ref a]) F hr hb hd hx I1 (.cons rfl .nil) q)

/-- what a class must have to be made -/
structure Mk (K : PySem.W.Frag) (C f : Addr) : Prop where
  makes : PySem.W.makesIn K C = true
  init : PySem.W.findIn K (.ref C) "__init__" = some (some (.ref f))
  fn : PySem.W.isFn K (.ref f) = true
  kp : PySem.W.keepIn K (.ref C) = true

theorem run_make {pins : List (Addr × Obj)} {σ : St} {H : Hp} {s : Shared} {Q : VK} {us : List Value} {vs : List V} (M : Mk X.K C f) (F : FnOk X.prog X.w X.K X.mg X.base CX k f fd ps sp) (hr : Room (k + 1) X.A) (hb : Binds X.K fd ps ds) (hd : Vals dvs ds)
    (hx : Passes CX X E) (I : Inv X pins σ H s) (r : Vals vs us)
    (h : ∀ x dx, H x = none → H dx = none → dx ≠ x → sp (.ref x :: (vs ++ dvs)) (upd (upd H dx (.own x)) x (.ins C dx [])) (fun v H2 => v = .non ∧ Q (.ref x) H2) E) :
    wpAny (model X.prog X.w) X.A (call (.ref C) us) (EP X pins σ Q) X.xe s := by
  have hq := h (s.heap.objs.size + 1) s.heap.objs.size (I.hok.fresh (Nat.le_succ _)) (I.hok.fresh (Nat.le_refl _)) (Nat.ne_of_lt (Nat.lt_succ_self _))
  have I2 := Inv.made (C := C) I
  have r2 : Vals (V.ref (s.heap.objs.size + 1) :: (vs ++ dvs)) (Value.ref (s.heap.objs.size + 1) :: (us ++ ds)) := .cons rfl (r.append hd)
  have hl : (Value.ref (s.heap.objs.size + 1) :: us ++ ds).length = ps.length := by
    have e := r2.length
    rw [F.len _ _ _ _ hq] at e
    exact e.symm
  refine wpAny_call (make_map (f := f) I.kIn M.makes M.init (beq_iff_eq.mp M.fn) (codeAny_mono (F.run _ X.stack _ _ ⟨Value.ref (s.heap.objs.size + 1) :: us, []⟩ (Value.ref (s.heap.objs.size + 1) :: (us ++ ds)) _ _ E (hr.make C us [])
    (I2.env0.make C us []) (hb _ (Value.ref (s.heap.objs.size + 1) :: us) I2.kIn hl) r2 hq) fun r s' hq' => ?_))
  cases r with
  | error e => exact hx pins σ _ _ e s' I2 hq'
  | ok fl =>
    cases fl with
    | ret u =>
      obtain ⟨v, H', I3, rv, ev, q3⟩ := I2.after hq'
      subst ev
      exact ⟨rv, ⟨V.ref (s.heap.objs.size + 1), H', I3, rfl, q3⟩⟩
    | next => exact False.elim hq'
    | brk => exact False.elim hq'
    | cont => exact False.elim hq'
theorem pe_make (M : Mk X.K C f) (F : FnOk X.prog X.w X.K X.mg X.base CX k f fd ps sp) (hr : Room (k + 1) X.A) (hg : Gl X x) (hm : X.mg x = some (.ref C)) (hb : Binds X.K fd ps ds) (hd : Vals dvs ds) (hx : Passes CX X E)
    (ha : PA X (e :: es) t) (hdb : (x == ("__debug__" : Str)) = false := by decide) (he : starEach (e :: es) X.env = (false, eval e X.env) :: starEach es X.env := by rfl) (hpl : (backTo pos (starEach es X.env)).any (·.1) = false := by rfl) :
    PE X (.Call (.Name x p) (e :: es) [] pos) (tMake C sp dvs E t) := by
  intro pins s σ H Q I h
  refine wpAny_Call_Name_kw (ld_glob I hg hm ?_ hdb)
  refine PySem.W.callWith_K (h₀ := X.base) I.ok.mod.kin M.kp (thn (ha pos pins s σ H _ I h) fun us s1 ⟨vs, H1, I1, r, q⟩ => ⟨I1.kIn, ?_⟩) he hpl
  exact run_make M F hr hb hd hx I1 r q
theorem pe_make0 (M : Mk X.K C f) (F : FnOk X.prog X.w X.K X.mg X.base CX k f fd ps sp) (hr : Room (k + 1) X.A) (hg : Gl X x) (hm : X.mg x = some (.ref C)) (hb : Binds X.K fd ps ds) (hd : Vals dvs ds) (hx : Passes CX X E)
    (hdb : (x == ("__debug__" : Str)) = false := by decide) : PE X (.Call (.Name x p) [] [] pos) (tMake C sp dvs E tNil) := by
  intro pins s σ H Q I h
  refine wpAny_Call_Name_kw (ld_glob I hg hm ?_ hdb)
  exact PySem.W.callWith_K0 I.kIn M.kp (run_make (us := []) M F hr hb hd hx I .nil h)
end

/-! ### keywords -/
/-- the values of the keywords, from the left -/
def PK (X : Cx) (kws : List Keyword) (t : TA) : Prop :=
  ∀ (pos : Pos) (pins : List (Addr × Obj)) (s : Shared) (σ : St) (H : Hp) (Q : List V → Hp → Prop), Inv X pins σ H s → t σ H Q → wpAny (model X.prog X.w) X.A (evalAll ((backToKw pos (keywordEach kws X.env)).map (·.2))) (AP X pins σ Q) X.xe s
section
variable {X : Cx} {CX : CXT} {k : Nat} {f C : Addr} {fd : FuncData} {ps ks : List Str} {sp : Sp} {E : XK} {x m : Str} {p pos apos kpos : Pos} {e o : Expr} {es : List Expr} {kws : List Keyword} {te ta : TE} {t tk : TA} {nm : Option Str}
theorem pk_nil : PK X [] tNil := fun _ _ _ _ H Q I h => wpAny_evalAll_nil ⟨[], H, I, .nil, h⟩
theorem pk_cons (ha : PE X e te) (hr : PK X kws t) : PK X (⟨nm, e, kpos⟩ :: kws) (tCons te t) := by
  intro pos pins s σ H Q I h
  show wpAny _ _ (evalAll ((do let v ← eval e X.env; standAt pos; pure v) :: (backToKw pos (keywordEach kws X.env)).map (·.2))) _ _ s
  refine wpAny_evalAll_cons (wpAny_bind (thn (ha pins s σ H _ I h) fun u s1 ⟨x, H1, I1, r1, q1⟩ => wpAny_bind (wpAny_standAt (wpAny_pure ?_))))
  exact thn (hr pos pins s1 σ H1 _ I1 q1) fun us s2 ⟨xs, H2, I2, r2, q2⟩ => ⟨x :: xs, H2, I2, .cons r1 r2, q2⟩

/-- how a call with keywords binds: g puts the positional values us and the keywords' values ws (names ks) in the parameters' order, defaults among them -/
structure KBinds (K : PySem.W.Frag) (fd : FuncData) (ps ks : List Str) (g : List Value → List Value → List Value) (gV : List V → List V → List V) : Prop where
  to : ∀ (s : Shared) (us ws : List Value), K.In s.heap → (g us ws).length = ps.length → BindsTo s fd ⟨us, ks.zip ws⟩ (ps.zip (g us ws))
  rel : ∀ {vs : List V} {us : List Value} {zs : List V} {ws : List Value}, Vals vs us → Vals zs ws → Vals (gV vs zs) (g us ws)
def tCallK (sp : Sp) (gV : List V → List V → List V) (E : XK) (t tk : TA) : TE := fun σ H Q => t σ H fun vs H1 => tk σ H1 fun zs H2 => sp (gV vs zs) H2 Q E
variable {g : List Value → List Value → List Value} {gV : List V → List V → List V}
theorem run_fnk {pins : List (Addr × Obj)} {σ : St} {H : Hp} {s : Shared} {Q : VK} {us ws : List Value} {vs zs : List V} (F : FnOk X.prog X.w X.K X.mg X.base CX k f fd ps sp) (hr : Room k X.A) (hb : KBinds X.K fd ps ks g gV) (hx : Passes CX X E)
    (I : Inv X pins σ H s) (r : Vals vs us) (rz : Vals zs ws) (h : sp (gV vs zs) H Q E) : wpAny (model X.prog X.w) X.A (call (.ref f) us (ks.zip ws)) (EP X pins σ Q) X.xe s := by
  have r2 := hb.rel r rz
  have hl : (g us ws).length = ps.length := by rw [← r2.length]; exact F.len _ _ _ _ h
  refine wpAny_call (codeAny_mono (F.run X.A X.stack s H ⟨us, ks.zip ws⟩ (g us ws) (gV vs zs) Q E hr I.env0 (hb.to s us ws I.kIn hl) r2 h) fun r s' hq => ?_)
  cases r with
  | error e => exact hx pins σ H s e s' I hq
  | ok fl =>
    cases fl with
    | ret u => exact I.after hq
    | next => exact False.elim hq
    | brk => exact False.elim hq
    | cont => exact False.elim hq
/-- f(e, .., k = v, ..) -/
theorem pe_callK (F : FnOk X.prog X.w X.K X.mg X.base CX k f fd ps sp) (hr : Room k X.A) (hg : Gl X x) (hm : X.mg x = some (.ref f)) (hk : PySem.W.keepIn X.K (.ref f) = true) (hb : KBinds X.K fd ps ks g gV) (hx : Passes CX X E)
    (ha : PA X (e :: es) t) (hkw : PK X kws tk) (hall : (backToKw pos (keywordEach kws X.env)).all (·.1.isSome) = true := by rfl) (hks : (backToKw pos (keywordEach kws X.env)).filterMap (·.1) = ks := by rfl)
    (hdb : (x == ("__debug__" : Str)) = false := by decide) (he : starEach (e :: es) X.env = (false, eval e X.env) :: starEach es X.env := by rfl)
    (hpl : ((backTo pos (starEach (e :: es) X.env)).any (·.1) || (backToKw pos (keywordEach kws X.env)).any (·.1.isNone)) = false := by rfl) :
    PE X (.Call (.Name x p) (e :: es) kws pos) (tCallK sp gV E t tk) := by
  intro pins s σ H Q I h
  refine wpAny_Call_Name_kw (ld_glob I hg hm ?_ hdb)
  refine PySem.W.callWith_KW (h₀ := X.base) I.ok.mod.kin hk hall (thn (ha pos pins s σ H _ I h) fun us s1 ⟨vs, H1, I1, r, q⟩ => ?_) hpl he
  refine thn (hkw pos pins s1 σ H1 _ I1 q) fun ws s2 ⟨zs, H2, I2, rz, q2⟩ => ⟨I2.kIn, ?_⟩
  rw [hks]
  exact run_fnk F hr hb hx I2 r rz q2
end

/-! ### a def's body keeps its promise -/
/-- names: the parameters first -/
structure FnScope (N P : List Str) (sc : Scope) : Prop where
  kind : sc.kind = .function
  co : sc.isCoroutine = false
  gen : sc.isGenerator = false
  nd : N.Nodup
  pre : N.take P.length = P
  par : ∀ x ∈ P, sc.names.lookup x = some .local ∨ sc.names.lookup x = some .cell
  nofree : ∀ y ∈ sc.names, y.2 ≠ .free

theorem bindL_out {kindOf : Str → Option NameKind} {x : Str} : ∀ {binds : List (Str × Value)} {m : Str → Option Value}, (∀ v, (x, v) ∉ binds) → bindL kindOf binds m x = m x
  | [], _, _ => rfl
  | (n, v) :: r, m, h => by
    unfold bindL
    rw [bindL_out fun w hw => h w (List.mem_cons_of_mem _ hw)]
    split
    · have : x ≠ n := by rintro rfl; exact h v List.mem_cons_self
      simp [this]
    · rfl
theorem bindC_out {kindOf : Str → Option NameKind} {x : Str} : ∀ {binds : List (Str × Value)} {m : Str → Option Value}, (∀ v, (x, v) ∉ binds) → bindC kindOf binds m x = m x
  | [], _, _ => rfl
  | (n, v) :: r, m, h => by
    unfold bindC
    rw [bindC_out fun w hw => h w (List.mem_cons_of_mem _ hw)]
    split
    · rfl
    · have : x ≠ n := by rintro rfl; exact h v List.mem_cons_self
      simp [this]
theorem bindL_get {kindOf : Str → Option NameKind} {x : Str} {v : Value} : ∀ {P : List Str} {vs : List Value} {i : Nat} {m : Str → Option Value}, P.Nodup → P[i]? = some x → vs[i]? = some v → kindOf x = some .local →
    bindL kindOf (P.zip vs) m x = some v
  | [], _, _, _, _, h, _, _ => by simp at h
  | _ :: _, [], _, _, _, _, h, _ => by simp at h
  | p :: P, w :: vs, 0, m, nd, h1, h2, hk => by
    simp at h1 h2; subst h1; subst h2
    show bindL kindOf ((p, w) :: P.zip vs) m p = _
    unfold bindL
    rw [bindL_out fun v hv => (List.nodup_cons.mp nd).1 (List.of_mem_zip hv).1, if_pos hk]
    simp
  | p :: P, w :: vs, i + 1, m, nd, h1, h2, hk => by
    show bindL kindOf ((p, w) :: P.zip vs) m x = _
    unfold bindL
    exact bindL_get (i := i) (List.nodup_cons.mp nd).2 (by simpa using h1) (by simpa using h2) hk
theorem bindC_get {kindOf : Str → Option NameKind} {x : Str} {v : Value} : ∀ {P : List Str} {vs : List Value} {i : Nat} {m : Str → Option Value}, P.Nodup → P[i]? = some x → vs[i]? = some v → kindOf x ≠ some .local →
    bindC kindOf (P.zip vs) m x = some v
  | [], _, _, _, _, h, _, _ => by simp at h
  | _ :: _, [], _, _, _, _, h, _ => by simp at h
  | p :: P, w :: vs, 0, m, nd, h1, h2, hk => by
    simp at h1 h2; subst h1; subst h2
    show bindC kindOf ((p, w) :: P.zip vs) m p = _
    unfold bindC
    rw [bindC_out fun v hv => (List.nodup_cons.mp nd).1 (List.of_mem_zip hv).1, if_neg hk]
    simp
  | p :: P, w :: vs, i + 1, m, nd, h1, h2, hk => by
    show bindC kindOf ((p, w) :: P.zip vs) m x = _
    unfold bindC
    exact bindC_get (i := i) (List.nodup_cons.mp nd).2 (by simpa using h1) (by simpa using h2) hk

/-- the names' values at the entry -/
def start (N : List Str) (vs : List V) : St := vs.map some ++ List.replicate (N.length - vs.length) none

/-- the context of a def's body, at its entry; an exception leaves the frame, then lies as CX says -/
def cxOf (CX : CXT) (P : Program) (w : World) (K : PySem.W.Frag) (mg : Str → Option Value) (base : Heap) (N : List Str) (qual : Str) (scope : Scope) (f : Addr) (cd : Value) (A : Around) (outer : List Env) (s : Shared) (H : Hp) (E : XK) : Cx where
  prog := P
  w := w
  K := K
  mg := mg
  base := base
  A := A.deeper (envOfC qual scope s.heap.objs.size f cd)
  N := N
  s₀ := s
  H₀ := H
  env := envOfC qual scope s.heap.objs.size f cd
  outer := outer
  stack := envOfC qual scope s.heap.objs.size f cd :: outer
  ex := []
  calm := true
  fn := fun _ => true
  pn := []
  xe := fun e s' => wpAny (model P w) (A.deeper (envOfC qual scope s.heap.objs.size f cd)) (leaving (envOfC qual scope s.heap.objs.size f cd) e) (fun _ s'' => CX outer H s E e s'') (fun e' s'' => CX outer H s E e' s'') s'

theorem cell_has {sc : Scope} {n : Nat} {x : Str} (h : sc.names.lookup x = some .cell) : ∃ c, (cellsFrom n sc.names []).lookup x = some c := by
  have q := PySem.W.cellsFrom_some sc.names n [] (.inl h)
  exact Option.isSome_iff_exists.mp q

theorem inv_start {CX : CXT} {P : Program} {w : World} {K : PySem.W.Frag} {mg : Str → Option Value} {base : Heap} {N ps : List Str} {qual : Str} {scope : Scope} {f : Addr} {cd : Value} {A : Around} {outer : List Env} {s s1 : Shared} {H : Hp} {E : XK} {us : List Value} {vs : List V}
    (S : FnScope N ps scope) (hd : A.handled = none) (e0 : Env0 P w K mg base A outer s H) (hl : vs.length = ps.length) (r : Vals vs us)
    (x : InCallC s s.heap.objs.size (bindL (envOfC qual scope s.heap.objs.size f cd).kindOf (ps.zip us) fun _ => none) (cellsFrom (s.heap.objs.size + 1) scope.names []) (bindC (envOfC qual scope s.heap.objs.size f cd).kindOf (ps.zip us) fun _ => none) s1) :
    Inv (cxOf CX P w K mg base N qual scope f cd A outer s H E) [] (start N vs) H s1 := by
  have hpl : ps.length ≤ N.length := by have := congrArg List.length S.pre; rw [List.length_take] at this; omega
  obtain ⟨h1, tk, rfl, hk⟩ := x.done
  have noA : ∀ b : Addr, b ∉ (cxOf CX P w K mg base N qual scope f cd A outer s H E).ex := fun b z => absurd (show b ∈ ([] : List Addr) from z) (by simp)
  refine ⟨⟨e0.mod, S.kind, rfl, rfl, Nat.le_refl _, fun y z c h1 h2 => ?_, fun y hy => ?_, fun y c _ h => ?_, fun _ => hd, Around.frames_deeper e0.frames, .inr ⟨rfl, rfl⟩, fun b z => absurd z (noA b), e0.bs, e0.bsz, fun b _ _ => noA b, fun b z => absurd z (noA b), e0.funs, e0.frf⟩,
    rfl, e0.bare, Un.kept hk, ⟨_, x.toInCall.ns, fun i y v h1 h2 h3 => ?_⟩, fun y c h => ⟨_, x.cell y c h⟩, e0.hok.fresh (Nat.le_refl _), fun y c h => ?_, fun p hp => absurd (show p ∈ ([] : List (Addr × Obj)) from hp) (by simp), e0.hok.kept hk, ?_⟩
  · exact name_of_addr x.apart (PySem.mem_of_lookup h1) (PySem.mem_of_lookup h2)
  · have hy : scope.names.lookup y = some .cell ∨ scope.names.lookup y = some .free := hy
    rcases hy with hy | hy
    · exact cell_has hy
    · exact absurd rfl (S.nofree _ (PySem.mem_of_lookup hy))
  · exact Nat.le_of_lt (x.above y c (PySem.mem_of_lookup h))
  · have hi : i < vs.length := by
      unfold start at h2
      by_cases hi : i < vs.length
      · exact hi
      · rw [List.getElem?_append_right (by simpa using hi)] at h2
        rw [List.getElem?_replicate] at h2
        split at h2 <;> cases h2
    have ha : vs[i]? = some v := by
      unfold start at h2
      rw [List.getElem?_append_left (by simpa using hi), List.getElem?_map] at h2
      cases e : vs[i]? with
      | none => rw [e] at h2; cases h2
      | some a => rw [e] at h2; cases h2; rfl
    obtain ⟨u, hu, rv⟩ := r.get ha
    have hp : ps[i]? = some y := by
      rw [← S.pre, List.getElem?_take_of_lt (by omega)]; exact h1
    have ndP : ps.Nodup := by rw [← S.pre]; exact S.nd.sublist (List.take_sublist _ _)
    refine ⟨u, rv, ?_⟩
    rcases S.par y (List.mem_of_getElem? hp) with k | k
    · exact .inl ⟨k, bindL_get ndP hp hu k⟩
    · obtain ⟨c, e⟩ := cell_has (n := s.heap.objs.size + 1) k
      refine .inr ⟨.inl k, c, e, ?_⟩
      have q := x.cell y c e
      rw [bindC_get ndP hp hu (by show scope.names.lookup y ≠ _; rw [k]; decide)] at q
      exact q
  · exact e0.hok.fresh (Nat.le_of_lt (x.above y c (PySem.mem_of_lookup h)))
  · unfold start
    show _ = N.length
    rw [List.length_append, List.length_map, List.length_replicate]
    omega

/-- THE RULE: a def (or a method) of the text, by its body. The body's reading t is chosen for each entry; it is run at the parameters' values -/
theorem fn_of {CX : CXT} {P : Program} {w : World} {K : PySem.W.Frag} {mg : Str → Option Value} {base : Heap} {k : Nat} {f : Addr} {name qual : Str} {params : Arguments} {body : List Stmt} {scope : Scope} {dV kV doc pm cdv ct oc : Value} {an od : Option Addr}
    {osl : Array (Option Value)} {N ps : List Str} {sp : Sp} (lk : K.lookup f = some ⟨oc, od, .func (PySem.W.fnOf name qual params body scope dV kV doc pm an cdv ct), osl⟩) (hcd : PySem.W.codeIn K cdv qual = true) (S : FnScope N ps scope)
    (len : ∀ vs H Q E, sp vs H Q E → vs.length = ps.length)
    (hbody : ∀ (A : Around) (outer : List Env) (s : Shared) (H : Hp) (vs : List V) (Q : VK) (E : XK), Room k (A.deeper (envOfC qual scope s.heap.objs.size f cdv)) → sp vs H Q E →
      ∃ t, PSs (cxOf CX P w K mg base N qual scope f cdv A outer s H E) body t ∧ t { nx := fun _ H' => Q .non H', rt := Q } (start N vs) H) :
    FnOk P w K mg base CX (k + 1) f (PySem.W.fnOf name qual params body scope dV kV doc pm an cdv ct) ps sp := by
  refine ⟨len, fun A outer s H args us vs Q E hr e0 hb r hsp => ?_⟩
  have hl := len _ _ _ _ hsp
  have KX : K.In s.heap := e0.mod.kin.keeps fun b o e => (e0.bs b o e).1
  have lim : s.heap.NoLimit := e0.mod.nolimit.keeps fun b o e => (e0.bs b o e).1
  have hkind : ∀ y ∈ ps.zip us, scope.names.lookup y.1 = some .local ∨ (scope.names.lookup y.1 = some .cell ∧ ((cellsFrom (s.heap.objs.size + 1) scope.names []).lookup y.1).isSome = true) := fun ⟨n, v⟩ hy => by
    rcases S.par n (List.of_mem_zip hy).1 with q | q
    · exact .inl q
    · exact .inr ⟨q, PySem.W.cellsFrom_some _ _ _ (.inl q)⟩
  refine codeAny_call_function hr.depth (KX _ _ lk) rfl S.co S.gen rfl (PySem.W.codeRec_of KX hcd) (hb _ _ _ _ ?_)
  refine wpAny_newFunctionEnv_cells S.kind hkind fun env he s1 x => ?_
  subst he
  refine ⟨lim.keeps x.toInCall.keep, codeAny_func ?_⟩
  obtain ⟨t, ht, hq⟩ := hbody A outer s H vs Q E (hr.deeper _) hsp
  have I : Inv (cxOf CX P w K mg base N qual scope f cdv A outer s H E) [] (start N vs) H s1 := inv_start S hr.hd e0 hl r x
  refine wpAny_mono (ht [] s1 (start N vs) H _ I hq) (fun fl s' hs => ?_) fun e s' hs => hs
  have fin : ∀ {σ' : St} {H' : Hp} {v : V} {u : Value}, Inv (cxOf CX P w K mg base N qual scope f cdv A outer s H E) [] σ' H' s' → RelV v u → Q v H' → CE outer P w H s Q u s' :=
    fun {σ' H' v u} J rv q => ⟨v, H', J.os, J.bare, J.base, J.hok, rv, q⟩
  cases fl with
  | ret u =>
    obtain ⟨v, σ', H', J, rv, q⟩ := hs
    exact fin J rv q
  | next =>
    obtain ⟨σ', H', J, q⟩ := hs
    exact fin (v := V.non) (u := Value.none) J rfl q
  | brk =>
    obtain ⟨_, _, _, q⟩ := hs
    exact False.elim q
  | cont =>
    obtain ⟨_, _, _, q⟩ := hs
    exact False.elim q
end L2

namespace L2
open PySem PySem.Spec PyProof.Rows
section
variable {X : Cx} {x : Str} {p pos : Pos} {e : Expr} {es : List Expr} {t : TA} {id T : String} {r : List V → Hp → VK → Prop}

def tCB (r : List V → Hp → VK → Prop) (t : TA) : TE := fun σ H Q => t σ H fun vs H1 => r vs H1 Q
/-- f(e, ..), f a built-in function -/
theorem pe_callB (hc : CallR X (.builtin id) r) (hg : Gl X x) (hm : X.mg x = none) (hv : bootBuiltins x = some (.builtin id)) (ha : PA X (e :: es) t) (hn : x ≠ "__name__" := by decide) (hdb : (x == ("__debug__" : Str)) = false := by decide)
    (he : starEach (e :: es) X.env = (false, eval e X.env) :: starEach es X.env := by rfl) (hpl : (backTo pos (starEach es X.env)).any (·.1) = false := by rfl) : PE X (.Call (.Name x p) (e :: es) [] pos) (tCB r t) := by
  intro pins s σ H Q I h
  refine wpAny_Call_Name_kw (ld_blt I hg hm hv ?_ hn hdb)
  exact PyProof.Rows.callWith_builtin1 (thn (ha pos pins s σ H _ I h) fun us s1 ⟨vs, H1, I1, r1, q1⟩ => hc pins s1 σ H1 vs us Q I1 r1 q1) he hpl
/-- T(e, ..), T a built-in type -/
theorem pe_callTy (hc : CallR X (.type T) r) (hg : Gl X x) (hm : X.mg x = none) (hv : bootBuiltins x = some (.type T)) (ha : PA X (e :: es) t) (hn : x ≠ "__name__" := by decide) (hdb : (x == ("__debug__" : Str)) = false := by decide)
    (he : starEach (e :: es) X.env = (false, eval e X.env) :: starEach es X.env := by rfl) (hpl : (backTo pos (starEach es X.env)).any (·.1) = false := by rfl) : PE X (.Call (.Name x p) (e :: es) [] pos) (tCB r t) := by
  intro pins s σ H Q I h
  refine wpAny_Call_Name_kw (ld_blt I hg hm hv ?_ hn hdb)
  exact PyProof.Rows.callWith_type1 (thn (ha pos pins s σ H _ I h) fun us s1 ⟨vs, H1, I1, r1, q1⟩ => hc pins s1 σ H1 vs us Q I1 r1 q1) he hpl
/-- T() -/
theorem pe_callTy0 (hc : CallR X (.type T) r) (hg : Gl X x) (hm : X.mg x = none) (hv : bootBuiltins x = some (.type T)) (hn : x ≠ "__name__" := by decide) (hdb : (x == ("__debug__" : Str)) = false := by decide) :
    PE X (.Call (.Name x p) [] [] pos) (tCB r tNil) := by
  intro pins s σ H Q I h
  refine wpAny_Call_Name_kw (ld_blt I hg hm hv ?_ hn hdb)
  exact PyProof.Rows.callWith_type0 (hc pins s σ H [] [] Q I .nil h)
end
end L2

namespace HT
open PySem PyProof.Rows

/-- t < u of tuples of ints -/
def lexLt : List Int → List Int → Bool
  | [], [] => false
  | [], _ :: _ => true
  | _ :: _, [] => false
  | x :: xs, y :: ys => if x = y then lexLt xs ys else decide (x < y)
theorem lexLt_cons (x y : Int) (xs ys : List Int) : lexLt (x :: xs) (y :: ys) = if x = y then lexLt xs ys else decide (x < y) := rfl
theorem lexLt_nil_nil : lexLt [] [] = false := rfl
theorem lexLt_nil_cons (y : Int) (ys : List Int) : lexLt [] (y :: ys) = true := rfl
theorem lexLt_cons_nil (x : Int) (xs : List Int) : lexLt (x :: xs) [] = false := rfl

theorem eqAt_int (A : Around) (s : Shared) (a : Int) (t : Tok) (c : Int) (u : Tok) : ∃ e, SeqAt.EqAt A s (.int a t) (.int c u) e ∧ (e = true ↔ a = c) :=
  ⟨(a == c), SeqAt.EqAt.int_int a t c u, by simp⟩
theorem rcLt_int (A : Around) (s : Shared) (a : Int) (t : Tok) (c : Int) (u : Tok) (prog : Program) (w : World) (E : Value → Shared → Prop) (Q : Value → Shared → Prop) (h : Q (.bool (decide (a < c))) s) :
    wpAny (model prog w) A (richCompare .Lt (.int a t) (.int c u)) Q E s :=
  (PyProof.Rows.lt_int h : wpAny (model prog w) A (compareOp .Lt (.int a t) (.int c u)) Q E s)

section
open PySem.SeqAt
open PySem.AutoSeq1 (wpAny_loadPart')
open PySem.MeetsSeq PySem.MeetsSeq2 PySem.MeetsSeq3

theorem tuple_lt_ints (l b : Addr) (items items2 : Array Value) (n n2 : Nat) (dd dd2 : Option Addr) (sl sl2 : Array (Option Value)) (ns ms : List Int) (hi : IntsAre items.toList ns) (hj : IntsAre items2.toList ms) :
    Meets (Builtin.«tuple.__lt__» ⟨[.ref l, .ref b], []⟩)
      (fun _ R s => s.heap.get? l = some { cls := .type "tuple", dict := dd, data := .seq items n, slots := sl } ∧ s.heap.get? b = some { cls := .type "tuple", dict := dd2, data := .seq items2 n2, slots := sl2 } ∧
        R (.ok (.ret (.bool (lexLt ns ms)))) s) :=
  .of_wp fun prog w A R s h => by
    obtain ⟨hp, g, d, tk, os⟩ := s; obtain ⟨hl, hb, h⟩ := h
    have f2 := AutoSeq1.sub_tuple_tuple
    have z1 : items.size = ns.length := by rw [← hi.length]; simp
    have z2 : items2.size = ms.length := by rw [← hj.length]; simp
    wp_walk using wpAny_loadPart' hl, wpAny_loadPart' hb, wpAny_forIn_list _ (fun rest b s' => b.1 = none ∧ s' = ⟨hp, g, d, tk, os⟩ ∧ ∃ (vs ws : List Value) (ns' ms' : List Int), rest = vs.zip ws ∧
      IntsAre vs ns' ∧ IntsAre ws ms' ∧ ns'.length + items2.size = ms'.length + items.size ∧ R (.ok (.ret (.bool (lexLt ns' ms')))) ⟨hp, g, d, tk, os⟩) _
    case turn =>
      rintro ⟨y, x⟩ rest b s' ⟨hb', rfl, vs, ws, ns', ms', hz, hvi, hwi, hlen, hR⟩
      cases hvi with
      | nil => rw [List.zip_nil_left] at hz; cases hz
      | cons a t hvi' =>
        cases hwi with
        | nil => rw [List.zip_nil_right] at hz; cases hz
        | cons c u hwi' =>
          rw [List.zip_cons_cons] at hz
          injection hz with hyx hrest
          injection hyx with hy hx
          subst hy hx
          rw [lexLt_cons] at hR
          simp only [List.length_cons] at hlen
          obtain ⟨e, he, hiff⟩ := eqAt_int A.in1 ⟨hp, g, d, tk, os⟩ a t c u
          refine wpAny_bind (he prog w _ _ ?_)
          cases e with
          | true =>
            rw [if_pos (hiff.mp rfl)] at hR
            wp_walk
            exact ⟨rfl, rfl, _, _, _, _, hrest, hvi', hwi', by omega, hR⟩
          | false =>
            rw [if_neg (fun q => absurd (hiff.mpr q) Bool.false_ne_true)] at hR
            have hri := rcLt_int A.in1 ⟨hp, g, d, tk, os⟩ a t c u prog w
            wp_walk using hri
            exact ⟨_, rfl, by simpa using hR⟩
    case fin =>
      rintro ⟨b1, b2⟩ s' ⟨hb', rfl, vs, ws, ns', ms', hz, hvi, hwi, hlen, hR⟩
      simp only at hb'
      subst hb'
      have hv : lexLt ns' ms' = decide (items.size < items2.size) := by
        cases hvi with
        | nil =>
          cases hwi with
          | nil =>
            simp only [List.length_nil] at hlen
            rw [lexLt_nil_nil]
            exact (decide_eq_false (by omega)).symm
          | cons c u hw =>
            simp only [List.length_nil, List.length_cons] at hlen
            rw [lexLt_nil_cons]
            exact (decide_eq_true (by omega)).symm
        | cons a t hv =>
          cases hwi with
          | nil =>
            simp only [List.length_nil, List.length_cons] at hlen
            rw [lexLt_cons_nil]
            exact (decide_eq_false (by omega)).symm
          | cons c u hw =>
            rw [List.zip_cons_cons] at hz
            cases hz
      rw [hv] at hR
      wp_walk
      exact ⟨_, rfl, by simpa [Builtin.Tuple.tupleCompareSizes] using hR⟩
    case h =>
      exact ⟨rfl, rfl, items.toList, items2.toList, ns, ms, rfl, hi, hj, by omega, h⟩
end

section
variable {prog : Program} {w : World} {A : Around} {E : Value → Shared → Prop} {s : Shared}

theorem lt_tupInts {l b : Addr} {items items2 : Array Value} {ns ms : List Int} {Q : Value → Shared → Prop} (hl : IsTup s.heap l items) (hb : IsTup s.heap b items2) (hi : IntsAre items.toList ns) (hj : IntsAre items2.toList ms)
    (hu : A.units < cLine) (h : Q (.bool (lexLt ns ms)) s) : wpAny (model prog w) A (compareOp .Lt (.ref l) (.ref b)) Q E s := by
  obtain ⟨⟨cls, dd, data, sl⟩, ho, hc, n, hd⟩ := id hl
  obtain ⟨⟨cls2, dd2, data2, sl2⟩, ho2, hc2, n2, hd2⟩ := id hb
  simp only at hc hd hc2 hd2
  subst hc hd hc2 hd2
  exact richCompare_meets_room (op := .Lt) ⟨_, ho, rfl⟩ ⟨_, ho2, rfl⟩ PySem.F.slot_tuple_lt PySem.F.entry_tuple_lt (PySem.F.args_tuple_lt_2 _ _) (tuple_lt_ints l b items items2 n n2 dd dd2 sl sl2 ns ms hi hj)
    ⟨ho, ho2, show Value.bool (lexLt ns ms) ≠ Value.notImplemented ∧ Q (.bool (lexLt ns ms)) s from ⟨(fun x => nomatch x), h⟩⟩ hu

/-- t + u, t not empty -/
theorem cat_tup {t b : Addr} {vs ws : List Value} {Q : Value → Shared → Prop} (ht : IsTup s.heap t vs.toArray) (hb : IsTup s.heap b ws.toArray) (hv : vs ≠ [])
    (h1 : ws = [] → Q (.ref t) s) (h2 : ws ≠ [] → Q (.ref s.heap.objs.size) { s with heap := s.heap.push { cls := .type "tuple", data := .seq (vs ++ ws).toArray } })
    (hsz : vs.length + ws.length ≤ sizeLine) : wpAny (model prog w) A (binaryOp .Add (.ref t) (.ref b)) Q E s := by
  obtain ⟨⟨cls, dd, data, sl⟩, ho, hc, n, hd⟩ := id ht
  obtain ⟨⟨cls2, dd2, data2, sl2⟩, ho2, hc2, n2, hd2⟩ := id hb
  simp only at hc hd hc2 hd2
  subst hc hd hc2 hd2
  have e : vs.toArray ++ ws.toArray = (vs ++ ws).toArray := by simp
  by_cases hw : ws = []
  · exact concat_meets ⟨_, ho, rfl⟩ ⟨_, ho2, rfl⟩ noFill_tuple_add seq_tuple_add PySem.F.slot_tuple_add PySem.F.entry_tuple_add (PySem.F.args_tuple_add_2 _ _)
      (tuple_addW1 t b vs.toArray ws.toArray n n2 dd dd2 sl sl2 (by simpa using hv) (by simp [hw])) ⟨ho, ho2, h1 hw⟩
  · refine concat_meets ⟨_, ho, rfl⟩ ⟨_, ho2, rfl⟩ noFill_tuple_add seq_tuple_add PySem.F.slot_tuple_add PySem.F.entry_tuple_add (PySem.F.args_tuple_add_2 _ _)
      (tuple_addW2 t b vs.toArray ws.toArray n n2 dd dd2 sl sl2 (by simpa using hv) (by simpa using hw) (by rw [List.size_toArray, List.size_toArray]; exact hsz)) ⟨ho, ho2, ?_⟩
    rw [e]
    exact h2 hw

/-! ### t[a:b], not the whole -/
/-- a slice's bound as a place among n (d where it is left out) -/
def sIx (n d : Nat) : Option Int → Nat
  | none => d
  | some v => if v < 0 then (v + (n : Int)).toNat else min v.toNat n
theorem sIx_none (n d : Nat) : sIx n d none = d := rfl
theorem sIx_nat (n d k : Nat) : sIx n d (some (k : Int)) = min k n := by
  show (if (k : Int) < 0 then ((k : Int) + (n : Int)).toNat else min (k : Int).toNat n) = min k n
  rw [if_neg (by omega), Int.toNat_natCast]
theorem sIx_le (n d : Nat) (hd : d ≤ n) (o : Option Int) : sIx n d o ≤ n := by
  cases o with
  | none => exact hd
  | some v =>
    show (if v < 0 then (v + (n : Int)).toNat else min v.toNat n) ≤ n
    by_cases hv : v < 0
    · rw [if_pos hv]; omega
    · rw [if_neg hv]; exact Nat.min_le_right _ _
theorem clip_eq (v : Int) (n d : Nat) : (if v < 0 then max (v + (n : Int)) 0 else min v (n : Int)) = ((sIx n d (some v) : Nat) : Int) := by
  show (if v < 0 then max (v + (n : Int)) 0 else min v (n : Int)) = (((if v < 0 then (v + (n : Int)).toNat else min v.toNat n) : Nat) : Int)
  by_cases hv : v < 0
  · simp only [if_pos hv]; omega
  · simp only [if_neg hv]; omega
theorem adjust_gen (lo hi : Option Int) (n : Nat) : Builtin.Slice.sliceAdjust lo hi 1 (n : Int) = (((sIx n 0 lo : Nat) : Int), ((sIx n n hi : Nat) : Int)) := by
  have h1 : ¬ ((1 : Int) < 0) := by omega
  unfold Builtin.Slice.sliceAdjust
  simp only [h1, if_false]
  refine Prod.ext ?_ ?_
  · cases lo with
    | none => rfl
    | some v => exact clip_eq v n 0
  · cases hi with
    | none => rfl
    | some v => exact clip_eq v n n
theorem places_gen (i j : Nat) : Builtin.Slice.slicePlaces (i : Int) (j : Int) 1 = j - i := by
  unfold Builtin.Slice.slicePlaces
  have h1 : (1 : Int) > 0 := by omega
  simp only [h1, if_true, Int.ediv_one]
  split <;> omega
theorem slicePart_ {v : Value} {o : Option Int} {Q : Option Int → Shared → Prop} (p : IsPart v o) (h : Q o s) : wpAny (model prog w) A (Builtin.Slice.slicePartIndex v) Q E s := by
  cases p with
  | none => exact slicePart_none h
  | int i t => exact slicePart_int h
theorem sliceApplied_gen {sl : Addr} {vl vu : Value} {lo hi : Option Int} {n : Nat} {Q : Int × Int × Nat → Shared → Prop} (hs : s.heap.IsSliceOf sl vl vu .none) (pl : IsPart vl lo) (pu : IsPart vu hi)
    (h : Q (((sIx n 0 lo : Nat) : Int), 1, sIx n n hi - sIx n 0 lo) s) : wpAny (model prog w) A (Builtin.Slice.sliceApplied (.ref sl) (pure (n : Int))) Q E s := by
  obtain ⟨os, hos, hcs, hds⟩ := id hs
  unfold Builtin.Slice.sliceApplied Builtin.Slice.sliceFields
  refine wpAny_bind (wpAny_bind (wpAny_field hos hds (x := vl) rfl (wpAny_bind (wpAny_field hos hds (x := vu) rfl (wpAny_bind (wpAny_field hos hds (x := .none) rfl (wpAny_pure ?_)))))))
  refine wpAny_bind (slicePart_none ?_)
  show wpAny _ _ (if ((1 : Int) == 0) = true then _ else _) _ _ s
  rw [if_neg (by decide)]
  refine wpAny_bind (slicePart_ pl (wpAny_bind (slicePart_ pu (wpAny_bind (wpAny_pure ?_)))))
  show wpAny _ _ (match Builtin.Slice.sliceAdjust lo hi 1 (n : Int) with | (lo, hi) => pure (lo, (1 : Int), Builtin.Slice.slicePlaces lo hi 1)) _ _ s
  rw [adjust_gen lo hi n]
  show wpAny _ _ (pure (((sIx n 0 lo : Nat) : Int), (1 : Int), Builtin.Slice.slicePlaces ((sIx n 0 lo : Nat) : Int) ((sIx n n hi : Nat) : Int) 1)) _ _ s
  rw [places_gen]
  exact wpAny_pure h
theorem pick_gen (xs : Array Value) (i k : Nat) : ((List.range k).filterMap fun (m : Nat) => xs[((i : Int) + (m : Int) * 1).toNat]?).toArray = ((xs.toList.drop i).take k).toArray := by
  have e : (fun (m : Nat) => xs[((i : Int) + (m : Int) * 1).toNat]?) = fun m => xs[i + m]? := by
    funext m
    have : ((i : Int) + (m : Int) * 1).toNat = i + m := by omega
    rw [this]
  rw [e]
  have := pick_run xs i k
  rw [List.filterMap_map] at this
  have e2 : ((fun x => xs[x]?) ∘ fun x => i + x) = fun m => xs[i + m]? := rfl
  rw [e2] at this
  rw [this]

theorem getItem_tuple_cut {t sl : Addr} {items : Array Value} {vl vu : Value} {lo hi : Option Int} {Q : Value → Shared → Prop} (ht : IsTup s.heap t items) (hs : s.heap.IsSliceOf sl vl vu .none) (pl : IsPart vl lo) (pu : IsPart vu hi)
    (hw : ¬ (sIx items.size 0 lo = 0 ∧ sIx items.size items.size hi = items.size))
    (h : Q (.ref s.heap.objs.size) { s with heap := s.heap.push { cls := .type "tuple", data := .seq ((items.toList.drop (sIx items.size 0 lo)).take (sIx items.size items.size hi - sIx items.size 0 lo)).toArray } })
    (hsz : items.size ≤ sizeLine) : wpAny (model prog w) A (getItem (.ref t) (.ref sl)) Q E s := by
  have htake : sizeOk (.seq ((items.toList.drop (sIx items.size 0 lo)).take (sIx items.size items.size hi - sIx items.size 0 lo)).toArray) := by
    show ((items.toList.drop (sIx items.size 0 lo)).take (sIx items.size items.size hi - sIx items.size 0 lo)).toArray.size ≤ sizeLine
    rw [List.size_toArray, List.length_take, List.length_drop, Array.length_toList]
    omega
  have hj : sIx items.size items.size hi ≤ items.size := sIx_le _ _ (Nat.le_refl _) hi
  obtain ⟨os, hos, hcs, hds⟩ := id hs
  have hTs : s.TypeIs (.ref sl) "slice" := ⟨os, hos, hcs⟩
  unfold getItem
  try with_reducible refine wpAny_holding ?_
  first | refine wpAny_bind (wpAny_pure ?_) | skip
  refine wpAny_bind (wpAny_sequenceKey ht.typeIs (by decide) ?_)
  refine wpAny_bind (wpAny_callSpecial?_slot (name := Str.ofString "__getitem__") ht.typeIs PyProof.Rows.slot_tuple_getitem
    (wpAny_call_entry PyProof.Rows.slot_tuple_getitem ht.typeIs entry_tuple_getitem ?_ (args_tuple_getitem _ _)))
  show wpAny _ _ (Builtin.Tuple.tupleItemsOf (.ref t) >>= _) _ _ s
  refine wpAny_bind (tupleItemsOf_ ht ?_)
  refine wpAny_bind (wpAny_typeOf hTs ?_)
  rw [if_pos (by decide)]
  refine wpAny_bind (sliceApplied_gen hs pl pu ?_)
  have hno : ¬ ((((sIx items.size 0 lo : Nat) : Int) == 0 && (1 : Int) == 1 && (sIx items.size items.size hi - sIx items.size 0 lo) == items.size) = true) := by
    intro q
    rw [Bool.and_eq_true, Bool.and_eq_true] at q
    have q1 : ((sIx items.size 0 lo : Nat) : Int) = 0 := eq_of_beq q.1.1
    have q2 : sIx items.size items.size hi - sIx items.size 0 lo = items.size := eq_of_beq q.2
    exact hw ⟨by omega, by omega⟩
  show wpAny _ _ (if (((sIx items.size 0 lo : Nat) : Int) == 0 && (1 : Int) == 1 && (sIx items.size items.size hi - sIx items.size 0 lo) == items.size) = true then _ else _) _ _ s
  rw [if_neg hno, pick_gen]
  first
    | exact wpAny_bind (m := Builtin.Tuple.tupleExact _) (wpAny_newObj_type (wpAny_pure ⟨_, rfl, wpAny_pure h⟩) htake)
    | exact wpAny_bind (m := Builtin.Tuple.tupleExact _) (wpAny_newObj_type (wpAny_bind (wpAny_pure (wpAny_pure ⟨_, rfl, wpAny_pure h⟩))) htake)
    | exact wpAny_bind (wpAny_bind (m := Builtin.Tuple.tupleExact _) (wpAny_newObj_type (wpAny_pure (wpAny_pure ⟨_, rfl, wpAny_pure h⟩)) htake))
    | exact wpAny_bind (wpAny_bind (m := Builtin.Tuple.tupleExact _) (wpAny_newObj_type (wpAny_pure ⟨_, rfl, wpAny_pure h⟩) htake))
end
end HT

namespace L2
open PySem PySem.Spec PyProof.Rows

/-! ### the parts of a slice -/
abbrev TO := St → Hp → (Option Int → Hp → Prop) → Prop
/-- a slice's part (left out, or an int) -/
def PO (X : Cx) (e : Option Expr) (t : TO) : Prop :=
  ∀ (pins : List (Addr × Obj)) (s : Shared) (σ : St) (H : Hp) (Q : Option Int → Hp → Prop), Inv X pins σ H s → t σ H Q →
    wpAny (model X.prog X.w) X.A (evalPart e X.env) (fun u s' => ∃ o H', Inv X pins σ H' s' ∧ IsPart u o ∧ Q o H') X.xe s
def tNoPart : TO := fun _ H Q => Q none H
def tPart (t : TE) : TO := fun σ H Q => t σ H fun x H1 => ∃ i, x = .int i ∧ Q (some i) H1

theorem intsAre_of {ns : List Int} : ∀ {us : List Value}, Vals (ns.map V.int) us → IntsAre us ns := by
  induction ns with
  | nil => intro us r; rw [List.map_nil] at r; cases r; exact .nil
  | cons n ns ih =>
    intro us r
    rw [List.map_cons] at r
    cases r with
    | cons r1 r2 =>
      obtain ⟨t, e⟩ := r1
      subst e
      exact .cons n t (ih r2)

section
variable {X : Cx} {e : Expr} {te : TE} {lo hi : Option Expr} {tl th : TO} {pos p2 : Pos}

theorem po_none : PO X none tNoPart := by
  intro pins s σ H Q I h
  rw [evalPart_none]
  exact wpAny_pure ⟨none, H, I, .none, h⟩
theorem po_some (h : PE X e te) : PO X (some e) (tPart te) := by
  intro pins s σ H Q I hw
  rw [evalPart_some]
  refine thn (h pins s σ H _ I hw) fun u s1 ⟨x, H1, I1, r1, q1⟩ => ?_
  obtain ⟨i, rfl, q⟩ := q1
  obtain ⟨t, rfl⟩ := r1
  exact ⟨some i, H1, I1, .int i t, q⟩

/-- what a slice of a value is, by values: the slice object stands at sl -/
def SlR (X : Cx) (r : V → Option Int → Option Int → Hp → VK → Prop) : Prop :=
  ∀ (pins : List (Addr × Obj)) (s : Shared) (σ : St) (H : Hp) (x : V) (v vl vu : Value) (lo hi : Option Int) (sl : Addr) (Q : VK), Inv X pins σ H s → RelV x v → s.heap.IsSliceOf sl vl vu .none → IsPart vl lo → IsPart vu hi → r x lo hi H Q →
    ∃ T id, typeLookup (.type T) "__getitem__" = pure (some (.builtin id)) ∧ s.TypeIs v T ∧ wpAny (model X.prog X.w) X.A (getItem v (.ref sl)) (EP X pins σ Q) X.xe s
theorem SlR.or {r r' : V → Option Int → Option Int → Hp → VK → Prop} (h : SlR X r) (h' : SlR X r') : SlR X (fun x lo hi H Q => r x lo hi H Q ∨ r' x lo hi H Q) := by
  intro pins s σ H x v vl vu lo hi sl Q I rx hs pl pu q
  rcases q with q | q
  · exact h pins s σ H x v vl vu lo hi sl Q I rx hs pl pu q
  · exact h' pins s σ H x v vl vu lo hi sl Q I rx hs pl pu q
def tSl (r : V → Option Int → Option Int → Hp → VK → Prop) (te : TE) (tl th : TO) : TE := fun σ H Q => te σ H fun x H1 => tl σ H1 fun l H2 => th σ H2 fun u H3 => r x l u H3 Q
/-- a[lo:hi], any a -/
theorem pe_slice {r : V → Option Int → Option Int → Hp → VK → Prop} (hr : SlR X r) (he : PE X e te) (hl : PO X lo tl) (hu : PO X hi th) : PE X (.Subscript e (.Slice lo hi none p2) pos) (tSl r te tl th) := by
  intro pins s σ H Q I h
  refine Subscript_ (thn (he pins s σ H _ I h) fun v s1 ⟨x, H1, I1, r1, q1⟩ => ?_)
  refine wpAny_Slice (thn (hl pins s1 σ H1 _ I1 q1) fun vl s2 ⟨l, H2, I2, pl, q2⟩ => thn (hu pins s2 σ H2 _ I2 q2) fun vu s3 ⟨u, H3, I3, pu, q3⟩ => ?_)
  rw [evalPart_none]
  refine wpAny_pure ?_
  have I4 : Inv X pins σ H3 { s3 with heap := s3.heap.push { cls := .type "slice", data := .fields #[vl, vu, .none] } } := I3.kept (t' := s3.toks) fun b ob q => Heap.get?_push_of_some _ q
  obtain ⟨T, id, hT, ht, hg⟩ := hr pins { s3 with heap := s3.heap.push { cls := .type "slice", data := .fields #[vl, vu, .none] } } σ H3 x v vl vu l u s3.heap.objs.size Q I4 r1 (Heap.IsSliceOf.new ..) pl pu q3
  show wpAny (model X.prog X.w) X.A (subscriptTail e (.Slice lo hi none p2) v (.ref s3.heap.objs.size)) (EP X pins σ Q) X.xe { s3 with heap := s3.heap.push { cls := .type "slice", data := .fields #[vl, vu, .none] } }
  exact tail_any (ops := [.ref s3.heap.objs.size, v]) ht hT hg (by with_unfolding_all rfl)

/-- the items of xs[lo:hi] -/
def cutV (xs : List V) (lo hi : Option Int) : List V := (xs.drop (HT.sIx xs.length 0 lo)).take (HT.sIx xs.length xs.length hi - HT.sIx xs.length 0 lo)
theorem cutV_length (xs : List V) (lo hi : Option Int) : (cutV xs lo hi).length ≤ xs.length := by
  unfold cutV
  rw [List.length_take, List.length_drop]
  omega
/-- t[lo:hi], not the whole of it (the whole would be t itself) -/
def rSlT (K : PySem.W.Frag) : V → Option Int → Option Int → Hp → VK → Prop := fun x lo hi H Q => ∃ a xs, x = .ref a ∧ SqT K H a xs ∧
  ¬ (HT.sIx xs.length 0 lo = 0 ∧ HT.sIx xs.length xs.length hi = xs.length) ∧ ∀ p, H p = none → Q (.ref p) (upd H p (.tup (cutV xs lo hi)))
theorem sl_tup : SlR X (rSlT X.K) := by
  intro pins s σ H x v vl vu lo hi sl Q I rx hs pl pu h
  obtain ⟨a, xs, rfl, hx, hw, q⟩ := h
  cases rx
  obtain ⟨its, r, ht, hz⟩ := I.tuple hx
  have hlen : its.toArray.size = xs.length := by rw [List.size_toArray]; exact r.length.symm
  refine ⟨"tuple", _, PyProof.Rows.slot_tuple_getitem.lookup, ht.typeIs, ?_⟩
  refine HT.getItem_tuple_cut ht hs pl pu (by rw [hlen]; exact hw) ?_ (by rw [hlen]; exact hz)
  rw [hlen]
  refine ⟨.ref s.heap.objs.size, _, I.laid (t' := s.toks) (o := .tup (cutV xs lo hi)) (fun b ob q => Heap.get?_push_of_some _ q) (Nat.le_refl _) ?_, rfl, q _ (I.hok.fresh (Nat.le_refl _))⟩
  exact ⟨Nat.le_trans (cutV_length xs lo hi) hz, _, (r.drop (HT.sIx xs.length 0 lo)).take (HT.sIx xs.length xs.length hi - HT.sIx xs.length 0 lo), IsTup.new _ _⟩

/-! ### t < u, t + u -/
def rLtT (K : PySem.W.Frag) : R2 := fun x y H Q => ∃ a b ns ms, x = .ref a ∧ y = .ref b ∧ SqT K H a (ns.map V.int) ∧ SqT K H b (ms.map V.int) ∧ Q (.bl (HT.lexLt ns ms)) H
theorem op_ltT (hu : X.A.units < cLine) : OpR X (compareOp .Lt) (rLtT X.K) := by
  intro pins s σ H x y v u Q I rx ry h
  obtain ⟨a, b, ns, ms, rfl, rfl, ha, hb, q⟩ := h
  cases rx
  cases ry
  obtain ⟨its, r1, p1, _⟩ := I.tuple ha
  obtain ⟨its2, r2, p2, _⟩ := I.tuple hb
  have i1 : IntsAre its.toArray.toList ns := intsAre_of r1
  have i2 : IntsAre its2.toArray.toList ms := intsAre_of r2
  exact HT.lt_tupInts p1 p2 i1 i2 hu ⟨.bl (HT.lexLt ns ms), H, I, rfl, q⟩
/-- t + u, t not empty: u empty gives t itself -/
def rCatT (K : PySem.W.Frag) : R2 := fun x y H Q => ∃ a b xs ys, x = .ref a ∧ y = .ref b ∧ SqT K H a xs ∧ SqT K H b ys ∧ xs ≠ [] ∧ xs.length + ys.length ≤ sizeLine ∧
  (ys = [] → Q (.ref a) H) ∧ (ys ≠ [] → ∀ p, H p = none → Q (.ref p) (upd H p (.tup (xs ++ ys))))
theorem Vals.nil_iff {xs : List V} {us : List Value} (r : Vals xs us) : us = [] ↔ xs = [] := by
  cases r with
  | nil => simp
  | cons _ _ => simp
theorem op_catT : OpR X (binaryOp .Add) (rCatT X.K) := by
  intro pins s σ H x y v u Q I rx ry h
  obtain ⟨a, b, xs, ys, rfl, rfl, ha, hb, hx, hz, q1, q2⟩ := h
  cases rx
  cases ry
  obtain ⟨its, r1, p1, _⟩ := I.tuple ha
  obtain ⟨its2, r2, p2, _⟩ := I.tuple hb
  refine HT.cat_tup p1 p2 (fun z => hx (r1.nil_iff.mp z)) (fun z => ⟨.ref a, H, I, rfl, q1 (r2.nil_iff.mp z)⟩) (fun z => ?_) (by rw [← r1.length, ← r2.length]; exact hz)
  refine ⟨.ref s.heap.objs.size, _, I.laid (t' := s.toks) (o := .tup (xs ++ ys)) (fun b ob q => Heap.get?_push_of_some _ q) (Nat.le_refl _) ?_, rfl, q2 (fun w => z (r2.nil_iff.mpr w)) _ (I.hok.fresh (Nat.le_refl _))⟩
  exact ⟨by rw [List.length_append]; exact hz, _, r1.append r2, IsTup.new _ _⟩
/-- tuple(t) -/
theorem call_tupleT : CallR X (.type "tuple") (fun xs H Q => ∃ a ys, xs = [.ref a] ∧ SqT X.K H a ys ∧ Q (.ref a) H) := by
  intro pins s σ H xs us Q I r h
  obtain ⟨a, ys, rfl, ha, q⟩ := h
  obtain ⟨u, rfl, ru⟩ := vals1 r
  cases ru
  obtain ⟨its, _, p1, _⟩ := I.tuple ha
  exact call_tuple_same (items := its.toArray) p1 ⟨.ref a, H, I, rfl, q⟩
end
end L2

namespace L2
open PySem PySem.Spec PyProof.Rows

/-! ### places -/
/-- the place that an index of any sign means -/
def ixN (n : Nat) (i : Int) : Option Nat := if 0 ≤ i then (if i < n then some i.toNat else none) else if -(n : Int) ≤ i then some (i + n).toNat else none
def atI {α : Type} (xs : List α) (i : Int) : Option α := (ixN xs.length i).bind fun j => xs[j]?
theorem ixN_seq {n : Nat} {i : Int} {j : Nat} (h : ixN n i = some j) : seqIndex? i n = some j ∧ j < n ∧ -(n : Int) ≤ i ∧ i < n := by
  unfold ixN at h
  by_cases h0 : 0 ≤ i
  · rw [if_pos h0] at h
    by_cases h1 : i < n
    · rw [if_pos h1] at h
      have e : i.toNat = j := Option.some.inj h
      exact ⟨by rw [seqIndex_of h0 h1, e], by omega, by omega, h1⟩
    · rw [if_neg h1] at h; cases h
  · rw [if_neg h0] at h
    by_cases h1 : -(n : Int) ≤ i
    · rw [if_pos h1] at h
      have e : (i + n).toNat = j := Option.some.inj h
      exact ⟨by rw [seqIndex_neg (by omega) h1, e], by omega, h1, by omega⟩
    · rw [if_neg h1] at h; cases h
theorem atI_get {α : Type} {xs : List α} {i : Int} {v : α} (h : atI xs i = some v) : ∃ j, seqIndex? i xs.length = some j ∧ xs[j]? = some v ∧ j < xs.length ∧ -(xs.length : Int) ≤ i ∧ i < xs.length := by
  unfold atI at h
  cases e : ixN xs.length i with
  | none => rw [e] at h; cases h
  | some j =>
    rw [e] at h
    obtain ⟨h1, h2, h3, h4⟩ := ixN_seq e
    exact ⟨j, h1, h, h2, h3, h4⟩
theorem atI_nat {α : Type} {xs : List α} {j : Nat} {v : α} (h : xs[j]? = some v) : atI xs (j : Int) = some v := by
  have hj : j < xs.length := (List.getElem?_eq_some_iff.mp h).1
  have e : ixN xs.length (j : Int) = some j := by
    unfold ixN
    rw [if_pos (by omega), if_pos (by omega)]; simp
  unfold atI; rw [e]; exact h
theorem atI_last {α : Type} (xs : List α) (v : α) : atI (xs ++ [v]) (-1) = some v := by
  have hl : (xs ++ [v]).length = xs.length + 1 := by simp
  have e : ixN (xs ++ [v]).length (-1) = some xs.length := by
    unfold ixN
    rw [hl, if_neg (by decide), if_pos (by omega)]
    congr 1
    omega
  unfold atI
  rw [e]
  show (xs ++ [v])[xs.length]? = some v
  simp

/-! ### what may be subscripted -/
/-- what stands as an index of a plain subscript -/
def PlainIx (b : Expr) : Prop := ∀ o i, subscripted b false o i = operate [o, i] (getItem o i)
/-- a subscript by values -/
def IxR (X : Cx) (r : R2) : Prop :=
  ∀ (value slice : Expr) (pins : List (Addr × Obj)) (s : Shared) (σ : St) (H : Hp) (x y : V) (v u : Value) (Q : VK), Inv X pins σ H s → RelV x v → RelV y u → r x y H Q →
    subscripted slice false v u = operate [v, u] (getItem v u) → wpAny (model X.prog X.w) X.A (subscriptTail value slice v u) (EP X pins σ Q) X.xe s
/-- a call of a builtin's method by values: the receiver, the arguments -/
def MtR (X : Cx) (id : String) (r : V → List V → Hp → VK → Prop) : Prop :=
  ∀ (pins : List (Addr × Obj)) (s : Shared) (σ : St) (H : Hp) (x : V) (xs : List V) (v : Value) (us : List Value) (Q : VK), Inv X pins σ H s → RelV x v → Vals xs us → r x xs H Q →
    wpAny (model X.prog X.w) X.A (call (.builtin id) (v :: us)) (EP X pins σ Q) X.xe s
section
variable {X : Cx} {a b : Expr} {ta tb : TE} {pos : Pos}
theorem IxR.or {r r' : R2} (h : IxR X r) (h' : IxR X r') : IxR X (fun x y H Q => r x y H Q ∨ r' x y H Q) := by
  intro value slice pins s σ H x y v u Q I rx ry q hs
  rcases q with q | q
  · exact h value slice pins s σ H x y v u Q I rx ry q hs
  · exact h' value slice pins s σ H x y v u Q I rx ry q hs
theorem MtR.or {id : String} {r r' : V → List V → Hp → VK → Prop} (h : MtR X id r) (h' : MtR X id r') : MtR X id (fun x xs H Q => r x xs H Q ∨ r' x xs H Q) := by
  intro pins s σ H x xs v us Q I rx rs q
  rcases q with q | q
  · exact h pins s σ H x xs v us Q I rx rs q
  · exact h' pins s σ H x xs v us Q I rx rs q
/-- a[b] -/
theorem pe_ix {r : R2} (hr : IxR X r) (ha : PE X a ta) (hb : PE X b tb) (hs : PlainIx b) : PE X (.Subscript a b pos) (tOp r ta tb) := by
  intro pins s σ H Q I h
  exact Subscript_ (binT ha hb I h fun v u s2 x y H2 I2 rx ry q => hr a b pins s2 σ H2 x y v u Q I2 rx ry q (hs _ _))

def rIxL (K : PySem.W.Frag) : R2 := fun x y H Q => ∃ p xs i v, x = .ref p ∧ y = .int i ∧ SqL K H p xs ∧ atI xs i = some v ∧ Q v H
def rIxT (K : PySem.W.Frag) : R2 := fun x y H Q => ∃ p xs i v, x = .ref p ∧ y = .int i ∧ SqT K H p xs ∧ atI xs i = some v ∧ Q v H
def rIxS : R2 := fun x y H Q => ∃ z i c, x = .str z ∧ y = .int i ∧ z.length ≤ sizeLine ∧ atI z.cps.toList i = some c ∧ Q (.str ⟨#[c]⟩) H
theorem ix_list : IxR X (rIxL X.K) := by
  intro value slice pins s σ H x y v u Q I rx ry h hs
  obtain ⟨p, xs, i, z, rfl, rfl, hq, he, q⟩ := h
  cases rx
  obtain ⟨t, rfl⟩ := ry
  obtain ⟨its, r, pl, hz⟩ := I.list hq
  obtain ⟨j, h1, h2, h3, h4, h5⟩ := atI_get he
  obtain ⟨w, ew, rw'⟩ := r.get h2
  have hl := r.length
  have hn := line63
  have fin : EP X pins σ Q w s := ⟨z, H, I, rw', q⟩
  by_cases h0 : 0 ≤ i
  · have hj : i.toNat = j := by
      rw [seqIndex_of h0 h5] at h1
      exact Option.some.inj h1
    exact item_listR pl.isList h0 (by omega) (by rw [hj]; simpa using ew) fin hs
  · have hj : (i + (its.toArray.size : Int)).toNat = j := by
      rw [seqIndex_neg (by omega) h4] at h1
      rw [List.size_toArray, ← hl]
      exact Option.some.inj h1
    exact subscriptTail_builtinR (x := w) pl.isList.typeIs slot_list_getitem.lookup
      (wpAny_getItem_list_neg (Q := fun r s' => r = w ∧ EP X pins σ Q r s') pl.isList (by omega) (by rw [List.size_toArray] <;> omega) (by omega) (by rw [hj]; simpa using ew) ⟨rfl, fin⟩) hs
theorem ix_tup : IxR X (rIxT X.K) := by
  intro value slice pins s σ H x y v u Q I rx ry h hs
  obtain ⟨p, xs, i, z, rfl, rfl, hq, he, q⟩ := h
  cases rx
  obtain ⟨t, rfl⟩ := ry
  obtain ⟨its, r, pl, hz⟩ := I.tuple hq
  obtain ⟨j, h1, h2, h3, h4, h5⟩ := atI_get he
  obtain ⟨w, ew, rw'⟩ := r.get h2
  have hl := r.length
  have hn := line63
  have fin : EP X pins σ Q w s := ⟨z, H, I, rw', q⟩
  exact subscriptTail_builtinR (x := w) pl.typeIs slot_tuple_getitem.lookup
    (getItem_tuple (j := j) (Q := fun r s' => r = w ∧ EP X pins σ Q r s') pl (by omega) (by omega) (by rw [List.size_toArray, ← hl]; exact h1) (by simpa using ew) ⟨rfl, fin⟩) hs
theorem ix_str : IxR X rIxS := by
  intro value slice pins s σ H x y v u Q I rx ry h hs
  obtain ⟨z, i, c, rfl, rfl, hz, he, q⟩ := h
  obtain ⟨t, rfl⟩ := rx
  obtain ⟨t', rfl⟩ := ry
  obtain ⟨j, h1, h2, h3, h4, h5⟩ := atI_get he
  have hl : z.cps.toList.length = z.length := by simp [Str.length]
  rw [hl] at h1 h4 h5
  have hn := line63
  exact tail_any (typeIs_str s z t) slot_str_getitem.lookup (getItem_str (c := c) (by
    have e1 : decide (i < -(2 ^ 63 : Int)) = false := decide_eq_false (by omega)
    have e2 : decide (i ≥ 2 ^ 63) = false := decide_eq_false (by omega)
    rw [e1, e2, Bool.or_false]) (by rw [h1]; simpa using h2) ⟨.str ⟨#[c]⟩, H, I.tok _, ⟨_, rfl⟩, q⟩) hs
/-- list, tuple or str -/
def rIx (K : PySem.W.Frag) : R2 := fun x y H Q => rIxL K x y H Q ∨ rIxT K x y H Q ∨ rIxS x y H Q
theorem ix_seq : IxR X (rIx X.K) := ix_list.or (ix_tup.or ix_str)

/-! ### xs[i] = v, any sign -/
/-- the list's object behind a store -/
theorem mapSeq_set (its : List Value) (n j : Nat) (u : Value) : Obj.mapSeq (·.setIfInBounds j u) { cls := .type "list", data := .seq its.toArray n } = { cls := .type "list", data := .seq (its.set j u).toArray n } := by
  simp [Obj.mapSeq]
theorem Inv.lst {pins : List (Addr × Obj)} {σ : St} {H : Hp} {s : Shared} {p : Addr} {xs : List V} (I : Inv X pins σ H s) (h : H p = some (.lst xs)) :
    ∃ (its : List Value) (n : Nat), Vals xs its ∧ s.heap.get? p = some { cls := .type "list", data := .seq its.toArray n } ∧ xs.length ≤ sizeLine := by
  obtain ⟨z, its, n, r, e⟩ := I.hok p _ h
  exact ⟨its, n, r, e, z⟩
/-- the list at p is written by an update of its object -/
theorem Inv.lstUpd {pins : List (Addr × Obj)} {σ : St} {H : Hp} {s : Shared} {p : Addr} {xs ys : List V} {its its' : List Value} {n n' : Nat} {f : Obj → Obj} (I : Inv X pins σ H s) (h : H p = some (.lst xs))
    (ho : s.heap.get? p = some { cls := .type "list", data := .seq its.toArray n }) (hf : f { cls := .type "list", data := .seq its.toArray n } = { cls := .type "list", data := .seq its'.toArray n' }) (r : Vals ys its') (hz : ys.length ≤ sizeLine) (t : Nat) :
    Inv X pins σ (upd H p (.lst ys)) { s with heap := s.heap.update p f, toks := t } := by
  have e : (s.heap.update p f).get? p = some { cls := .type "list", data := .seq its'.toArray n' } := by
    rw [Heap.get?_update_self f ho (by rw [hf] <;> rfl), hf]
  refine I.write (x := p) (e := p) (by rw [h]; trivial) (.inl rfl) (fun b u hb q => (Heap.get?_update_other _ _ (Ne.symm hb)).trans q) ⟨_, e⟩ ?_
  exact ⟨hz, its', n', r, e⟩
def rSetL : V → V → V → Hp → (Hp → Prop) → Prop := fun o i v H Q => ∃ p xs k j, o = .ref p ∧ i = .int k ∧ H p = some (.lst xs) ∧ ixN xs.length k = some j ∧ Q (upd H p (.lst (xs.set j v)))
theorem set_list : PSet X rSetL := by
  intro pins s σ H o i v ov iv u Q I ro ri rv h
  obtain ⟨p, xs, k, j, rfl, rfl, hp, hj, q⟩ := h
  cases ro
  obtain ⟨t, rfl⟩ := ri
  obtain ⟨its, n, r, ho, hz⟩ := I.lst hp
  obtain ⟨h1, h2, h3, h4⟩ := ixN_seq hj
  have hl := r.length
  have hn := line63
  have I' : Inv X pins σ (upd H p (.lst (xs.set j v))) { s with heap := s.heap.update p (Obj.mapSeq (·.setIfInBounds j u)) } :=
    I.lstUpd hp ho (mapSeq_set its n j u) (r.set rv j) (by rw [List.length_set]; exact hz) s.toks
  by_cases h0 : 0 ≤ k
  · have hk : k.toNat = j := by
      rw [seqIndex_of h0 h4] at h1
      exact Option.some.inj h1
    exact PySem.W.ki_setAt ho h0 (by omega) (by rw [List.size_toArray, ← hl]; exact h4) (by rw [hk]; exact ⟨_, I', q⟩)
  · have hk : (k + (its.toArray.size : Int)).toNat = j := by
      rw [seqIndex_neg (by omega) h3] at h1
      rw [List.size_toArray, ← hl]
      exact Option.some.inj h1
    exact PySem.W.ki_setBack ho (by omega) (by rw [List.size_toArray, ← hl]; exact h3) (by omega) (by rw [hk]; exact ⟨_, I', q⟩)

/-! ### slices -/
theorem slice_bounds (lo hi : Option Int) (n : Nat) : (sliceBounds lo hi none n).1 = ((HT.sIx n 0 lo : Nat) : Int) ∧ (sliceBounds lo hi none n).2.1 = ((HT.sIx n n hi : Nat) : Int) ∧ (sliceBounds lo hi none n).2.2 = 1 := by
  refine ⟨?_, ?_, rfl⟩
  · cases lo with
    | none => simp [sliceBounds, HT.sIx]
    | some i =>
      simp only [sliceBounds, HT.sIx, Option.getD_none, show (1 : Int) > 0 by decide, if_true]
      by_cases h : i < 0
      · simp only [h, if_true] <;> omega
      · simp only [h, if_false] <;> omega
  · cases hi with
    | none => simp [sliceBounds, HT.sIx]
    | some i =>
      simp only [sliceBounds, HT.sIx, Option.getD_none, show (1 : Int) > 0 by decide, if_true]
      by_cases h : i < 0
      · simp only [h, if_true] <;> omega
      · simp only [h, if_false] <;> omega
theorem slicePick_cut (its : List Value) (lo hi : Option Int) : slicePick its.toArray lo hi none = ((its.drop (HT.sIx its.length 0 lo)).take (HT.sIx its.length its.length hi - HT.sIx its.length 0 lo)).toArray := by
  obtain ⟨h1, h2, h3⟩ := slice_bounds lo hi its.toArray.size
  unfold slicePick
  rw [h1, h2, h3]
  simp only [sliceRange_one, pick_run, List.size_toArray] <;> rfl
/-- xs[lo:hi] of a list: a new list -/
def rSlL (K : PySem.W.Frag) : V → Option Int → Option Int → Hp → VK → Prop := fun x lo hi H Q => ∃ a xs, x = .ref a ∧ SqL K H a xs ∧ ∀ p, H p = none → Q (.ref p) (upd H p (.lst (cutV xs lo hi)))
theorem sl_list : SlR X (rSlL X.K) := by
  intro pins s σ H x v vl vu lo hi sl Q I rx hs pl pu h
  obtain ⟨a, xs, rfl, hx, q⟩ := h
  cases rx
  obtain ⟨its, r, ht, hz⟩ := I.list hx
  have hlen := r.length
  refine ⟨"list", _, slot_list_getitem.lookup, ht.isList.typeIs, ?_⟩
  refine wpAny_getItem_list_slice ht.isList hs pl pu .none (by simp) ?_ (by rw [List.size_toArray] <;> omega)
  rw [slicePick_cut, ← hlen]
  refine ⟨.ref s.heap.objs.size, _, I.laid (t' := s.toks) (o := .lst (cutV xs lo hi)) (fun b ob q => Heap.get?_push_of_some _ q) (Nat.le_refl _) ?_, rfl, q _ (I.hok.fresh (Nat.le_refl _))⟩
  exact ⟨Nat.le_trans (cutV_length xs lo hi) hz, _, 0, (r.drop (HT.sIx xs.length 0 lo)).take (HT.sIx xs.length xs.length hi - HT.sIx xs.length 0 lo), Heap.get?_push_size _ rfl⟩

/-! ### in, not in: flat items -/
def flatV : V → Bool
  | .non => true
  | .bl _ => true
  | .int _ => true
  | .str _ => true
  | _ => false
/-- == of flat values -/
def eqV : V → V → Bool
  | .non, .non => true
  | .bl a, .bl b => a == b
  | .bl a, .int b => (if a then 1 else 0) == b
  | .int a, .bl b => a == (if b then 1 else 0)
  | .int a, .int b => a == b
  | .str a, .str b => a == b
  | _, _ => false
theorem eqAt_V {A : Around} {s : Shared} {y x : V} {u v : Value} (ry : RelV y u) (rx : RelV x v) (fy : flatV y = true) (fx : flatV x = true) : SeqAt.EqAt A s u v (eqV y x) := by
  cases y with
  | non =>
    cases ry
    cases x with
    | non => cases rx; exact SeqAt.EqAt.same _
    | bl b => cases rx; exact SeqAt.EqAt.none_bool b
    | int b => obtain ⟨t, rfl⟩ := rx; exact SeqAt.EqAt.none_int b t
    | str b => obtain ⟨t, rfl⟩ := rx; exact SeqAt.EqAt.none_str b t
    | _ => exact absurd (show false = true from fx) Bool.false_ne_true
  | bl a =>
    cases ry
    cases x with
    | non => cases rx; exact SeqAt.EqAt.bool_none a
    | bl b => cases rx; exact SeqAt.EqAt.bool_bool a b
    | int b => obtain ⟨t, rfl⟩ := rx; exact SeqAt.EqAt.bool_int a b t
    | str b => obtain ⟨t, rfl⟩ := rx; exact SeqAt.EqAt.bool_str a b t
    | _ => exact absurd (show false = true from fx) Bool.false_ne_true
  | int a =>
    obtain ⟨t', rfl⟩ := ry
    cases x with
    | non => cases rx; exact SeqAt.EqAt.int_none a t'
    | bl b => cases rx; exact SeqAt.EqAt.int_bool a t' b
    | int b => obtain ⟨t, rfl⟩ := rx; exact SeqAt.EqAt.int_int a t' b t
    | str b => obtain ⟨t, rfl⟩ := rx; exact SeqAt.EqAt.int_str a t' b t
    | _ => exact absurd (show false = true from fx) Bool.false_ne_true
  | str a =>
    obtain ⟨t', rfl⟩ := ry
    cases x with
    | non => cases rx; exact SeqAt.EqAt.str_none a t'
    | bl b => cases rx; exact SeqAt.EqAt.str_bool a t' b
    | int b => obtain ⟨t, rfl⟩ := rx; exact SeqAt.EqAt.str_int a t' b t
    | str b => obtain ⟨t, rfl⟩ := rx; exact SeqAt.EqAt.str_str a t' b t
    | _ => exact absurd (show false = true from fx) Bool.false_ne_true
  | _ => exact absurd (show false = true from fy) Bool.false_ne_true
/-- the items' answers, read off the values (a value's own answer does not lean on its token) -/
def eqU (x : V) (u : Value) : Bool := match u with
  | .none => eqV .non x
  | .bool b => eqV (.bl b) x
  | .int i _ => eqV (.int i) x
  | .str z _ => eqV (.str z) x
  | _ => false
theorem eqU_of {x y : V} {u : Value} (r : RelV y u) (f : flatV y = true) : eqU x u = eqV y x := by
  cases y with
  | non => cases r; rfl
  | bl b => cases r; rfl
  | int i => obtain ⟨t, rfl⟩ := r; rfl
  | str z => obtain ⟨t, rfl⟩ := r; rfl
  | _ => exact absurd (show false = true from f) Bool.false_ne_true
theorem any_eqU {x : V} : ∀ {xs : List V} {us : List Value}, Vals xs us → xs.all flatV = true → us.any (eqU x) = xs.any fun y => eqV y x
  | _, _, .nil, _ => rfl
  | y :: xs, u :: us, .cons r t, f => by
    rw [List.all_cons, Bool.and_eq_true] at f
    rw [List.any_cons, List.any_cons, eqU_of r f.1, any_eqU t f.2]
theorem mem_eqAt {A : Around} {s : Shared} {x : V} {v : Value} (rx : RelV x v) (fx : flatV x = true) : ∀ {xs : List V} {us : List Value}, Vals xs us → xs.all flatV = true → ∀ u ∈ us, SeqAt.EqAt A s u v (eqU x u)
  | _, _, .nil, _ => fun u hu => by cases hu
  | y :: xs, u :: us, .cons r t, f => fun u' hu => by
    rw [List.all_cons, Bool.and_eq_true] at f
    rcases List.mem_cons.mp hu with rfl | hu
    · rw [eqU_of r f.1]; exact eqAt_V r rx f.1 fx
    · exact mem_eqAt rx fx t f.2 u' hu
def inV (x : V) (xs : List V) : Bool := xs.any fun y => eqV y x
/-- x in a list or tuple of flat items -/
def rIn (K : PySem.W.Frag) (neg : Bool) : R2 := fun x y H Q => ∃ p xs, y = .ref p ∧ (SqL K H p xs ∨ SqT K H p xs) ∧ flatV x = true ∧ xs.all flatV = true ∧ Q (.bl (if neg then !inV x xs else inV x xs)) H
theorem op_in_seq : OpR X (compareOp .In) (rIn X.K false) := by
  intro pins s σ H x y v u Q I rx ry h
  obtain ⟨p, xs, rfl, hq, fx, fs, q⟩ := h
  cases ry
  rcases hq with hq | hq
  · obtain ⟨its, r, pl, hz⟩ := I.list hq
    refine SeqAt.in_listAt (eqU x) pl.isList (fun w hw => mem_eqAt rx fx r fs w (by simpa using hw)) ⟨.bl _, H, I, rfl, ?_⟩
    rw [show its.toArray.any (eqU x) = its.any (eqU x) by simp, any_eqU r fs]
    exact q
  · obtain ⟨its, r, pl, hz⟩ := I.tuple hq
    refine SeqAt.in_tupleAt (eqU x) pl (fun w hw => mem_eqAt rx fx r fs w (by simpa using hw)) ⟨.bl _, H, I, rfl, ?_⟩
    rw [show its.toArray.any (eqU x) = its.any (eqU x) by simp, any_eqU r fs]
    exact q
theorem op_notIn_seq : OpR X (compareOp .NotIn) (rIn X.K true) := by
  intro pins s σ H x y v u Q I rx ry h
  obtain ⟨p, xs, rfl, hq, fx, fs, q⟩ := h
  cases ry
  rcases hq with hq | hq
  · obtain ⟨its, r, pl, hz⟩ := I.list hq
    refine SeqAt.notIn_listAt (eqU x) pl.isList (fun w hw => mem_eqAt rx fx r fs w (by simpa using hw)) ⟨.bl _, H, I, rfl, ?_⟩
    rw [show its.toArray.any (eqU x) = its.any (eqU x) by simp, any_eqU r fs]
    exact q
  · obtain ⟨its, r, pl, hz⟩ := I.tuple hq
    refine SeqAt.notIn_tupleAt (eqU x) pl (fun w hw => mem_eqAt rx fx r fs w (by simpa using hw)) ⟨.bl _, H, I, rfl, ?_⟩
    rw [show its.toArray.any (eqU x) = its.any (eqU x) by simp, any_eqU r fs]
    exact q
theorem op_notIn_str : OpR X (compareOp .NotIn) (fun x y H Q => ∃ i j, x = .str i ∧ y = .str j ∧ Q (.bl (!(!(Builtin.Str.occurrences j i 0 j.length 1).isEmpty))) H) := by
  intro pins s σ H x y v u Q I rx ry h
  obtain ⟨i, j, rfl, rfl, q⟩ := h
  obtain ⟨t, rfl⟩ := rx
  obtain ⟨t', rfl⟩ := ry
  exact notIn_str ⟨.bl _, H, I, rfl, q⟩

/-! ### len, list(x), tuple(x) of any list or tuple that is read -/
theorem call_len_seq : CallR X (.builtin "len") (fun xs H Q => ∃ p ys, xs = [.ref p] ∧ (SqL X.K H p ys ∨ SqT X.K H p ys) ∧ Q (.int ys.length) H) := by
  intro pins s σ H xs us Q I r h
  obtain ⟨p, ys, rfl, hq, q⟩ := h
  obtain ⟨u, rfl, rx⟩ := vals1 r
  cases rx
  have hn := line63
  rcases hq with hq | hq
  · obtain ⟨its, r', pl, hz⟩ := I.list hq
    have hlen := r'.length
    exact Calls.call_len_list pl.isList (by simp only [List.size_toArray] <;> omega) ⟨.int ys.length, H, I.tok _, ⟨s.toks + 1, by rw [List.size_toArray, hlen]⟩, q⟩
  · obtain ⟨its, r', pl, hz⟩ := I.tuple hq
    have hlen := r'.length
    exact len_tuple pl (by simp only [List.size_toArray] <;> omega) ⟨.int ys.length, H, I.tok _, ⟨s.toks + 1, by rw [List.size_toArray, hlen]⟩, q⟩
theorem call_len_str : CallR X (.builtin "len") (fun xs H Q => ∃ z, xs = [.str z] ∧ z.length ≤ sizeLine ∧ Q (.int z.length) H) := by
  intro pins s σ H xs us Q I r h
  obtain ⟨z, rfl, hz, q⟩ := h
  obtain ⟨u, rfl, t, rfl⟩ := vals1 r
  have hn := line63
  exact len_str (by omega) ⟨.int z.length, H, I.tok _, ⟨_, rfl⟩, q⟩
theorem CallR.or {f : Value} {r r' : List V → Hp → VK → Prop} (h : CallR X f r) (h' : CallR X f r') : CallR X f (fun xs H Q => r xs H Q ∨ r' xs H Q) := by
  intro pins s σ H xs us Q I rs q
  rcases q with q | q
  · exact h pins s σ H xs us Q I rs q
  · exact h' pins s σ H xs us Q I rs q
theorem call_list_of : CallR X (.type "list") (fun xs H Q => ∃ p ys, xs = [.ref p] ∧ (SqL X.K H p ys ∨ SqT X.K H p ys) ∧ ∀ l, H l = none → Q (.ref l) (upd H l (.lst ys))) := by
  intro pins s σ H xs us Q I r h
  obtain ⟨p, ys, rfl, hq, q⟩ := h
  obtain ⟨u, rfl, rx⟩ := vals1 r
  cases rx
  have fin : ∀ (its : List Value), Vals ys its → ys.length ≤ sizeLine → ∀ (h' : Heap) (c' : Nat), (∀ b o', s.heap.get? b = some o' → h'.get? b = some o') →
      h'.get? s.heap.objs.size = some { cls := .type "list", dict := none, data := .seq its.toArray c', slots := #[] } → EP X pins σ Q (.ref s.heap.objs.size) { s with heap := h' } := fun its r' hz h' c' kp e =>
    ⟨.ref s.heap.objs.size, _, I.laid (t' := s.toks) kp (Nat.le_refl _) (show ObjOk X.prog X.w _ h' _ (.lst ys) from ⟨hz, its, c', r', e⟩), rfl, q _ (I.hok.fresh (Nat.le_refl _))⟩
  rcases hq with hq | hq
  · obtain ⟨its, r', pl, hz⟩ := I.list hq
    have hlen := r'.length
    obtain ⟨o, ho, hc, n, hd⟩ := pl.isList
    exact call_list_seq p (.inl rfl) ho hc hd (fun h' c' kp e => fin its r' hz h' c' kp e) (by simp only [List.size_toArray] <;> omega)
  · obtain ⟨its, r', pl, hz⟩ := I.tuple hq
    have hlen := r'.length
    obtain ⟨o, ho, hc, n, hd⟩ := pl
    exact call_list_seq p (.inr rfl) ho hc hd (fun h' c' kp e => fin its r' hz h' c' kp e) (by simp only [List.size_toArray] <;> omega)
theorem call_tuple_of : CallR X (.type "tuple") (fun xs H Q => ∃ p ys, xs = [.ref p] ∧ ((SqL X.K H p ys ∧ ∀ l, H l = none → Q (.ref l) (upd H l (.tup ys))) ∨ (SqT X.K H p ys ∧ Q (.ref p) H))) := by
  intro pins s σ H xs us Q I r h
  obtain ⟨p, ys, rfl, h⟩ := h
  obtain ⟨u, rfl, rx⟩ := vals1 r
  cases rx
  rcases h with ⟨hq, q⟩ | ⟨hq, q⟩
  · obtain ⟨its, r', pl, hz⟩ := I.list hq
    have hlen := r'.length
    refine call_tuple_list pl.isList (fun h' kp => ?_) (by simp only [List.size_toArray] <;> omega)
    have I1 : Inv X pins σ H { s with heap := h' } := I.kept (t' := s.toks) kp
    have I2 : Inv X pins σ (upd H h'.objs.size (.tup ys)) { s with heap := h'.push { cls := .type "tuple", data := .seq its.toArray } } :=
      I1.laid (t' := s.toks) (fun b o e => Heap.get?_push_of_some _ e) (Nat.le_refl _) (show ObjOk X.prog X.w _ _ _ (.tup ys) from ⟨hz, its, r', IsTup.new _ _⟩)
    exact ⟨.ref h'.objs.size, _, I2, rfl, q _ (I1.hok.fresh (Nat.le_refl _))⟩
  · obtain ⟨its, r', pl, hz⟩ := I.tuple hq
    exact call_tuple_same pl ⟨.ref p, H, I, rfl, q⟩

/-! ### the call of a builtin's method: o.m(..) -/
/-- the value is of that builtin type -/
def tyV (K : PySem.W.Frag) (T : String) (x : V) (H : Hp) : Prop := match x with
  | .str _ => T = "str"
  | .int _ => T = "int"
  | .ref p => (T = "list" ∧ ∃ xs, SqL K H p xs) ∨ (T = "tuple" ∧ ∃ o, K.lookup p = some o ∧ o.cls = .type "tuple" ∧ o.dict = none) ∨
      (T = "dict" ∧ ((∃ kvs, H p = some (.dK kvs)) ∨ ∃ kvs, H p = some (.dT kvs))) ∨ (T = "set" ∧ ∃ S n, H p = some (.set S n))
  | _ => False
theorem tyV_is {pins : List (Addr × Obj)} {σ : St} {H : Hp} {s : Shared} {T : String} {x : V} {v : Value} (I : Inv X pins σ H s) (r : RelV x v) (ty : tyV X.K T x H) :
    s.TypeIs v T ∧ ∀ a, v = .ref a → ∃ ob, s.heap.get? a = some ob ∧ ob.dict = none := by
  cases x with
  | str z =>
    obtain ⟨t, rfl⟩ := r
    cases (show T = "str" from ty)
    exact ⟨typeIs_str s z t, fun _ e => nomatch e⟩
  | int i =>
    obtain ⟨t, rfl⟩ := r
    cases (show T = "int" from ty)
    exact ⟨typeIs_int s i t, fun _ e => nomatch e⟩
  | ref p =>
    cases r
    rcases ty with ⟨rfl, xs, hq⟩ | ⟨rfl, o, hk, hc, hd⟩ | ⟨rfl, hk⟩ | ⟨rfl, S, n, hk⟩
    · obtain ⟨its, _, pl, _⟩ := I.list hq
      refine ⟨pl.isList.typeIs, fun a e => ?_⟩
      cases e
      obtain ⟨o, n, e, c, hd, _⟩ := pl
      exact ⟨o, e, hd⟩
    · refine ⟨⟨o, I.kIn p o hk, hc⟩, fun a e => ?_⟩
      cases e
      exact ⟨o, I.kIn _ o hk, hd⟩
    · have z : ∃ o, s.heap.get? p = some o ∧ o.ExactDict := by
        rcases hk with ⟨kvs, hk⟩ | ⟨kvs, hk⟩
        · obtain ⟨_, _, _, _, o, _, _, e, ex, _⟩ := I.hok p _ hk
          exact ⟨o, e, ex⟩
        · obtain ⟨_, _, _, _, o, _, _, e, ex, _⟩ := I.hok p _ hk
          exact ⟨o, e, ex⟩
      obtain ⟨o, e, ex⟩ := z
      refine ⟨⟨o, e, ex.1⟩, fun a e2 => ?_⟩
      cases e2
      exact ⟨o, e, ex.2.1⟩
    · obtain ⟨o, _, _, _, e, ex, _⟩ := I.hok p _ hk
      refine ⟨⟨o, e, ex.1⟩, fun a e2 => ?_⟩
      cases e2
      exact ⟨o, e, ex.2.1⟩
  | _ => exact False.elim ty
def tBM0 (K : PySem.W.Frag) (T : String) (r : V → List V → Hp → VK → Prop) (to : TE) : TE := fun σ H Q => to σ H fun x H1 => tyV K T x H1 ∧ r x [] H1 Q
def tBM (K : PySem.W.Frag) (T : String) (r : V → List V → Hp → VK → Prop) (to : TE) (t : TA) : TE := fun σ H Q => to σ H fun x H1 => tyV K T x H1 ∧ t σ H1 fun xs H2 => r x xs H2 Q
variable {o e : Expr} {es : List Expr} {to : TE} {t : TA} {name : Str} {apos cpos : Pos} {T id : String} {r : V → List V → Hp → VK → Prop}
theorem pe_bm0 (pa : PlainAttrs T) (slot : Slot T name id) (hty : typeOf (.builtin id) = pure (.type "method_descriptor")) (hm : MtR X id r) (ho : PE X o to)
    (hbase : attributeBase o name X.env (eval o X.env) = eval o X.env := by rfl) (hline : (apos.endLine == cpos.line) = true := by rfl) : PE X (.Call (.Attribute o name apos) [] [] cpos) (tBM0 X.K T r to) := by
  intro pins s σ H Q I h
  refine wpAny_Call_method0_late hbase hline (thn (ho pins s σ H _ I h) fun v s1 ⟨x, H1, I1, r1, ty, q1⟩ => ?_)
  obtain ⟨h1, h2⟩ := tyV_is I1 r1 ty
  exact ⟨T, id, pa, slot, hty, h1, h2, Calls.callWith_builtin rfl (PySem.evalArgs_none (hm pins s1 σ H1 x [] v [] Q I1 r1 .nil q1))⟩
theorem pe_bm (pa : PlainAttrs T) (slot : Slot T name id) (hty : typeOf (.builtin id) = pure (.type "method_descriptor")) (hm : MtR X id r) (ho : PE X o to) (ha : PA X (e :: es) t)
    (hbase : attributeBase o name X.env (eval o X.env) = eval o X.env := by rfl)
    (hfew : ((backTo cpos (starEach (e :: es) X.env)).all (fun x => !x.1) && (backToKw cpos (keywordEach [] X.env)).all (fun x => x.1.isSome)
      && decide ((e :: es).length + ([] : List Keyword).length + (if ([] : List Keyword).isEmpty then 0 else 1) < 30)) = true := by rfl)
    (hline : (apos.endLine == cpos.line) = true := by rfl) (hs : starEach (e :: es) X.env = (false, eval e X.env) :: starEach es X.env := by rfl) (hplain : (backTo cpos (starEach es X.env)).any (·.1) = false := by rfl) :
    PE X (.Call (.Attribute o name apos) (e :: es) [] cpos) (tBM X.K T r to t) := by
  intro pins s σ H Q I h
  refine wpAny_Call_method_late hbase hfew hline rfl (thn (ho pins s σ H _ I h) fun v s1 ⟨x, H1, I1, r1, ty, q1⟩ => ?_)
  obtain ⟨h1, h2⟩ := tyV_is I1 r1 ty
  refine ⟨T, id, pa, slot, hty, h1, h2, ?_⟩
  have hA := ha cpos pins s1 σ H1 _ I1 q1
  rw [hs] at hA ⊢
  refine Calls.callWith_builtin (by show (false || (backTo cpos (starEach es X.env)).any (·.1)) = false; rw [hplain] <;> rfl) (Calls.evalArgs_plain ?_)
  exact thn hA fun us s2 ⟨vs, H2, I2, r2, q2⟩ => hm pins s2 σ H2 x vs v us Q I2 r1 r2 q2
/- xs.append(e), list.index on a module's tuple .. are MtR facts of 06m -/
end
end L2

namespace L2
open PySem PySem.Spec PyProof.Rows

def MtM (X : Cx) (id : String) (r : V → List V → Hp → VK → Prop) : Prop :=
  ∀ (pins : List (Addr × Obj)) (s : Shared) (σ : St) (H : Hp) (x : V) (xs : List V) (v : Value) (us : List Value) (Q : VK), Inv X pins σ H s → RelV x v → Vals xs us → r x xs H Q →
    wpAny (model X.prog X.w) X.A (call (.builtin id) (v :: us)) (EP X pins σ Q) X.xe s

/-! ### lists of values -/
theorem Vals.one : ∀ {x : V} {us : List Value}, Vals [x] us → ∃ u, us = [u] ∧ RelV x u
  | _, _, .cons r .nil => ⟨_, rfl, r⟩
theorem Vals.two : ∀ {x y : V} {us : List Value}, Vals [x, y] us → ∃ u v, us = [u, v] ∧ RelV x u ∧ RelV y v
  | _, _, _, .cons r (.cons q .nil) => ⟨_, _, rfl, r, q⟩
theorem Vals.zero : ∀ {us : List Value}, Vals [] us → us = []
  | _, .nil => rfl
theorem Vals.dropLast {xs : List V} {us : List Value} (h : Vals xs us) : Vals xs.dropLast us.dropLast := by
  induction h with
  | nil => exact .nil
  | cons r t ih =>
    cases t with
    | nil => exact .nil
    | cons q t' => exact .cons r ih
theorem Vals.eraseIdx : ∀ {xs : List V} {us : List Value} (i : Nat), Vals xs us → Vals (xs.eraseIdx i) (us.eraseIdx i)
  | _, _, _, .nil => .nil
  | _, _, 0, .cons _ t => t
  | _, _, i + 1, .cons r t => .cons r (Vals.eraseIdx i t)
theorem Vals.reverse {xs : List V} {us : List Value} (h : Vals xs us) : Vals xs.reverse us.reverse := by
  induction h with
  | nil => exact .nil
  | cons r t ih => rw [List.reverse_cons, List.reverse_cons]; exact Vals.append ih (.cons r .nil)
theorem Vals.rep {xs : List V} {us : List Value} (h : Vals xs us) : ∀ k : Nat, Vals (List.replicate k xs).flatten (List.replicate k us).flatten
  | 0 => .nil
  | k + 1 => by
    rw [List.replicate_succ, List.replicate_succ, List.flatten_cons, List.flatten_cons]
    exact Vals.append h (Vals.rep h k)
theorem erase_last {α : Type} (l : List α) : l.eraseIdx (l.length - 1) = l.dropLast := by
  induction l with
  | nil => rfl
  | cons a r ih =>
    cases r with
    | nil => rfl
    | cons b r =>
      have e : (a :: b :: r).length - 1 = ((b :: r).length - 1) + 1 := by
        have h1 : (a :: b :: r).length = r.length + 2 := rfl
        have h2 : (b :: r).length = r.length + 1 := rfl
        omega
      rw [e, List.eraseIdx_cons_succ, ih]
      all_goals rfl
theorem len_erase {α : Type} : ∀ (l : List α) (i : Nat), (l.eraseIdx i).length ≤ l.length
  | [], _ => Nat.le_refl _
  | _ :: _, 0 => Nat.le_succ _
  | _ :: r, i + 1 => Nat.succ_le_succ (len_erase r i)
theorem foldl_rep (its : List Value) : ∀ (k : Nat) (acc : List Value),
    List.foldl (fun x1 x2 => x1 ++ x2) acc.toArray (List.replicate k its.toArray) = (acc ++ (List.replicate k its).flatten).toArray
  | 0, acc => by simp
  | k + 1, acc => by
    have e : acc.toArray ++ its.toArray = (acc ++ its).toArray := by simp
    have e2 : (acc ++ its) ++ (List.replicate k its).flatten = acc ++ (List.replicate (k + 1) its).flatten := by
      rw [List.replicate_succ, List.flatten_cons, List.append_assoc]
    rw [← e2, ← foldl_rep its k (acc ++ its), ← e, List.replicate_succ, List.foldl_cons]

section
variable {X : Cx} {pins : List (Addr × Obj)} {σ : St} {H : Hp} {s : Shared} {l b : Addr} {xs ys zs : List V}

/-! ### the two steps: a tracked list is rewritten, a new list is laid -/
theorem Inv.lset {its its' : List Value} {n : Nat} {f : Array Value → Array Value} {t' : Nat} (I : Inv X pins σ H s) (hH : H l = some (.lst xs))
    (e : s.heap.get? l = some { cls := .type "list", data := .seq its.toArray n }) (hf : f its.toArray = its'.toArray) (hv : Vals ys its') (hz : ys.length ≤ sizeLine) :
    Inv X pins σ (upd H l (.lst ys)) { s with heap := s.heap.update l (Obj.mapSeq f), toks := t' } := by
  have q := PySem.IsL.update e f
  rw [hf] at q
  refine I.write (x := l) (e := l) (by rw [hH]; exact trivial) (.inl rfl) (fun b' u hb hu => (Heap.get?_update_other s.heap (Obj.mapSeq f) (Ne.symm hb)).trans hu) ⟨_, q⟩ ?_
  exact ⟨hz, its', _, hv, q⟩
theorem Inv.lnew {its : List Value} {t' : Nat} (I : Inv X pins σ H s) (hv : Vals ys its) (hz : ys.length ≤ sizeLine) :
    Inv X pins σ (upd H s.heap.objs.size (.lst ys)) { s with heap := s.heap.push { cls := .type "list", data := .seq its.toArray }, toks := t' } :=
  I.laid (fun _ _ q => Heap.get?_push_of_some _ q) (Nat.le_refl _) ⟨hz, its, 0, hv, Heap.get?_push_size _ rfl⟩
theorem Inv.fresh (I : Inv X pins σ H s) : H s.heap.objs.size = none := I.hok.fresh (Nat.le_refl _)
theorem Inv.lstM (I : Inv X pins σ H s) (hH : H l = some (.lst xs)) : xs.length ≤ sizeLine ∧ ∃ (its : List Value) (n : Nat), Vals xs its ∧ xs.length = its.length ∧ s.heap.get? l = some { cls := .type "list", data := .seq its.toArray n } := by
  obtain ⟨z, its, n, r, e⟩ := I.hok l _ hH
  exact ⟨z, its, n, r, r.length, e⟩

theorem notLongL {n : Nat} (h : n ≤ sizeLine) : Builtin.List.listTooLong n = false := by
  unfold Builtin.List.listTooLong
  exact decide_eq_false (by omega)
end

section
variable {X : Cx}

/-! ### methods -/
def rAppend : V → List V → Hp → VK → Prop := fun x vs H Q => ∃ l xs y, x = .ref l ∧ vs = [y] ∧ H l = some (.lst xs) ∧ xs.length < sizeLine ∧ Q .non (upd H l (.lst (xs ++ [y])))
theorem mt_append : MtM X "list.append" rAppend := by
  intro pins s σ H x vs v us Q I rx rv h
  obtain ⟨l, xs, y, rfl, rfl, hH, hz, q⟩ := h
  cases rx
  obtain ⟨u, rfl, ru⟩ := rv.one
  obtain ⟨z, its, n, r, hl, e⟩ := I.lstM hH
  refine call_meets F.slot_list_append ⟨_, e, rfl⟩ F.entry_list_append (F.args_list_append_2 _ _) (PySem.list_append l its.toArray n u (by rw [List.size_toArray]; omega)) ⟨e, ?_⟩
  refine ⟨.non, _, I.lset (its' := its ++ [u]) hH e (by simp) (r.append (.cons ru .nil)) ?_, rfl, q⟩
  rw [List.length_append, List.length_singleton]
  omega

def rExtend : V → List V → Hp → VK → Prop := fun x vs H Q => ∃ l b xs zs, x = .ref l ∧ vs = [.ref b] ∧ H l = some (.lst xs) ∧ H b = some (.lst zs) ∧ xs.length + zs.length ≤ sizeLine ∧ Q .non (upd H l (.lst (xs ++ zs)))
theorem mt_extend : MtM X "list.extend" rExtend := by
  intro pins s σ H x vs v us Q I rx rv h
  obtain ⟨l, b, xs, zs, rfl, rfl, hH, hB, hz, q⟩ := h
  cases rx
  obtain ⟨u, rfl, ru⟩ := rv.one
  cases ru
  obtain ⟨z, its, n, r, hl, e⟩ := I.lstM hH
  obtain ⟨z2, its2, n2, r2, hl2, e2⟩ := I.lstM hB
  have hsz : its.toArray.size + its2.toArray.size ≤ sizeLine := by rw [List.size_toArray, List.size_toArray]; omega
  have hlong : ¬ (!its.toArray.isEmpty && Builtin.List.listTooLong (its.toArray.size + its2.toArray.size)) = true := by
    rw [notLongL hsz, Bool.and_false]
    exact Bool.false_ne_true
  refine call_meets F.slot_list_extend ⟨_, e, rfl⟩ F.entry_list_extend (F.args_list_extend_2 _ _)
    (AutoSeq1.list_extend_list_list_0 l its.toArray n b its2.toArray n2 hlong (by rw [List.size_toArray]; omega) (by omega)) ⟨e, e2, ?_⟩
  refine ⟨.non, _, I.lset (its' := its ++ its2) hH e (by simp) (r.append r2) ?_, rfl, q⟩
  rw [List.length_append]
  omega

def rPop : V → List V → Hp → VK → Prop := fun x vs H Q => ∃ l xs y, x = .ref l ∧ vs = [] ∧ H l = some (.lst xs) ∧ xs[xs.length - 1]? = some y ∧ Q y (upd H l (.lst xs.dropLast))
theorem mt_pop : MtM X "list.pop" rPop := by
  intro pins s σ H x vs v us Q I rx rv h
  obtain ⟨l, xs, y, rfl, rfl, hH, hy, q⟩ := h
  cases rx
  have hus := rv.zero
  subst hus
  obtain ⟨z, its, n, r, hl, e⟩ := I.lstM hH
  obtain ⟨u, hu, ru⟩ := r.get hy
  have hy' : its.toArray[its.toArray.size - 1]? = some u := by
    show its.toArray[its.length - 1]? = some u
    rw [← Array.getElem?_toList, ← hl]
    exact hu
  refine call_meets F.slot_list_pop ⟨_, e, rfl⟩ F.entry_list_pop (F.args_list_pop_1 _) (MeetsSeq.list_pop_last l its.toArray n u hy' (by rw [List.size_toArray]; omega)) ⟨e, ?_⟩
  refine ⟨y, _, I.lset (its' := its.dropLast) hH e ?_ r.dropLast ?_, ru, q⟩
  · show its.toArray.eraseIdxIfInBounds (its.toArray.size - 1) = its.dropLast.toArray
    rw [List.size_toArray, List.eraseIdxIfInBounds_toArray, erase_last]
  · rw [List.length_dropLast]
    omega

def rPopAt : V → List V → Hp → VK → Prop := fun x vs H Q => ∃ l xs i k y, x = .ref l ∧ vs = [.int i] ∧ H l = some (.lst xs) ∧ -(2 ^ 63) ≤ i ∧ i < 2 ^ 63 ∧ seqIndex? i xs.length = some k ∧ xs[k]? = some y ∧ Q y (upd H l (.lst (xs.eraseIdx k)))
theorem mt_popAt : MtM X "list.pop" rPopAt := by
  intro pins s σ H x vs v us Q I rx rv h
  obtain ⟨l, xs, i, k, y, rfl, rfl, hH, h1, h2, hk, hy, q⟩ := h
  cases rx
  obtain ⟨u, rfl, ru⟩ := rv.one
  obtain ⟨t, rfl⟩ := ru
  obtain ⟨z, its, n, r, hl, e⟩ := I.lstM hH
  obtain ⟨w, hw, rw'⟩ := r.get hy
  refine call_meets F.slot_list_pop ⟨_, e, rfl⟩ F.entry_list_pop (F.args_list_pop_2 _ _)
    (MeetsSeq.list_pop_at l its.toArray n i t k w (fitsIndex_both h1 h2) (by rw [List.size_toArray, ← hl]; exact hk) (by rw [← Array.getElem?_toList]; exact hw) (by rw [List.size_toArray]; omega)) ⟨e, ?_⟩
  refine ⟨y, _, I.lset (its' := its.eraseIdx k) hH e ?_ (r.eraseIdx k) ?_, rw', q⟩
  · show its.toArray.eraseIdxIfInBounds k = (its.eraseIdx k).toArray
    rw [List.eraseIdxIfInBounds_toArray]
  · have := len_erase xs k
    omega

def rReverse : V → List V → Hp → VK → Prop := fun x vs H Q => ∃ l xs, x = .ref l ∧ vs = [] ∧ H l = some (.lst xs) ∧ Q .non (upd H l (.lst xs.reverse))
theorem mt_reverse : MtM X "list.reverse" rReverse := by
  intro pins s σ H x vs v us Q I rx rv h
  obtain ⟨l, xs, rfl, rfl, hH, q⟩ := h
  cases rx
  have hus := rv.zero
  subst hus
  obtain ⟨z, its, n, r, hl, e⟩ := I.lstM hH
  refine call_meets F.slot_list_reverse ⟨_, e, rfl⟩ F.entry_list_reverse (F.args_list_reverse_1 _) (AutoSeq1.list_reverse_list_0 l its.toArray n (by rw [List.size_toArray]; omega)) ⟨e, ?_⟩
  refine ⟨.non, _, I.lset (its' := its.reverse) hH e (by simp) r.reverse ?_, rfl, q⟩
  rw [List.length_reverse]
  omega

def rClear : V → List V → Hp → VK → Prop := fun x vs H Q => ∃ l xs, x = .ref l ∧ vs = [] ∧ H l = some (.lst xs) ∧ Q .non (upd H l (.lst []))
theorem mt_clear : MtM X "list.clear" rClear := by
  intro pins s σ H x vs v us Q I rx rv h
  obtain ⟨l, xs, rfl, rfl, hH, q⟩ := h
  cases rx
  have hus := rv.zero
  subst hus
  obtain ⟨z, its, n, r, hl, e⟩ := I.lstM hH
  refine call_meets F.slot_list_clear ⟨_, e, rfl⟩ F.entry_list_clear (F.args_list_clear_1 _) (AutoSeq1.list_clear_list_0 l its.toArray n (by rw [List.size_toArray]; omega)) ⟨e, ?_⟩
  exact ⟨.non, _, I.lset (its' := []) (ys := []) hH e rfl .nil (Nat.zero_le _), rfl, q⟩

/-! ### list + list, list += list, list * int -/
def rCat : R2 := fun x y H Q => ∃ l b xs zs, x = .ref l ∧ y = .ref b ∧ H l = some (.lst xs) ∧ H b = some (.lst zs) ∧ xs.length + zs.length ≤ sizeLine ∧ ∀ p, H p = none → Q (.ref p) (upd H p (.lst (xs ++ zs)))
theorem op_cat : OpR X (binaryOp .Add) rCat := by
  intro pins s σ H x y v u Q I rx ry h
  obtain ⟨l, b, xs, zs, rfl, rfl, hH, hB, hz, q⟩ := h
  cases rx
  cases ry
  obtain ⟨z, its, n, r, hl, e⟩ := I.lstM hH
  obtain ⟨z2, its2, n2, r2, hl2, e2⟩ := I.lstM hB
  refine PySem.P.add_list e e2 ?_ (by rw [List.size_toArray, List.size_toArray]; omega)
  have ea : its.toArray ++ its2.toArray = (its ++ its2).toArray := by simp
  rw [ea]
  exact ⟨.ref _, _, I.lnew (t' := s.toks) (r.append r2) (by rw [List.length_append]; omega), rfl, q _ I.fresh⟩
/-- a list times an int (a negative one is nothing) -/
def rRep : R2 := fun x y H Q => ∃ l k xs, x = .ref l ∧ y = .int k ∧ H l = some (.lst xs) ∧ -(2 ^ 63) ≤ k ∧ k < 2 ^ 63 ∧ xs.length * k.toNat ≤ sizeLine ∧
  ∀ p, H p = none → Q (.ref p) (upd H p (.lst (List.replicate k.toNat xs).flatten))
theorem len_rep {α : Type} (xs : List α) (k : Nat) : (List.replicate k xs).flatten.length = k * xs.length := by
  induction k with
  | zero => simp
  | succ k ih => rw [List.replicate_succ, List.flatten_cons, List.length_append, ih, Nat.succ_mul, Nat.add_comm]
theorem op_rep : OpR X (binaryOp .Mult) rRep := by
  intro pins s σ H x y v u Q I rx ry h
  obtain ⟨l, k, xs, rfl, rfl, hH, h1, h2, hz, q⟩ := h
  cases rx
  obtain ⟨t, rfl⟩ := ry
  obtain ⟨z, its, n, r, hl, e⟩ := I.lstM hH
  have hlen : its.toArray.size * k.toNat ≤ sizeLine := by rw [List.size_toArray, ← hl]; exact hz
  have hcap : ¬ its.toArray.size * k.toNat > (2 ^ 63 - 1) / 8 := by
    have : (sizeLine : Nat) ≤ (2 ^ 63 - 1) / 8 := by decide
    omega
  have hfit : ¬ (!Builtin.List.listFitsIndex k) = true := by
    rw [fitsIndex_both h1 h2]
    exact Bool.false_ne_true
  have hlong : ¬ Builtin.List.listTooLong (its.toArray.size * k.toNat) = true := by
    rw [notLongL hlen]
    exact Bool.false_ne_true
  have hnew : List.foldl (fun x1 x2 => x1 ++ x2) #[] (List.replicate (if its.toArray.isEmpty = true then 0 else k.toNat) its.toArray) = (List.replicate k.toNat its).flatten.toArray := by
    have f0 : ∀ m : Nat, List.foldl (fun x1 x2 => x1 ++ x2) #[] (List.replicate m its.toArray) = (List.replicate m its).flatten.toArray := fun m => by
      have := foldl_rep its m []
      rw [List.nil_append] at this
      exact this
    rw [f0]
    cases its with
    | nil => simp
    | cons a r' => rw [if_neg (by simp)]
  refine wpAny_binaryOp_repeat_ref (T := "list") (U := "int") (by decide) ⟨_, e, rfl⟩ (fun s' => typeIs_int s' k t) noFill_list_mul F.fills_int_mul F.slot_int_rmul repeat_list F.slot_int_index.lookup
    (call_meets F.slot_int_rmul (typeIs_int s k t) F.entry_int_rmul (F.args_int_rmul_2 _ _) (int___rmul___int_list k t l its.toArray n)
      ⟨e, rfl, ⟨_, e, rfl⟩, call_meets F.slot_list_mul ⟨_, e, rfl⟩ F.entry_list_mul (F.args_list_mul_2 _ _) (AutoListH.list___mul___list_int_3 l its.toArray n k t hfit hcap hlong) ⟨e, ?_⟩⟩)
  rw [hnew]
  exact ⟨.ref _, _, I.lnew (t' := s.toks) (r.rep k.toNat) (by rw [len_rep, Nat.mul_comm]; exact hz), rfl, q _ I.fresh⟩

/-! ### del xs[i] -/
theorem del_list {pins : List (Addr × Obj)} {s : Shared} {σ : St} {H : Hp} {l : Addr} {xs : List V} {i : Int} {t : Tok} {k : Nat} {Q : Unit → Shared → Prop} (I : Inv X pins σ H s) (hH : H l = some (.lst xs))
    (h1 : -(2 ^ 63) ≤ i) (h2 : i < 2 ^ 63) (hk : seqIndex? i xs.length = some k) (h : ∀ s', Inv X pins σ (upd H l (.lst (xs.eraseIdx k))) s' → Q () s') :
    wpAny (model X.prog X.w) X.A (delItem (.ref l) (.int i t)) Q X.xe s := by
  obtain ⟨z, its, n, r, hl, e⟩ := I.lstM hH
  refine PySem.P.delItem_list (k := k) e (fitsIndex_both h1 h2) (by rw [List.size_toArray, ← hl]; exact hk) (h _ ?_) (by rw [List.size_toArray]; omega)
  refine I.lset (its' := its.eraseIdx k) (t' := s.toks) hH e ?_ (r.eraseIdx k) ?_
  · show its.toArray.eraseIdxIfInBounds k = (its.eraseIdx k).toArray
    rw [List.eraseIdxIfInBounds_toArray]
  · have := len_erase xs k
    omega
end

/-! ### xs[a:b] = ys -/
section
variable {prog : Program} {w : World} {A : Around} {E : Value → Shared → Prop} {s : Shared}
theorem splice_eq (its its2 : List Value) (a c : Nat) : its.toArray.extract 0 a ++ its2.toArray ++ its.toArray.extract c its.toArray.size = (its.take a ++ its2 ++ its.drop c).toArray := by
  apply Array.toList_inj.mp
  first
    | (simp
       exact List.take_of_length_le (by simp))
    | simp [List.take_of_length_le]
    | simp
theorem bounds_run {a c n : Nat} (hac : a ≤ c) (hc : c ≤ n) : sliceBounds (some (a : Int)) (some (c : Int)) none n = ((a : Int), (c : Int), 1) := by
  simp only [sliceBounds, Option.getD_none]
  have h1 : ¬ ((a : Int) < 0) := by omega
  have h2 : ¬ ((c : Int) < 0) := by omega
  simp only [h1, h2, if_false, show (1 : Int) > 0 by decide, if_true]
  congr 1
  · omega
  · congr 1; omega
set_option maxRecDepth 100000 in
/-- list.__setitem__ with a slice of step one and another list -/
theorem setItem_slice {l b sl : Addr} {items new : Array Value} {n n2 : Nat} {vl vu : Value} {a c : Nat} {Q : Unit → Shared → Prop}
    (e : s.heap.get? l = some { cls := .type "list", data := .seq items n }) (e2 : s.heap.get? b = some { cls := .type "list", data := .seq new n2 }) (hne : l ≠ b)
    (hs : s.heap.IsSliceOf sl vl vu .none) (pl : IsPart vl (some (a : Int))) (pu : IsPart vu (some (c : Int))) (hac : a ≤ c) (hc : c ≤ items.size)
    (hsz : items.size + new.size ≤ sizeLine) (h : Q () { s with heap := s.heap.update l (Obj.mapSeq fun xs => xs.extract 0 a ++ new ++ xs.extract c xs.size) }) :
    wpAny (model prog w) A (setItem (.ref l) (.ref sl) (.ref b)) Q E s := by
  have hl : s.heap.IsList l items := PySem.IsL.isList e
  have hb : s.heap.IsList b new := PySem.IsL.isList e2
  obtain ⟨os, hos, hcs, hds⟩ := id hs
  have hTs : s.TypeIs (.ref sl) "slice" := ⟨os, hos, hcs⟩
  have hstep : ¬ ((rawPart none == rawInt 0) = true) := Bool.false_ne_true
  have hsame : Builtin.List.listSameRef (.ref l) (.ref b) = false := by
    unfold Builtin.List.listSameRef
    exact beq_eq_false_iff_ne.mpr hne
  have hmax : (max (a : Int) (c : Int)).toNat = c := by omega
  have hz' : ((fun xs : Array Value => xs.extract 0 a ++ new ++ xs.extract c xs.size) items).size ≤ sizeLine + 1 := by
    simp only [Array.size_append, Array.size_extract]
    omega
  unfold setItem
  try with_reducible refine wpAny_holding ?_
  first | refine wpAny_bind (wpAny_pure ?_) | skip
  refine wpAny_bind (wpAny_sequenceKey hl.typeIs (by decide) ?_)
  refine wpAny_bind (wpAny_callSpecial?_slot (name := Str.ofString "__setitem__") hl.typeIs slot_list_setitem
    (wpAny_call_entry slot_list_setitem hl.typeIs entry_list_setitem ?_ (args_list_setitem _ _ _)))
  show wpAny _ _ (Builtin.List.listSubscript? (.ref sl) >>= _) _ _ s
  refine wpAny_bind ?_
  unfold Builtin.List.listSubscript?
  refine wpAny_bind (wpAny_specialOf hTs slice_no_index ?_)
  simp only [Option.isNone_none, if_true]
  refine wpAny_pure ?_
  show wpAny _ _ (typeOf (.ref sl) >>= _) _ _ s
  refine wpAny_bind (wpAny_typeOf hTs ?_)
  first
    | rw [if_neg (by decide)]
    | refine PySem.W.KFB.if_not (by decide) ?_
  rw [listSliceParts_eq]
  refine wpAny_bind (wpAny_bind (wpAny_field hos hds (x := .none) rfl (wpAny_bind (wpAny_listPart .none ?_))))
  rw [if_neg hstep]
  refine wpAny_bind (wpAny_field hos hds (x := vl) rfl (wpAny_bind (wpAny_listPart pl ?_)))
  refine wpAny_bind (wpAny_field hos hds (x := vu) rfl (wpAny_bind (wpAny_listPart pu (wpAny_pure ?_))))
  first
    | simp only [hsame, Bool.false_eq_true, if_false]
    | refine PySem.W.KFB.if_not hsame ?_
    | (dsimp only
       rw [if_neg (by rw [hsame]; exact Bool.false_ne_true)])
  refine wpAny_bind (m := Builtin.List.listAllItems (.ref b) "must assign iterable to extended slice") ?_
  unfold Builtin.List.listAllItems
  refine wpAny_bind (wpAny_typeOf hb.typeIs ?_)
  first
    | refine PySem.W.KFB.if_so (by decide) ?_
    | rw [if_pos (by decide)]
    | simp only [beq_self_eq_true, Bool.true_or, if_true]
  unfold Builtin.List.listItems
  refine wpAny_bind (wpAny_seqItems e2 rfl (wpAny_pure ?_))
  refine wpAny_bind (wpAny_bind (wpAny_seqItems e rfl (wpAny_pure ?_)))
  refine wpAny_bind (wpAny_of_eq ((sliceIndices_raw (some (a : Int)) (some (c : Int)) none items.size (by simp)).trans (congrArg (pure : Int × Int × Int → Sem (Int × Int × Int)) (bounds_run hac hc))) ?_)
  show wpAny _ _ (if ((1 : Int) == 1) = true then _ else _) _ _ s
  rw [if_pos (by decide)]
  refine wpAny_bind (wpAny_rule ?_)
  first
    | simp only [notLongL hsz, Bool.false_eq_true, if_false]
    | refine PySem.W.KFB.if_not (notLongL hsz) ?_
  first | refine wpAny_bind (wpAny_pure ?_) | skip
  show wpAny _ _ (updateSeq l (fun xs => xs.extract 0 ((a : Int)).toNat ++ new ++ xs.extract (max (a : Int) (c : Int)).toNat xs.size) >>= _) _ _ s
  rw [hmax, Int.toNat_natCast]
  refine wpAny_bind (wpAny_updateSeq (hz := Nat.le_trans (Nat.le_add_right _ _) hsz) (_hz' := hz') e rfl ?_)
  refine wpAny_bind (wpAny_letGo ?_)
  first
    | exact wpAny_bind (wpAny_pure (wpAny_pure ⟨.none, rfl, wpAny_pure h⟩))
    | exact wpAny_pure ⟨.none, rfl, wpAny_pure h⟩
end

section
variable {X : Cx}
/-- xs[a:c] = ys of another list, at the value level: sl is the slice object that was just made -/
theorem set_slice {pins : List (Addr × Obj)} {s : Shared} {σ : St} {H : Hp} {l b sl : Addr} {xs ys : List V} {a c : Int} {vl vu : Value} {Q : Unit → Shared → Prop} (I : Inv X pins σ H s)
    (hH : H l = some (.lst xs)) (hB : H b = some (.lst ys)) (hne : l ≠ b) (hs : s.heap.IsSliceOf sl vl vu .none) (ra : RelV (.int a) vl) (rc : RelV (.int c) vu) (h0 : 0 ≤ a) (hac : a ≤ c) (hc : c ≤ xs.length)
    (hz : xs.length + ys.length ≤ sizeLine) (h : ∀ s', Inv X pins σ (upd H l (.lst (xs.take a.toNat ++ ys ++ xs.drop c.toNat))) s' → Q () s') :
    wpAny (model X.prog X.w) X.A (setItem (.ref l) (.ref sl) (.ref b)) Q X.xe s := by
  obtain ⟨ta, rfl⟩ := ra
  obtain ⟨tc, rfl⟩ := rc
  obtain ⟨z, its, n, r, hl, e⟩ := I.lstM hH
  obtain ⟨z2, its2, n2, r2, hl2, e2⟩ := I.lstM hB
  obtain ⟨a', rfl⟩ := Int.eq_ofNat_of_zero_le h0
  obtain ⟨c', rfl⟩ := Int.eq_ofNat_of_zero_le (Int.le_trans h0 hac)
  simp only [Int.toNat_natCast] at h
  refine setItem_slice (a := a') (c := c') e e2 hne hs (.int _ _) (.int _ _) (by omega) (by rw [List.size_toArray]; omega) (by rw [List.size_toArray, List.size_toArray]; omega) (h _ ?_)
  refine I.lset (its' := its.take a' ++ its2 ++ its.drop c') (t' := s.toks) hH e ?_ (Vals.append (Vals.append (r.take _) r2) (r.drop _)) ?_
  · exact splice_eq its its2 a' c'
  · rw [List.length_append, List.length_append, List.length_take, List.length_drop]
    omega
end
end L2

namespace Att
open PySem PySem.W PySem.Calls PyProof.Rows

/-! ### the script -/
theorem ints_of_wellAll {P : Params} {h : Heap} : ∀ (ns : List Int) (vs : List Value), WellAll P h vs (ns.map WData.int) → IntsAre vs ns := by
  intro ns
  induction ns with
  | nil =>
    intro vs w
    rw [List.map_nil] at w
    cases w
    exact .nil
  | cons n ns ih =>
    intro vs w
    rw [List.map_cons] at w
    cases w with
    | cons a b =>
      cases a
      exact .cons _ _ (ih _ b)

theorem script_of {l : OpenLaw} {n : Nat} (hn : l.most = some n) {P : Params} {h : Heap} {args : List WData} {vals : List Value}
    (hpre : l.row.toRowW.claim.pre args = true) (hwl : WellAll P h vals args) :
    ∃ a vs ns, vals = [Value.ref a] ∧ args = [WData.list (ns.map WData.int)] ∧ h.get? a = some { cls := .type "list", data := .seq vs.toArray } ∧ IntsAre vs ns ∧ ns.length ≤ n := by
  have hsh : WShape.hasAll [] args [.list .int] = true := (pre_splitW hpre).1
  have hc : l.pre.holds [] { args := args } = true := (pre_splitW hpre).2
  obtain ⟨d, r, rfl, h1, h2⟩ := hasAllW_cons hsh
  obtain rfl := hasAllW_nil h2
  obtain ⟨xs, rfl, h3⟩ := hasW_list h1
  obtain ⟨ns, rfl⟩ := items_int h3
  have hlen : ns.length ≤ n := by
    unfold OpenLaw.pre at hc
    have h4 : (WTm.not (.lt (.lit (.int (n : Int))) (.len (.arg 0)))).holds [] { args := [.list (ns.map .int)] } = true := by
      have h4 := (holds_andW hc).1
      rw [hn] at h4
      exact h4
    have h5 := condW_of h4 (w_not (w_lt w_lit (w_len_list (w_arg rfl))))
    rw [List.length_map] at h5
    refine Nat.le_of_not_lt fun q => ?_
    have q' : (n : Int) < ((ns.length : Nat) : Int) := by omega
    first
      | (rw [decide_eq_true q'] at h5; exact absurd h5 (by decide))
      | (simp at h5; omega)
  cases hwl with
  | cons w1 w2 =>
    cases w2
    cases w1 with
    | list ho hall => exact ⟨_, _, ns, rfl, rfl, ho, ints_of_wellAll ns _ hall, hlen⟩

theorem post_true (l : OpenLaw) (args : List WData) : l.row.toRowW.claim.post args (.bool true) args = true :=
  postW_of (r := l.row.toRowW) (X := (true == true))
    (show WShape.has [] (.bool true) .bool = true by first | rfl | decide | simp [WShape.has, WShape.arms, WShape.armsAll])
    (show (WTm.eq .res (.lit (.bool true))).value [] { args := args, res := some (.bool true), after := args } = some (.bool (true == true)) from w_eq_bool (w_res rfl) w_lit) rfl

/-! ### the attachment: holds_open's last premise (the goal 'hc' behind k_head) from a wpAny of the law's body -/
theorem attach {l : OpenLaw} {n : Nat} {q : Program} {loose : List Str} {XP : (Str → Option Value) → Heap → Prop} {YP : World → Heap → Prop} {d : DefRec} {x : Str}
    (hn : l.most = some n) (hdf : d.params.defaults = [])
    (hbind : ∀ pm cd doc v : Value, bindArgs (docDef d.name d.params d.body d.scope pm cd doc) ⟨[v], []⟩ = pure [(x, v)])
    (hx : d.scope.names.lookup x = some .local ∨ d.scope.names.lookup x = some .cell)
    (hk : d.scope.kind = .function) (hco : d.scope.isCoroutine = false) (hgen : d.scope.isGenerator = false)
    (body : ∀ (w : World) (s₀ s₁ s : Shared) (mg mb : Str → Option Value) (fa : Addr) (o : Obj) (pm cd doc : Value) (a : Addr) (vs : List Value) (ns : List Int),
      Ground q loose [] XP w s₀ mg mb s₁.heap → YP w s₁.heap →
      s₁.heap.get? fa = some o → o.data = .func (docDef d.name d.params d.body d.scope pm cd doc) → s₁.heap.CodeRec cd d.name → mg d.name = some (.ref fa) →
      s₁.heap.get? a = some { cls := .type "list", data := .seq vs.toArray } → IntsAre vs ns → ns.length ≤ n →
      s.gens = #[] → s.os = s₁.os →
      Fr s₁.heap s₁.heap.objs.size s.heap (bindL (envOfC d.name d.scope s₁.heap.objs.size fa cd).kindOf [(x, .ref a)] fun _ => none) →
      Cl s₁.heap.objs.size (cellsFrom (s₁.heap.objs.size + 1) d.scope.names []) s.heap (bindC (envOfC d.name d.scope s₁.heap.objs.size fa cd).kindOf [(x, .ref a)] fun _ => none) →
      wpAny (model l.prog w) (callerA.deeper (envOfC d.name d.scope s₁.heap.objs.size fa cd)) (execs d.body (envOfC d.name d.scope s₁.heap.objs.size fa cd))
        (fun f s' => f = .ret (.bool true) ∧ OldK s₁.heap s'.heap ∧ s'.os = s₁.os ∧ AllBare s'.gens) (fun _ _ => False) s) :
    WalkO q loose XP YP l.row.toRowW d [] (fun f vs => PySem.call f vs) := by
  intro w s₀ s₁ mg mb G Y fa o pm cd doc dV kV ho hd hcd hD hmg hg args vals as hpre hlay hrd hwl hlo
  obtain rfl : dV = .none := Dflts.none hD hdf
  obtain rfl : kV = .none := Dflts.noKw hD
  obtain ⟨a, vs, ns, rfl, rfl, hobj, hints, hlen⟩ := script_of hn hpre hwl
  refine enter_call ?_
  refine call_cells_ret (o := o) (by rw [depth_caller]; decide) ho (fd_plain hd) G.T.nolimit hcd (hbind pm cd doc (.ref a)) (fun y hy => ?_) (fun h₁ tk F X => ?_) hco hgen hk
  · obtain rfl : y = (x, Value.ref a) := List.mem_singleton.mp hy
    rcases hx with e | e
    · exact .inl e
    · exact .inr ⟨e, cellsFrom_some _ _ _ (.inl e)⟩
  · refine wpAny_mono (body w s₀ s₁ { s₁ with heap := h₁, toks := tk } mg mb fa o pm cd doc a vs ns G Y ho (fd_plain hd) hcd hmg hobj hints hlen hg rfl F X) (fun f s' hq => ?_) (fun _ _ hq => hq)
    obtain ⟨rfl, h2, h3, h4⟩ := hq
    exact ⟨.inl ⟨.bool true, .bool true, [], rfl, fun _ => rfl, .bool true, post_true l _, fun _ => ⟨List.Pairwise.nil, fun _ hm => (nomatch hm)⟩⟩, h2, h3, h4⟩

/-- the same from a codeAny of the CALL (for a layer whose function contracts speak of calls) -/
theorem attach_call {l : OpenLaw} {n : Nat} {q : Program} {loose : List Str} {XP : (Str → Option Value) → Heap → Prop} {YP : World → Heap → Prop} {d : DefRec}
    (hn : l.most = some n) (hdf : d.params.defaults = [])
    (call : ∀ (w : World) (s₀ s₁ : Shared) (mg mb : Str → Option Value) (fa : Addr) (o : Obj) (pm cd doc : Value) (a : Addr) (vs : List Value) (ns : List Int),
      Ground q loose [] XP w s₀ mg mb s₁.heap → YP w s₁.heap →
      s₁.heap.get? fa = some o → o.data = .func (docDef d.name d.params d.body d.scope pm cd doc) → s₁.heap.CodeRec cd d.name → mg d.name = some (.ref fa) →
      s₁.heap.get? a = some { cls := .type "list", data := .seq vs.toArray } → IntsAre vs ns → ns.length ≤ n → s₁.gens = #[] →
      codeAny (model l.prog w) callerA (.call (.ref fa) ⟨[.ref a], []⟩) (fun r s' => r = .ok (.ret (.bool true)) ∧ OldK s₁.heap s'.heap ∧ s'.os = s₁.os ∧ AllBare s'.gens) s₁) :
    WalkO q loose XP YP l.row.toRowW d [] (fun f vs => PySem.call f vs) := by
  intro w s₀ s₁ mg mb G Y fa o pm cd doc dV kV ho hd hcd hD hmg hg args vals as hpre hlay hrd hwl hlo
  obtain rfl : dV = .none := Dflts.none hD hdf
  obtain rfl : kV = .none := Dflts.noKw hD
  obtain ⟨a, vs, ns, rfl, rfl, hobj, hints, hlen⟩ := script_of hn hpre hwl
  refine enter_call (codeAny_mono (call w s₀ s₁ mg mb fa o pm cd doc a vs ns G Y ho (fd_plain hd) hcd hmg hobj hints hlen hg) fun r s' hq => ?_)
  obtain ⟨rfl, h2, h3, h4⟩ := hq
  exact ⟨.inl ⟨.bool true, .bool true, [], rfl, fun _ => rfl, .bool true, post_true l _, fun _ => ⟨List.Pairwise.nil, fun _ hm => (nomatch hm)⟩⟩, h2, h3, h4⟩

/-- the same where the top left finished generators (o_head chose holds_openN): nothing may have changed at all and no generator may be left -/
theorem attachN {l : OpenLaw} {n : Nat} {q : Program} {loose : List Str} {XP : (Str → Option Value) → Heap → Prop} {YP : World → Heap → Prop} {d : DefRec} {x : Str}
    (hn : l.most = some n) (hdf : d.params.defaults = [])
    (hbind : ∀ pm cd doc v : Value, bindArgs (docDef d.name d.params d.body d.scope pm cd doc) ⟨[v], []⟩ = pure [(x, v)])
    (hx : d.scope.names.lookup x = some .local ∨ d.scope.names.lookup x = some .cell)
    (hk : d.scope.kind = .function) (hco : d.scope.isCoroutine = false) (hgen : d.scope.isGenerator = false)
    (body : ∀ (w : World) (s₀ s₁ s : Shared) (mg mb : Str → Option Value) (fa : Addr) (o : Obj) (pm cd doc : Value) (a : Addr) (vs : List Value) (ns : List Int),
      Ground q loose [] XP w s₀ mg mb s₁.heap → YP w s₁.heap →
      s₁.heap.get? fa = some o → o.data = .func (docDef d.name d.params d.body d.scope pm cd doc) → s₁.heap.CodeRec cd d.name → mg d.name = some (.ref fa) →
      s₁.heap.get? a = some { cls := .type "list", data := .seq vs.toArray } → IntsAre vs ns → ns.length ≤ n →
      s.gens = #[] → s.os = s₁.os →
      Fr s₁.heap s₁.heap.objs.size s.heap (bindL (envOfC d.name d.scope s₁.heap.objs.size fa cd).kindOf [(x, .ref a)] fun _ => none) →
      Cl s₁.heap.objs.size (cellsFrom (s₁.heap.objs.size + 1) d.scope.names []) s.heap (bindC (envOfC d.name d.scope s₁.heap.objs.size fa cd).kindOf [(x, .ref a)] fun _ => none) →
      wpAny (model l.prog w) (callerA.deeper (envOfC d.name d.scope s₁.heap.objs.size fa cd)) (execs d.body (envOfC d.name d.scope s₁.heap.objs.size fa cd))
        (fun f s' => f = .ret (.bool true) ∧ (∀ b o, s₁.heap.get? b = some o → s'.heap.get? b = some o) ∧ s'.os = s₁.os ∧ s'.gens = #[]) (fun _ _ => False) s) :
    WalkN q loose XP YP l.row.toRowW d [] (fun f vs => PySem.call f vs) := by
  intro w s₀ s₁ mg mb G Y fa o pm cd doc dV kV ho hd hcd hD hmg hg args vals as hpre hlay hrd hwl hlo
  obtain rfl : dV = .none := Dflts.none hD hdf
  obtain rfl : kV = .none := Dflts.noKw hD
  obtain ⟨a, vs, ns, rfl, rfl, hobj, hints, hlen⟩ := script_of hn hpre hwl
  refine enter_callW ?_
  refine call_cells_ret (o := o) (by rw [depth_caller]; decide) ho (fd_plain hd) G.T.nolimit hcd (hbind pm cd doc (.ref a)) (fun y hy => ?_) (fun h₁ tk F X => ?_) hco hgen hk
  · obtain rfl : y = (x, Value.ref a) := List.mem_singleton.mp hy
    rcases hx with e | e
    · exact .inl e
    · exact .inr ⟨e, cellsFrom_some _ _ _ (.inl e)⟩
  · refine wpAny_mono (body w s₀ s₁ { s₁ with heap := h₁, toks := tk } mg mb fa o pm cd doc a vs ns G Y ho (fd_plain hd) hcd hmg hobj hints hlen hg rfl F X) (fun f s' hq => ?_) (fun _ _ hq => hq)
    obtain ⟨rfl, h2, h3, h4⟩ := hq
    exact ⟨.inl ⟨.bool true, .bool true, [], rfl, fun _ => rfl, .bool true, post_true l _, fun _ => ⟨List.Pairwise.nil, fun _ hm => (nomatch hm)⟩⟩, h2, h3, h4⟩

/-! ### rules over ANY heap (no ledger) from facts about the written part K: the library's own take a ledger (News) for what they write -/
section
variable {prog : Program} {w : World} {A : Around} {E : Value → Shared → Prop} {s : Shared} {K : Frag}

/-- a def of the module, or a method (qual 'C.m'), entered: the frame is the next address; cells behind it -/
theorem call_fn {R : Result → Shared → Prop} {name qual : Str} {params : Arguments} {body : List Stmt} {scope : Scope} {dV kV doc pm cdv ct oc : Value} {an od : Option Addr} {osl : Array (Option Value)} {f : Addr} {args : Args} {binds : List (Str × Value)}
    (X : K.In s.heap) (hlim : s.heap.NoLimit) (ho : K.lookup f = some ⟨oc, od, .func (fnOf name qual params body scope dV kV doc pm an cdv ct), osl⟩) (hcd : codeIn K cdv qual = true) (hroom : A.depth < recursionLimit)
    (hbind : BindsTo s (fnOf name qual params body scope dV kV doc pm an cdv ct) args binds)
    (hkind : (binds.all fun y => scope.names.lookup y.1 == some .local || scope.names.lookup y.1 == some .cell) = true)
    (h : ∀ s₁, InCallC s s.heap.objs.size (bindL (envOfC qual scope s.heap.objs.size f cdv).kindOf binds fun _ => none) (cellsFrom (s.heap.objs.size + 1) scope.names [])
        (bindC (envOfC qual scope s.heap.objs.size f cdv).kindOf binds fun _ => none) s₁ →
      wpAny (model prog w) (A.deeper (envOfC qual scope s.heap.objs.size f cdv)) (execs body (envOfC qual scope s.heap.objs.size f cdv))
        (fun fl s' => R (.ok (.ret (match fl with | .ret v => v | _ => .none))) s')
        (fun e s' => wpAny (model prog w) (A.deeper (envOfC qual scope s.heap.objs.size f cdv)) (leaving (envOfC qual scope s.heap.objs.size f cdv) e) (fun _ s'' => R (.error e) s'') (fun e' s'' => R (.error e') s'') s') s₁)
    (hco : scope.isCoroutine = false) (hgen : scope.isGenerator = false) (hk : scope.kind = .function) : codeAny (model prog w) A (.call (.ref f) args) R s := by
  refine codeAny_call_function hroom (X _ _ ho) rfl hco hgen rfl (codeRec_of X hcd) (hbind _ _ _ _ ?_)
  refine wpAny_newFunctionEnv_cells hk (kindsX hkind _) fun env he s₁ x => ?_
  subst he
  exact ⟨hlim.keeps x.toInCall.keep, codeAny_func (h s₁ x)⟩

/-- C(..): dict at size, instance at size + 1, then __init__ -/
theorem make_obj {R : Result → Shared → Prop} {C fI : Addr} {rest : List Value} {kw : List (Str × Value)}
    (X : K.In s.heap) (hm : makesIn K C = true) (hi : findIn K (.ref C) "__init__" = some (some (.ref fI))) (hf : isFn K (.ref fI) = true)
    (h : codeAny (model prog w) (A.under (.builtin "type.__call__" ⟨.ref C :: rest, kw⟩)) (.call (.ref fI) ⟨.ref (s.heap.objs.size + 1) :: rest, kw⟩) (InitBack (s.heap.objs.size + 1) R)
      { s with heap := (s.heap.push emptyDict).push (instObj C s.heap.objs.size) }) : codeAny (model prog w) A (.call (.ref C) ⟨rest, kw⟩) R s := by
  obtain ⟨hh, g, d, t, os⟩ := s
  exact make_core (makes_of X hm) (looks_findIn X hi) (fun self => bind_fn X self (beq_iff_eq.mp hf)) (.inl rfl) h

/-- x.name where the instance's dict holds the name and the class does not -/
theorem get_field {x C : Addr} {ox : Obj} {es : List DictEntry} {n : Nat} {name : Str} {expr : Bool} {v : Value} {Q : Value → Shared → Prop}
    (X : K.In s.heap) (I : PySem.W.InstAt s.heap x ox C (some (dictOf es n))) (hg : plainGet K C name = true) (hh : hasDictIn K C = true) (ha : findIn K (.ref C) name = some none)
    (hl : getL name es = some (some v)) (hv : handedIn v = true) (h : Q v { s with toks := s.toks + 1 }) : wpAny (model prog w) A (getAttr (.ref x) name expr) Q E s :=
  get_value X I (plainGet_of hg).1 (findObj_own hh ha rfl hl) hv h

/-- x.m(..): the method found in the class -/
theorem get_method {x C f : Addr} {ox : Obj} {es : List DictEntry} {n : Nat} {name : Str} {pl : Sem Bool} {Q : Value × List Value → Shared → Prop}
    (X : K.In s.heap) (I : PySem.W.InstAt s.heap x ox C (some (dictOf es n))) (hg : plainGet K C name = true) (hf : findIn K (.ref C) name = some (some (.ref f))) (ht : isFn K (.ref f) = true)
    (hl : getL name es = some none) (h : Q (.ref f, [.ref x]) s) : wpAny (model prog w) A (getMethod (.ref x) name pl) Q E s :=
  method_fn X I (plainGet_of hg).1 (plainGet_of hg).2 hf (beq_iff_eq.mp ht) (by show (lookIn name (dictOf es n)).map _ = _; rw [lookIn_dict, hl]; rfl) h

/-! the whole heap as the ledger: makes every rule that writes through a ledger a rule over any heap -/
def noObjs (h : Heap) : Heap := { h with objs := #[] }
theorem noObjs_get (h : Heap) (b : Addr) : (noObjs h).get? b = none := by
  cases e : (noObjs h).get? b with
  | none => rfl
  | some o => exact absurd (Heap.lt_size e) (Nat.not_lt_zero _)
def ledger (h : Heap) (L d : Addr) : List (Addr × Obj) := (List.range h.objs.size).filterMap fun a => if a = L ∨ a = d then none else (h.get? a).map fun o => (a, o)
theorem mem_ledger {h : Heap} {L d a : Addr} {o : Obj} : (a, o) ∈ ledger h L d ↔ a ≠ L ∧ a ≠ d ∧ h.get? a = some o := by
  unfold ledger
  rw [List.mem_filterMap]
  constructor
  · rintro ⟨b, _, e⟩
    split at e
    · cases e
    · rename_i hb
      obtain ⟨o', ho, e'⟩ := Option.map_eq_some_iff.mp e
      cases e'
      exact ⟨fun q => hb (.inl q), fun q => hb (.inr q), ho⟩
  · rintro ⟨n1, n2, ho⟩
    refine ⟨a, List.mem_range.mpr (Heap.lt_size ho), ?_⟩
    rw [if_neg (show ¬ (a = L ∨ a = d) from fun q => q.elim n1 n2), ho] <;> rfl
theorem news_ledger {h : Heap} {L d : Addr} {od : Obj} (hne : d ≠ L) (ho : h.get? d = some od) : News (noObjs h) L h ([] ++ (d, od) :: ledger h L d) := by
  rintro ⟨a, o⟩ hp
  rcases List.mem_cons.mp hp with e | hp
  · cases e
    exact ⟨ho, hne, noObjs_get _ _⟩
  · obtain ⟨n1, n2, e⟩ := mem_ledger.mp hp
    exact ⟨e, n1, noObjs_get _ _⟩
theorem fr_all {h : Heap} {L : Addr} {m : Str → Option Value} (n : h.Ns L m) : Fr (noObjs h) L h m :=
  ⟨n, fun b o e => (by rw [noObjs_get] at e; cases e), Nat.zero_le _⟩
/-- Upd of the head entry (for append_K, setItem_K ..) -/
theorem upd_ledger {h : Heap} {L d : Addr} {o o' : Obj} : Upd d o o' ((d, o) :: ledger h L d) ((d, o') :: ledger h L d) :=
  .head fun ⟨_, _⟩ hp => (mem_ledger.mp hp).2.1

/-- x.name = v over any heap: L is any namespace of the heap (the frame's, say): its map stays, its object is not told; all else but the dict stays -/
theorem set_field {x C dx L : Addr} {ox : Obj} {m : Str → Option Value} {es es' : List DictEntry} {n n' : Nat} {name : Str} {v : Value} {Q : Unit → Shared → Prop}
    (X : K.In s.heap) (I : PySem.W.InstAt s.heap x ox C (some (dictOf es n))) (hd : ox.dict = some dx) (hL : s.heap.Ns L m) (hne : dx ≠ L)
    (hs : findIn K (.ref C) "__setattr__" = some (some (.builtin "object.__setattr__"))) (hp : plainOver K C = true) (ht : takerIn K C name = some none) (hh : hasDictIn K C = true) (hl : (getL name es).isSome = true)
    (e : (putL name (PyData.keyHash w.params name) (.str name (s.toks + 1)) v es, putN name es n) = (es', n')) (hz : es'.length ≤ 1000)
    (h : ∀ h' : Heap, h'.Ns L m → h'.get? dx = some (dictOf es' n') → (∀ b o, b ≠ dx → b ≠ L → s.heap.get? b = some o → h'.get? b = some o) → Q () { s with heap := h', toks := s.toks + 2 }) :
    wpAny (model prog w) A (setAttr (.ref x) name v) Q E s := by
  obtain ⟨e1, e2⟩ := Prod.mk.inj e
  have hdx : s.heap.get? dx = some (dictOf es n) := by
    have := I.dict
    rw [hd] at this
    exact this
  refine set_plain X I hs (osa_dict (s := { s with toks := s.toks + 1 }) (h₀ := noObjs s.heap) (L := L) (m := m) (od := dictOf es n) (od' := dictOf es' n') (es := es') (n := n') (pre := []) (post := ledger s.heap L dx)
    (fr_all hL) (news_ledger hne hdx) X I hd hp ht hh hl (fun _ q => nomatch q) (fun ⟨_, _⟩ q => (mem_ledger.mp q).2.1) (by rw [putName_dict, e1, e2]) rfl hz fun h' F' N' => ?_)
  exact h h' F'.ns (N'.get (List.Mem.head _)) fun b o n1 n2 ho => N'.get (List.Mem.tail _ (mem_ledger.mpr ⟨n2, n1, ho⟩))
end
end Att

namespace L2
open PySem PySem.Spec PyProof.Rows

theorem vals_ints : ∀ {vs : List Value} {ns : List Int}, IntsAre vs ns → Vals (ns.map V.int) vs
  | _, _, .nil => .nil
  | _, _, .cons n t h => .cons ⟨t, rfl⟩ (vals_ints h)

/-- nothing is tracked but the script, known to the object (or it is an object of the module) -/
def Only (H : Hp) : Prop := ∀ b, H b = none ∨ ∃ o xs, H b = some (.frz o (.lst xs))

/-- THE HEAD: the law's promise, at the heap behind the top. F, the promise of the law's def, may use that base is part of the heap (so K.In base, base.Ns mainGlobals mg stand in Mod) -/
theorem law_call {P : Program} {w : World} {K : PySem.W.Frag} {mg mb : Str → Option Value} {CX : CXT} {k : Nat} {fa a : Addr} {fd : FuncData} {x : Str} {sp : Sp} {s₁ : Shared} {vs : List Value} {ns : List Int}
    (KX : K.In s₁.heap) (hns : s₁.heap.Ns mainGlobals mg) (hb : s₁.heap.Ns builtinsNs mb) (hbb : ∀ x : Str, x ≠ "__name__" → mb x = bootBuiltins x) (hlim : s₁.heap.NoLimit) (hg : s₁.gens = #[])
    (ha : s₁.heap.get? a = some { cls := .type "list", data := .seq vs.toArray }) (hi : IntsAre vs ns) (hl : ns.length ≤ sizeLine) (hr : Room k callerA)
    (F : ∀ base : Heap, K.In base → base.Ns mainGlobals mg → FnOk P w K mg base CX k fa fd [x] sp) (hbind : ∀ (s : Shared) (u : Value), BindsTo s fd ⟨[u], []⟩ [(x, u)])
    (hsp : ∀ H : Hp, Only H → SqL K H a (ns.map V.int) → sp [.ref a] H (fun v _ => v = .bl true) fun _ _ _ => False)
    (hCX : ∀ H e s', CX [] H s₁ (fun _ _ _ => False) e s' → False) :
    codeAny (model P w) callerA (.call (.ref fa) ⟨[.ref a], []⟩) (fun r s' => r = .ok (.ret (.bool true)) ∧ OldK s₁.heap s'.heap ∧ s'.os = s₁.os ∧ AllBare s'.gens) s₁ := by
  have rv := vals_ints hi
  have lenV := hi.length
  -- from an abstract heap in which nothing but the script may be tracked
  have core : ∀ H : Hp, Only H → SqL K H a (ns.map V.int) → HOk P w H s₁.heap → (∀ b, H b ≠ none → b = a) → (H a ≠ none → K.lookup a = none) →
      codeAny (model P w) callerA (.call (.ref fa) ⟨[.ref a], []⟩) (fun r s' => r = .ok (.ret (.bool true)) ∧ OldK s₁.heap s'.heap ∧ s'.os = s₁.os ∧ AllBare s'.gens) s₁ := by
    intro H hO hS hok hA hK
    have base_of : ∀ {b : Addr} {o : Obj}, s₁.heap.get? b = some o → H b = none → (hidT s₁.heap H).get? b = some o := fun e n => hidT_get e n
    have noA : ∀ {b : Addr} {o : Obj} {es : Array DictEntry} {ep : Nat}, s₁.heap.get? b = some o → o.data = .dict es ep → H b = none := fun {b o es ep} e d => by
      cases q : H b with
      | none => rfl
      | some u =>
        have e' : b = a := hA b (by rw [q]; simp)
        subst e'
        rw [ha] at e; cases e
        have d' : Data.seq vs.toArray _ = Data.dict es ep := d
        cases d'
    have nsK : ∀ {b : Addr} {m : Str → Option Value}, s₁.heap.Ns b m → (hidT s₁.heap H).Ns b m := fun {b m} ⟨o, es, ep, e, d, r⟩ => ⟨o, es, ep, base_of e (noA e d), d, r⟩
    have hKb : K.In (hidT s₁.heap H) := fun b o e => base_of (KX b o e) (by
      cases q : H b with
      | none => rfl
      | some u =>
        have e' : b = a := hA b (by rw [q]; simp)
        subst e'
        rw [hK (by rw [q]; simp)] at e; cases e)
    have hM : Mod K mg (hidT s₁.heap H) := ⟨hKb, nsK hns, ⟨mb, nsK hb, hbb⟩, let ⟨mc, h1, h2⟩ := hlim; ⟨mc, nsK h1, h2⟩⟩
    have e0 : Env0 P w K mg (hidT s₁.heap H) callerA [] s₁ H := ⟨rfl, hM, fun b o e => of_hidT e, Nat.le_of_eq (hidT_size _ _), trivial, fun b hb => absurd (show b ∈ ([] : List Addr) from hb) (by simp), hok, .of_eq hg⟩
    refine codeAny_mono ((F _ hKb (nsK hns)).run callerA [] s₁ H ⟨[.ref a], []⟩ [.ref a] [.ref a] _ _ hr e0 (hbind s₁ (.ref a)) (.cons rfl .nil) (hsp H hO hS)) fun r s' h => ?_
    cases r with
    | error e => exact (hCX H e s' h).elim
    | ok fl =>
      cases fl with
      | next => exact False.elim h
      | brk => exact False.elim h
      | cont => exact False.elim h
      | ret u =>
        obtain ⟨v, H', os, bare, un, hok', r', q⟩ := h
        have q' : v = .bl true := q
        subst q'
        obtain rfl : u = Value.bool true := r'
        refine ⟨rfl, OldK.of_keep fun b o e => ?_, os, bare⟩
        cases q : H b with
        | none => exact un.keep b o e q (by intro z; exact absurd (show b ∈ ([] : List Addr) from z) (by simp)) (by simp)
        | some u =>
          rcases hO b with z | ⟨ob, xs, z⟩
          · rw [q] at z; cases z
          · have z2 := un.frzs b ob _ z
            obtain ⟨e1, _⟩ := hok b _ z
            obtain ⟨e2, _⟩ := hok' b _ z2
            rw [e] at e1; cases e1
            exact e2
  cases hk : K.lookup a with
  | some o =>
    -- the script is one of the module's own objects
    have e := KX a o hk
    rw [ha] at e
    cases e
    refine core (fun _ => none) (fun _ => .inl rfl) (.inr ⟨_, vs.toArray, _, hk, rfl, rfl, rfl, by rw [List.size_toArray, lenV]; exact hl, by simpa using rv⟩) (fun b u z => by have z' : (none : Option HO) = some u := z; cases z') (fun b z => absurd rfl z) fun z => absurd rfl z
  | none =>
    refine core (fun b => if b = a then some (.frz { cls := .type "list", data := .seq vs.toArray } (.lst (ns.map V.int))) else none) (fun b => ?_) (.inl (.inr ⟨{ cls := .type "list", data := .seq vs.toArray }, if_pos rfl⟩)) (fun b u z => ?_) (fun b z => ?_) fun _ => hk
    · by_cases hb : b = a
      · exact .inr ⟨_, _, if_pos hb⟩
      · exact .inl (if_neg hb)
    · by_cases hb : b = a
      · have z' := (if_pos hb).symm.trans z
        cases z'
        subst hb
        exact ⟨ha, by rw [List.length_map]; exact hl, vs, _, rv, ha⟩
      · have z' := (if_neg hb).symm.trans z
        cases z'
    · by_cases hb : b = a
      · exact hb
      · exact absurd (if_neg hb) z
end L2

namespace L2
open PySem PySem.Spec PyProof.Rows

abbrev KOf {K : PySem.W.Frag} {h : Heap} (_ : K.In h) : PySem.W.Frag := K

/-- the goal that k_head leaves (case hc), from the law's promise. F gives the function object fd (K's own) once, then the promise over every base -/
theorem walk_of {l : PySem.W.OpenLaw} {n k : Nat} {q : Program} {loose : List Str} {XP : (Str → Option Value) → Heap → Prop} {YP : World → Heap → Prop} {d : DefRec} {K : Params → PySem.W.Frag} {CX : World → CXT} {sp : World → Sp} {x : Str}
    (hn : l.most = some n) (hn2 : n ≤ sizeLine) (hdf : d.params.defaults = []) (hr : Room k callerA)
    (hY : ∀ (w : World) (h : Heap), YP w h → (K w.params).In h)
    (F : ∀ (w : World) (mg : Str → Option Value) (fa : Addr) (h : Heap), (K w.params).In h → h.Ns mainGlobals mg → mg d.name = some (.ref fa) →
      ∃ fd : FuncData, (∀ (s : Shared) (u : Value), BindsTo s fd ⟨[u], []⟩ [(x, u)]) ∧
        ∀ base : Heap, (K w.params).In base → base.Ns mainGlobals mg → FnOk l.prog w (K w.params) mg base (CX w) k fa fd [x] (sp w))
    (hsp : ∀ (w : World) (H : Hp) (a : Addr) (ns : List Int), ns.length ≤ n → Only H → SqL (K w.params) H a (ns.map V.int) → sp w [.ref a] H (fun v _ => v = .bl true) fun _ _ _ => False)
    (hCX : ∀ (w : World) (H : Hp) (s : Shared) (e : Value) (s' : Shared), CX w [] H s (fun _ _ _ => False) e s' → False) :
    PySem.W.WalkO q loose XP YP l.row.toRowW d [] (fun f vs => PySem.call f vs) := by
  refine Att.attach_call hn hdf fun w s₀ s₁ mg mb fa o pm cd doc a vs ns G Y ho hd hcd hmg hobj hints hlen hg => ?_
  have KX := hY w _ Y
  obtain ⟨fd, hb, hF⟩ := F w mg fa _ KX G.T.g hmg
  exact law_call KX G.T.g G.T.b G.T.builtins G.T.nolimit hg hobj hints (Nat.le_trans hlen hn2) hr hF hb (fun H hO hS => hsp w H a ns hlen hO hS) fun H e s' => hCX w H s₁ e s'
/-- the same where the promise hangs on the written part alone: (sp := My.sp_law), no hole under a binder -/
theorem walk_ofK {l : PySem.W.OpenLaw} {n k : Nat} {q : Program} {loose : List Str} {XP : (Str → Option Value) → Heap → Prop} {YP : World → Heap → Prop} {d : DefRec} {K : Params → PySem.W.Frag} {CX : CXT} {sp : PySem.W.Frag → Sp} {x : Str}
    (hn : l.most = some n) (hn2 : n ≤ sizeLine) (hdf : d.params.defaults = []) (hr : Room k callerA)
    (hY : ∀ (w : World) (h : Heap), YP w h → (K w.params).In h)
    (F : ∀ (w : World) (mg : Str → Option Value) (fa : Addr) (h : Heap), (K w.params).In h → h.Ns mainGlobals mg → mg d.name = some (.ref fa) →
      ∃ fd : FuncData, (∀ (s : Shared) (u : Value), BindsTo s fd ⟨[u], []⟩ [(x, u)]) ∧
        ∀ base : Heap, (K w.params).In base → base.Ns mainGlobals mg → FnOk l.prog w (K w.params) mg base CX k fa fd [x] (sp (K w.params)))
    (hsp : ∀ (K : PySem.W.Frag) (H : Hp) (a : Addr) (ns : List Int), ns.length ≤ n → Only H → SqL K H a (ns.map V.int) → sp K [.ref a] H (fun v _ => v = .bl true) fun _ _ _ => False)
    (hCX : ∀ (H : Hp) (s : Shared) (e : Value) (s' : Shared), CX [] H s (fun _ _ _ => False) e s' → False) :
    PySem.W.WalkO q loose XP YP l.row.toRowW d [] (fun f vs => PySem.call f vs) :=
  walk_of (K := K) (CX := fun _ => CX) (sp := fun w => sp (K w.params)) hn hn2 hdf hr hY F (fun w H a ns h1 h2 h3 => hsp (K w.params) H a ns h1 h2 h3) fun _ H s e s' => hCX H s e s'
end L2

/-! SHORT WORDS over the layer: a def of the text, its body, what a loop and a test want. -/
namespace L2
open PySem PySem.Spec PyProof.Rows

/-! ### the text by places -/
/-- the j-th statement of a class's body -/
def inClass (s : Stmt) (j : Nat) : Stmt := match s with
  | .ClassDef _ _ _ body _ _ _ _ _ _ _ => body.getD j (.Pass ⟨0, 0, 0, 0⟩)
  | _ => .Pass ⟨0, 0, 0, 0⟩
def defArgs (s : Stmt) : Arguments := match s with
  | .FunctionDef _ a _ _ _ _ _ _ _ _ => a
  | _ => { posonlyargs := [], args := [], vararg := none, kwonlyargs := [], kw_defaults := [], kwarg := none, defaults := [] }
def defBody (s : Stmt) : List Stmt := match s with
  | .FunctionDef _ _ b _ _ _ _ _ _ _ => b
  | _ => []
def defScope (s : Stmt) : Scope := match s with
  | .FunctionDef _ _ _ _ _ _ sc _ _ _ => sc
  | _ => { kind := .function, names := [], isGenerator := false, isCoroutine := false }

/-! ### no exception leaves a def -/
abbrev CX0 : CXT := fun _ _ _ _ _ _ => False
abbrev E0 : XK := fun _ _ _ => False
theorem pass0 {X : Cx} : Passes CX0 X E0 := fun _ _ _ _ _ _ _ h => h.elim

/-! ### a def (or method) of the text as it stands behind the top -/
structure Fun (K : PySem.W.Frag) (x qual : Str) (st : Stmt) (f : Addr) (fd : FuncData) : Prop where
  ex : ∃ (oc : Value) (od : Option Addr) (kV doc pm : Value) (an : Option Addr) (cdv ct : Value) (osl : Array (Option Value)),
    fd = PySem.W.fnOf x qual (defArgs st) (defBody st) (defScope st) .none kV doc pm an cdv ct ∧ K.lookup f = some ⟨oc, od, .func fd, osl⟩ ∧ PySem.W.codeIn K cdv qual = true
  kp : PySem.W.keepIn K (.ref f) = true
section
variable {P : Program} {w : World} {K : PySem.W.Frag} {mg : Str → Option Value} {base : Heap}
/-- THE RULE for a def: its body as a term of rules, and the reading of that term -/
theorem Fun.ok {x qual : Str} {st : Stmt} {f : Addr} {fd : FuncData} {N ps : List Str} {k : Nat} {sp : Sp} (F : Fun K x qual st f fd) (S : FnScope N ps (defScope st)) (len : ∀ vs H Q E, sp vs H Q E → vs.length = ps.length)
    (hbody : ∀ (cdv : Value) (A : Around) (outer : List Env) (s : Shared) (H : Hp) (vs : List V) (Q : VK) (E : XK), Room k (A.deeper (envOfC qual (defScope st) s.heap.objs.size f cdv)) → sp vs H Q E →
      ∃ t, PSs (cxOf CX0 P w K mg base N qual (defScope st) f cdv A outer s H E).nox (defBody st) t ∧ t { nx := fun _ H' => Q .non H', rt := Q } (start N vs) H) : FnOk P w K mg base CX0 (k + 1) f fd ps sp := by
  obtain ⟨oc, od, kV, doc, pm, an, cdv, ct, osl, rfl, lk, hcd⟩ := F.ex
  refine fn_of lk hcd S len fun A outer s H vs Q E hr hsp => ?_
  obtain ⟨t, h, q⟩ := hbody cdv A outer s H vs Q E hr hsp
  exact ⟨t, h.nox, q⟩
/-- how its arguments bind (no defaults): h is «fun _ _ _ _ _ _ us hl => match us, hl with | [_, _], _ => rfl», one _ a parameter -/
theorem Fun.binds {x qual : Str} {st : Stmt} {f : Addr} {fd : FuncData} {ps : List Str} (F : Fun K x qual st f fd)
    (h : ∀ (kV doc pm : Value) (an : Option Addr) (cdv ct : Value) (us : List Value), us.length = ps.length → bindArgs (PySem.W.fnOf x qual (defArgs st) (defBody st) (defScope st) .none kV doc pm an cdv ct) ⟨us, []⟩ = pure (ps.zip us)) : Binds K fd ps [] := by
  obtain ⟨oc, od, kV, doc, pm, an, cdv, ct, osl, rfl, lk, hcd⟩ := F.ex
  exact .all (h kV doc pm an cdv ct)
theorem fun_mk {x qual : Str} {st : Stmt} {f : Addr} {oc : Value} {od an : Option Addr} {osl : Array (Option Value)} {kV doc pm cdv ct : Value} (l : K.lookup f = some ⟨oc, od, .func (PySem.W.fnOf x qual (defArgs st) (defBody st) (defScope st) .none kV doc pm an cdv ct), osl⟩)
    (c : PySem.W.codeIn K cdv qual = true) (k : PySem.W.keepIn K (.ref f) = true) : Fun K x qual st f (PySem.W.fnOf x qual (defArgs st) (defBody st) (defScope st) .none kV doc pm an cdv ct) := ⟨⟨oc, od, kV, doc, pm, an, cdv, ct, osl, rfl, l, c⟩, k⟩
end
theorem hu_of {A : Around} {k : Nat} (hr : Room k A) : A.units + 1 < cLine := Nat.lt_of_le_of_lt (Nat.add_le_add_left (by decide : 1 ≤ 64) _) hr.units
theorem small1000 {n : Nat} (h : n ≤ 1000) : n < sizeLine := Nat.lt_of_le_of_lt h (by decide)

/-! ### expressions in short: the name that stands in the i-th slot -/
section
variable {X : Cx}
theorem pv (i : Nat) {x : Str} {pos : Pos} (hN : X.N[i]? = some x := by rfl) (hv : Vis X.env.scope x := by first | exact Or.inl rfl | exact Or.inr (Or.inl rfl) | exact Or.inr (Or.inr rfl)) (hd : (x == ("__debug__" : Str)) = false := by decide)
    (hcd : (x == ("__classdict__" : Str)) = false := by decide) : PE X (.Name x pos) (tVar i) := pe_var hN hv hd hcd
end

/-! ### tests -/
theorem iteF {A B : Prop} (h : B) : if false = true then A else B := by
  rw [if_neg Bool.false_ne_true]
  exact h
theorem iteT {A B : Prop} (h : A) : if true = true then A else B := by
  rw [if_pos rfl]
  exact h
theorem ite2 {c A B : Prop} [Decidable c] (h1 : c → A) (h2 : ¬ c → B) : if c then A else B := by
  by_cases h : c
  · rw [if_pos h]
    exact h1 h
  · rw [if_neg h]
    exact h2 h
theorem iteNS {c A B : Prop} [Decidable c] (hc : c) (h : B) : if (!decide c) = true then A else B := by
  rw [decide_eq_true hc]
  exact iteF h

/-! ### heaps -/
/-- all that was tracked is as it was -/
def Same (H H' : Hp) : Prop := ∀ b o, H b = some o → H' b = some o
theorem Same.refl (H : Hp) : Same H H := fun _ _ h => h
theorem Same.trans {H H1 H2 : Hp} (a : Same H H1) (b : Same H1 H2) : Same H H2 := fun c o h => b c o (a c o h)
theorem Same.free {H H' : Hp} (e : Same H H') {l : Addr} (h : H' l = Option.none) : H l = Option.none := by
  cases q : H l with
  | none => rfl
  | some o =>
    rw [e l o q] at h
    cases h
theorem Same.seq {K : PySem.W.Frag} {H H' : Hp} {a : Addr} {xs : List V} (e : Same H H') (h : SqL K H a xs) : SqL K H' a xs := by
  rcases h with (h | ⟨o, h⟩) | h
  · exact .inl (.inl (e _ _ h))
  · exact .inl (.inr ⟨o, e _ _ h⟩)
  · exact .inr h

end L2
end
section
/-! A small machine: values, a memory of lists and tuples, and the meaning of the program's constructs as plain functions. -/
set_option autoImplicit false
namespace VM
inductive W where
  | non
  | bl (b : Bool)
  | int (i : Int)
  | str (x : List Nat)
  | ref (a : Nat)
  deriving DecidableEq, Inhabited
inductive O where
  | lst (xs : List W)
  | frz (xs : List W)
  | tup (xs : List W)
  deriving DecidableEq, Inhabited
abbrev Mem := List O
abbrev St := List (Option W)
inductive R (α : Type) where
  | ok (a : α) (M : Mem)
  | ex (v : W) (M : Mem)
  | bad
def R.bind {α β : Type} : R α → (α → Mem → R β) → R β
  | .ok a M, f => f a M
  | .ex v M, _ => .ex v M
  | .bad, _ => .bad
inductive RS where
  | nx (σ : St) (M : Mem)
  | rt (v : W) (M : Mem)
  | bk (σ : St) (M : Mem)
  | ct (σ : St) (M : Mem)
  | ex (v : W) (M : Mem)
  | bad
def R.bindS {α : Type} : R α → (α → Mem → RS) → RS
  | .ok a M, f => f a M
  | .ex v M, _ => .ex v M
  | .bad, _ => .bad
abbrev EM := St → Mem → R W
abbrev TM := St → Mem → R Bool
abbrev AM := St → Mem → R (List W)
abbrev SM := St → Mem → RS
abbrev GM := W → St → Mem → R St
abbrev OpM := W → W → Mem → R W
abbrev CM := List W → Mem → R W
/-- the longest list -/
abbrev lim : Nat := 16777216
def two64 : Nat := 18446744073709551616
def newL (xs : List W) (M : Mem) : R W := if xs.length ≤ lim then .ok (.ref M.length) (M ++ [.lst xs]) else .bad
def newT (xs : List W) (M : Mem) : R W := if xs.length ≤ lim then .ok (.ref M.length) (M ++ [.tup xs]) else .bad
/-- a list that may be read, a tuple, a list that may be written -/
def lstOf (M : Mem) : W → Option (List W)
  | .ref a => match M[a]? with
    | some (.lst xs) => some xs
    | some (.frz xs) => some xs
    | _ => none
  | _ => none
def tupOf (M : Mem) : W → Option (List W)
  | .ref a => match M[a]? with
    | some (.tup xs) => some xs
    | _ => none
  | _ => none
def seqOf (M : Mem) (v : W) : Option (List W) := match lstOf M v with
  | some xs => some xs
  | none => tupOf M v
def mutOf (M : Mem) : W → Option (Nat × List W)
  | .ref a => match M[a]? with
    | some (.lst xs) => some (a, xs)
    | _ => none
  | _ => none
/-! ### names, constants -/
def eVar (i : Nat) : EM := fun σ M => match σ[i]? with
  | some (some v) => .ok v M
  | _ => .bad
def eC (v : W) : EM := fun _ M => .ok v M
/-! ### argument lists, displays -/
def aNil : AM := fun _ M => .ok [] M
def aCons (e : EM) (a : AM) : AM := fun σ M => (e σ M).bind fun x M1 => (a σ M1).bind fun xs M2 => .ok (x :: xs) M2
def eLst (a : AM) : EM := fun σ M => (a σ M).bind newL
def eTup (a : AM) : EM := fun σ M => (a σ M).bind newT
/-! ### operations -/
def eOp (f : OpM) (a b : EM) : EM := fun σ M => (a σ M).bind fun x M1 => (b σ M1).bind fun y M2 => f x y M2
def oAdd : OpM
  | .int i, .int j, M => .ok (.int (i + j)) M
  | .ref a, .ref b, M => match mutOf M (.ref a), mutOf M (.ref b) with
    | some (_, xs), some (_, ys) => newL (xs ++ ys) M
    | _, _ => .bad
  | _, _, _ => .bad
def oSub : OpM
  | .int i, .int j, M => .ok (.int (i - j)) M
  | _, _, _ => .bad
def oMul : OpM
  | .int i, .int j, M => if i.natAbs < two64 ∨ j.natAbs < two64 then .ok (.int (i * j)) M else .bad
  | _, _, _ => .bad
def oDiv : OpM
  | .int i, .int j, M => if 0 < j ∧ j.natAbs < 1073741824 then .ok (.int (i / j)) M else .bad
  | _, _, _ => .bad
def oMod : OpM
  | .int i, .int j, M => if 0 < j then .ok (.int (i % j)) M else .bad
  | _, _, _ => .bad
def scal : W → W → Bool
  | .non, .non => true | .non, .int _ => true | .int _, .non => true | .non, .bl _ => true | .bl _, .non => true | .non, .str _ => true | .str _, .non => true
  | .int _, .int _ => true | .bl _, .bl _ => true | .str _, .str _ => true
  | .int _, .str _ => true | .str _, .int _ => true | .bl _, .str _ => true | .str _, .bl _ => true
  | _, _ => false
def flat : W → Bool
  | .ref _ => false
  | _ => true
/-- == of flat values -/
def eqW : W → W → Bool
  | .non, .non => true
  | .bl a, .bl b => a == b
  | .bl a, .int b => (if a then 1 else 0) == b
  | .int a, .bl b => a == (if b then 1 else 0)
  | .int a, .int b => a == b
  | .str a, .str b => a == b
  | _, _ => false
def eqWs : List W → List W → Bool
  | [], [] => true
  | x :: xs, y :: ys => eqW x y && eqWs xs ys
  | _, _ => false
/-- two lists: told apart by their lengths, or flat -/
def eqSeq (xs ys : List W) : Option Bool :=
  if xs.length ≠ ys.length then some false
  else if xs.all flat && ys.all flat then some (eqWs xs ys) else none
def eqO (M : Mem) (x y : W) : Option Bool :=
  if scal x y then some (decide (x = y))
  else match lstOf M x, lstOf M y with
    | some xs, some ys => eqSeq xs ys
    | _, _ => none
def oEq : OpM := fun x y M => match eqO M x y with
  | some b => .ok (.bl b) M
  | none => .bad
def oNe : OpM := fun x y M => match eqO M x y with
  | some b => .ok (.bl (!b)) M
  | none => .bad
def oInt (p : Int → Int → Bool) : OpM
  | .int i, .int j, M => .ok (.bl (p i j)) M
  | _, _, _ => .bad
def oLt : OpM := oInt fun i j => decide (i < j)
def oLe : OpM := oInt fun i j => decide (i ≤ j)
def oGt : OpM := oInt fun i j => decide (j < i)
def oGe : OpM := oInt fun i j => decide (j ≤ i)
def isNon : W → Bool
  | .non => true
  | _ => false
def eIsN (a : EM) : EM := fun σ M => (a σ M).bind fun x M1 => .ok (.bl (isNon x)) M1
def eNotN (a : EM) : EM := fun σ M => (a σ M).bind fun x M1 => .ok (.bl (!isNon x)) M1
def inW (x : W) (xs : List W) : Bool := xs.any fun y => eqW y x
def oIn : OpM := fun x y M => match seqOf M y with
  | some xs => if flat x && xs.all flat then .ok (.bl (inW x xs)) M else .bad
  | none => .bad
def oNotIn : OpM := fun x y M => match seqOf M y with
  | some xs => if flat x && xs.all flat then .ok (.bl (!inW x xs)) M else .bad
  | none => .bad
/-! ### places -/
def ixN (n : Nat) (i : Int) : Option Nat := if 0 ≤ i then (if i < n then some i.toNat else none) else if -(n : Int) ≤ i then some (i + n).toNat else none
def atI {α : Type} (xs : List α) (i : Int) : Option α := (ixN xs.length i).bind fun j => xs[j]?
def oIx : OpM
  | x, .int i, M => match seqOf M x with
    | some xs => match atI xs i with
      | some v => .ok v M
      | none => .bad
    | none => .bad
  | _, _, _ => .bad
def sIx (n d : Nat) : Option Int → Nat
  | none => d
  | some v => if v < 0 then (v + (n : Int)).toNat else min v.toNat n
def cut {α : Type} (xs : List α) (lo hi : Option Int) : List α := (xs.drop (sIx xs.length 0 lo)).take (sIx xs.length xs.length hi - sIx xs.length 0 lo)
abbrev PM := St → Mem → R (Option Int)
def pNone : PM := fun _ M => .ok none M
def pSome (e : EM) : PM := fun σ M => (e σ M).bind fun x M1 => match x with
  | .int i => .ok (some i) M1
  | _ => .bad
def cutO (x : W) (lo hi : Option Int) (M : Mem) : R W := match lstOf M x with
  | some xs => newL (cut xs lo hi) M
  | none => match tupOf M x with
    | some xs => if sIx xs.length 0 lo = 0 ∧ sIx xs.length xs.length hi = xs.length then .bad else newT (cut xs lo hi) M
    | none => .bad
def eSl (e : EM) (l h : PM) : EM := fun σ M => (e σ M).bind fun x M1 => (l σ M1).bind fun lo M2 => (h σ M2).bind fun hi M3 => cutO x lo hi M3
/-! ### tests -/
def tB (e : EM) : TM := fun σ M => (e σ M).bind fun x M1 => match x with
  | .bl b => .ok b M1
  | _ => .bad
def tAnd (a b : TM) : TM := fun σ M => (a σ M).bind fun c M1 => if c then b σ M1 else .ok false M1
def tOr (a b : TM) : TM := fun σ M => (a σ M).bind fun c M1 => if c then .ok true M1 else b σ M1
def tNot (a : TM) : TM := fun σ M => (a σ M).bind fun c M1 => .ok (!c) M1
def eAnd (a b : EM) : EM := fun σ M => (a σ M).bind fun x M1 => match x with
  | .bl c => if c then b σ M1 else .ok (.bl false) M1
  | _ => .bad
def eOr (a b : EM) : EM := fun σ M => (a σ M).bind fun x M1 => match x with
  | .bl c => if c then .ok (.bl true) M1 else b σ M1
  | _ => .bad
def eNot (a : EM) : EM := fun σ M => (a σ M).bind fun x M1 => match x with
  | .bl c => .ok (.bl (!c)) M1
  | _ => .bad
def eIf (t : TM) (a b : EM) : EM := fun σ M => (t σ M).bind fun c M1 => if c then a σ M1 else b σ M1
/-! ### calls -/
def eCall (f : CM) (a : AM) : EM := fun σ M => (a σ M).bind f
def fLen : CM := fun vs M => match vs with
  | [x] => match seqOf M x with
    | some xs => .ok (.int xs.length) M
    | none => .bad
  | _ => .bad
def fList : CM := fun vs M => match vs with
  | [x] => match seqOf M x with
    | some xs => newL xs M
    | none => .bad
  | _ => .bad
def fTuple : CM := fun vs M => match vs with
  | [x] => match lstOf M x with
    | some xs => newT xs M
    | none => match tupOf M x with
      | some _ => .ok x M
      | none => .bad
  | _ => .bad
def fInt : CM := fun vs M => match vs with
  | [.int i] => .ok (.int i) M
  | [.bl b] => .ok (.int (if b then 1 else 0)) M
  | _ => .bad
def intsOf : List W → Option (List Int)
  | [] => some []
  | .int i :: r => (intsOf r).map (i :: ·)
  | _ => none
def fSum : CM := fun vs M => match vs with
  | [x] => match (lstOf M x).bind intsOf with
    | some ns => .ok (.int ns.sum) M
    | none => .bad
  | _ => .bad
/-- the kinds that isinstance is asked for -/
inductive Kd where
  | int | bool | str | list | tuple
  deriving DecidableEq
def isKd (M : Mem) (x : W) : Kd → Option Bool := fun k => match x with
  | .non => some false
  | .bl _ => some (decide (k = .bool ∨ k = .int))
  | .int _ => some (decide (k = .int))
  | .str _ => some (decide (k = .str))
  | .ref a => match M[a]? with
    | some (.lst _) => some (decide (k = .list))
    | some (.frz _) => none
    | some (.tup _) => some (decide (k = .tuple))
    | none => none
def anyKd (M : Mem) (x : W) : List Kd → Option Bool
  | [] => some false
  | k :: r => match isKd M x k, anyKd M x r with
    | some a, some b => some (a || b)
    | _, _ => none
def eIs (ks : List Kd) (a : EM) : EM := fun σ M => (a σ M).bind fun x M1 => match anyKd M1 x ks with
  | some b => .ok (.bl b) M1
  | none => .bad
/-- the values of a list as they are first met -/
def ded (ns : List Int) : List Int := ns.foldl (fun l n => if l.any (· == n) then l else l ++ [n]) []
/-- len(set(xs)) of ints -/
def eLenSet (e : EM) : EM := fun σ M => (e σ M).bind fun x M1 => match (lstOf M1 x).bind intsOf with
  | some ns => if ns.length < 4000 then .ok (.int (ded ns).length) M1 else .bad
  | none => .bad
/-! ### methods -/
def eMeth (f : W → CM) (o : EM) (a : AM) : EM := fun σ M => (o σ M).bind fun x M1 => match lstOf M1 x with
  | some _ => (a σ M1).bind fun vs M2 => f x vs M2
  | none => .bad
def mAppend (x : W) : CM := fun vs M => match vs, mutOf M x with
  | [y], some (a, xs) => if xs.length < lim then .ok .non (M.set a (.lst (xs ++ [y]))) else .bad
  | _, _ => .bad
def mExtend (x : W) : CM := fun vs M => match vs with
  | [y] => match mutOf M x, mutOf M y with
    | some (a, xs), some (_, ys) => if xs.length + ys.length ≤ lim then .ok .non (M.set a (.lst (xs ++ ys))) else .bad
    | _, _ => .bad
  | _ => .bad
def mPop (x : W) : CM := fun vs M => match vs, mutOf M x with
  | [], some (a, xs) => match xs[xs.length - 1]? with
    | some y => .ok y (M.set a (.lst xs.dropLast))
    | none => .bad
  | _, _ => .bad
def mCount (x : W) : CM := fun vs M => match vs, mutOf M x with
  | [y], some (_, xs) => if flat y && xs.all flat then .ok (.int (xs.countP fun z => eqW z y)) M else .bad
  | _, _ => .bad
/-! ### targets -/
def gName (i : Nat) : GM := fun v σ M => .ok (σ.set i (some v)) M
def gEach : List GM → List W → St → Mem → R St
  | [], [], σ, M => .ok σ M
  | g :: gs, v :: vs, σ, M => (g v σ M).bind fun σ1 M1 => gEach gs vs σ1 M1
  | _, _, _, _ => .bad
def gTup (gs : List GM) : GM := fun v σ M => match tupOf M v with
  | some xs => if xs.length = gs.length then gEach gs xs σ M else .bad
  | none => .bad
def gSub (o i : EM) : GM := fun v σ M => (o σ M).bind fun x M1 => (i σ M1).bind fun y M2 => match y, mutOf M2 x with
  | .int k, some (a, xs) => match ixN xs.length k with
    | some j => .ok σ (M2.set a (.lst (xs.set j v)))
    | none => .bad
  | _, _ => .bad
/-! ### statements -/
def sSkip : SM := fun σ M => .nx σ M
def sBad : SM := fun _ _ => .bad
def sBk : SM := fun σ M => .bk σ M
def sCt : SM := fun σ M => .ct σ M
def sAsg (e : EM) (g : GM) : SM := fun σ M => (e σ M).bindS fun x M1 => (g x σ M1).bindS fun σ1 M2 => .nx σ1 M2
def sExpr (e : EM) : SM := fun σ M => (e σ M).bindS fun _ M1 => .nx σ M1
def sRet (e : EM) : SM := fun σ M => (e σ M).bindS fun x M1 => .rt x M1
def sRetN : SM := fun _ M => .rt .non M
def RS.andThen : RS → (St → Mem → RS) → RS
  | .nx σ M, f => f σ M
  | r, _ => r
def sSeq (a b : SM) : SM := fun σ M => (a σ M).andThen b
def sIf (t : TM) (a b : SM) : SM := fun σ M => (t σ M).bindS fun c M1 => if c then a σ M1 else b σ M1
/-- what a loop walks: values, or pairs that are made at each turn; and what must stay as it is meanwhile -/
inductive Src where
  | val (x : W)
  | pair (x y : W)
def Src.get : Src → Mem → R W
  | .val x, M => .ok x M
  | .pair x y, M => newT [x, y] M
abbrev Chk := List (Nat × O)
def Chk.ok (c : Chk) (M : Mem) : Bool := c.all fun p => decide (M[p.1]? = some p.2)
abbrev IM := St → Mem → R (List Src × Chk)
def iSeq (e : EM) : IM := fun σ M => (e σ M).bind fun x M1 => match x with
  | .ref a => match M1[a]? with
    | some (.lst xs) => .ok (xs.map .val, [(a, .lst xs)]) M1
    | some (.frz xs) => .ok (xs.map .val, [(a, .frz xs)]) M1
    | some (.tup xs) => .ok (xs.map .val, [(a, .tup xs)]) M1
    | none => .bad
  | _ => .bad
def two62 : Nat := 4611686018427387904
def rng (lo : Int) (n : Nat) : List Src := (List.range n).map fun (k : Nat) => .val (.int (lo + (k : Int)))
def iRng1 (e : EM) : IM := fun σ M => (e σ M).bind fun x M1 => match x with
  | .int j => if j.natAbs < two62 then .ok (rng 0 j.toNat, []) M1 else .bad
  | _ => .bad
def iRng2 (e f : EM) : IM := fun σ M => (e σ M).bind fun x M1 => (f σ M1).bind fun y M2 => match x, y with
  | .int i, .int j => if i.natAbs < two62 ∧ j.natAbs < two62 then .ok (rng i (j - i).toNat, []) M2 else .bad
  | _, _ => .bad
/-- a list that may be read, with its place and object -/
def lstAt (M : Mem) : W → Option (Nat × O × List W)
  | .ref a => match M[a]? with
    | some (.lst xs) => some (a, .lst xs, xs)
    | some (.frz xs) => some (a, .frz xs, xs)
    | _ => none
  | _ => none
def pairs (xs ys : List W) : List Src := List.zipWith Src.pair xs ys
def iZip (e f : EM) : IM := fun σ M => (e σ M).bind fun x M1 => (f σ M1).bind fun y M2 => match lstAt M2 x, lstAt M2 y with
  | some (a, o, xs), some (b, q, ys) => .ok (pairs xs ys, [(a, o), (b, q)]) M2
  | _, _ => .bad
def loop (c : Chk) (g : GM) (body : SM) : List Src → St → Mem → RS
  | [], σ, M => if c.ok M then .nx σ M else .bad
  | x :: r, σ, M => if c.ok M then
      (x.get M).bindS fun v M1 => (g v σ M1).bindS fun σ1 M2 => match body σ1 M2 with
        | .nx σ2 M3 => loop c g body r σ2 M3
        | .ct σ2 M3 => loop c g body r σ2 M3
        | .bk σ2 M3 => .nx σ2 M3
        | .rt v M3 => .rt v M3
        | .ex v M3 => .ex v M3
        | .bad => .bad
    else .bad
def sFor (i : IM) (g : GM) (body : SM) : SM := fun σ M => (i σ M).bindS fun p M1 => loop p.2 g body p.1 σ M1
def whileN (t : TM) (body : SM) : Nat → St → Mem → RS
  | 0, _, _ => .bad
  | n + 1, σ, M => (t σ M).bindS fun c M1 => if c then (match body σ M1 with
        | .nx σ2 M3 => whileN t body n σ2 M3
        | .ct σ2 M3 => whileN t body n σ2 M3
        | .bk σ2 M3 => .nx σ2 M3
        | .rt v M3 => .rt v M3
        | .ex v M3 => .ex v M3
        | .bad => .bad) else .nx σ M1
def sWhile (n : Nat) (t : TM) (body : SM) : SM := whileN t body n
/-- the names of the slots in cl are not bound -/
def clr (cl : List Nat) (σ : St) : St := cl.foldl (fun σ j => σ.set j none) σ
/-- [elt for g in .. if t], k names more, those in cl hidden -/
def comp (c : Chk) (g : GM) (t : TM) (elt : EM) : List Src → St → Mem → List W → R (List W)
  | [], _, M, acc => if c.ok M then .ok acc M else .bad
  | x :: r, σ, M, acc => if c.ok M then
      (x.get M).bind fun v M1 => (g v σ M1).bind fun σ1 M2 => (t σ1 M2).bind fun b M3 =>
        if b then (elt σ1 M3).bind fun y M4 => comp c g t elt r σ1 M4 (acc ++ [y]) else comp c g t elt r σ1 M3 acc
    else .bad
def eComp (k : Nat) (cl : List Nat) (i : IM) (g : GM) (t : TM) (elt : EM) : EM := fun σ M => (i σ M).bind fun p M1 =>
  (comp p.2 g t elt p.1 (clr cl (σ ++ List.replicate k none)) M1 []).bind newL
def tTrue : TM := fun _ M => .ok true M
/-! ### defs -/
abbrev CE := Nat → CM
/-- a def with n names in all -/
def fn (np n : Nat) (body : SM) : CM := fun args M => if args.length = np then (match body (args.map some ++ List.replicate (n - np) none) M with
  | .rt v M' => .ok v M'
  | .nx _ M' => .ok .non M'
  | .ex v M' => .ex v M'
  | _ => .bad) else .bad
def callK (tab : CE → CE) : Nat → CE
  | 0 => fun _ _ _ => .bad
  | k + 1 => tab (callK tab k)
end VM
end
section
set_option linter.all false
set_option autoImplicit false
/-! How the machine's terms are reckoned with. -/
namespace VM
/-! ### prefixes of the memory -/
theorem pre_get {M M' : Mem} (h : M <+: M') {a : Nat} {o : O} (e : M[a]? = some o) : M'[a]? = some o := by
  obtain ⟨r, rfl⟩ := h
  rw [List.getElem?_append_left (List.getElem?_eq_some_iff.mp e).1]; exact e
theorem pre_app (M : Mem) (r : Mem) : M <+: M ++ r := ⟨r, rfl⟩
theorem pre_rfl (M : Mem) : M <+: M := List.prefix_refl _
/-- a list that may be written; one that is read alone or not; a tuple -/
def Lst (M : Mem) (v : W) (ws : List W) : Prop := ∃ a, v = .ref a ∧ M[a]? = some (.lst ws)
def Tup (M : Mem) (v : W) (ws : List W) : Prop := ∃ a, v = .ref a ∧ M[a]? = some (.tup ws)
theorem Lst.mono {M M' : Mem} {v : W} {ws : List W} (h : Lst M v ws) (p : M <+: M') : Lst M' v ws := by
  obtain ⟨a, e, q⟩ := h; exact ⟨a, e, pre_get p q⟩
theorem Tup.mono {M M' : Mem} {v : W} {ws : List W} (h : Tup M v ws) (p : M <+: M') : Tup M' v ws := by
  obtain ⟨a, e, q⟩ := h; exact ⟨a, e, pre_get p q⟩
theorem Lst.lstOf {M : Mem} {v : W} {ws : List W} (h : Lst M v ws) : lstOf M v = some ws := by
  obtain ⟨a, rfl, q⟩ := h; simp only [VM.lstOf, q]
theorem Lst.seqOf {M : Mem} {v : W} {ws : List W} (h : Lst M v ws) : seqOf M v = some ws := by
  simp only [VM.seqOf, h.lstOf]
theorem Lst.lstAt {M : Mem} {v : W} {ws : List W} (h : Lst M v ws) : ∃ a, v = .ref a ∧ lstAt M v = some (a, .lst ws, ws) ∧ M[a]? = some (.lst ws) := by
  obtain ⟨a, rfl, q⟩ := h; exact ⟨a, rfl, by simp only [VM.lstAt, q], q⟩
theorem Tup.tupOf {M : Mem} {v : W} {ws : List W} (h : Tup M v ws) : tupOf M v = some ws := by
  obtain ⟨a, rfl, q⟩ := h; simp only [VM.tupOf, q]
theorem Tup.lstOf {M : Mem} {v : W} {ws : List W} (h : Tup M v ws) : VM.lstOf M v = none := by
  obtain ⟨a, rfl, q⟩ := h; simp only [VM.lstOf, q]
theorem Tup.seqOf {M : Mem} {v : W} {ws : List W} (h : Tup M v ws) : seqOf M v = some ws := by
  simp only [VM.seqOf, h.lstOf, h.tupOf]
theorem mutOf_at {M : Mem} {a : Nat} {ws : List W} (h : M[a]? = some (.lst ws)) : mutOf M (.ref a) = some (a, ws) := by simp only [VM.mutOf, h]
theorem lstOf_at {M : Mem} {a : Nat} {ws : List W} (h : M[a]? = some (.lst ws)) : lstOf M (.ref a) = some ws := by simp only [VM.lstOf, h]
theorem seqOf_at {M : Mem} {a : Nat} {ws : List W} (h : M[a]? = some (.lst ws)) : seqOf M (.ref a) = some ws := by simp only [VM.seqOf, lstOf_at h]
theorem newL_ok {ws : List W} {M : Mem} (h : ws.length ≤ 16777216) : newL ws M = .ok (.ref M.length) (M ++ [.lst ws]) := if_pos h
theorem newT_ok {ws : List W} {M : Mem} (h : ws.length ≤ 16777216) : newT ws M = .ok (.ref M.length) (M ++ [.tup ws]) := if_pos h
theorem Lst.new (M : Mem) (ws : List W) : Lst (M ++ [.lst ws]) (.ref M.length) ws := ⟨_, rfl, by simp⟩
theorem Tup.new (M : Mem) (ws : List W) : Tup (M ++ [.tup ws]) (.ref M.length) ws := ⟨_, rfl, by simp⟩
theorem get_last (M : Mem) (o : O) : (M ++ [o])[M.length]? = some o := by simp
theorem set_last (M : Mem) (o o' : O) : (M ++ [o]).set M.length o' = M ++ [o'] := by simp
/-! ### statements -/
structure Post where
  nx : St → Mem → Prop
  rt : W → Mem → Prop
  bk : St → Mem → Prop := fun _ _ => False
  ct : St → Mem → Prop := fun _ _ => False
def RS.Sat : RS → Post → Prop
  | .nx σ M, q => q.nx σ M
  | .rt v M, q => q.rt v M
  | .bk σ M, q => q.bk σ M
  | .ct σ M, q => q.ct σ M
  | .ex _ _, _ => False
  | .bad, _ => False
theorem sat_seq {a b : SM} {σ : St} {M : Mem} {q : Post} (h : (a σ M).Sat { q with nx := fun σ' M' => (b σ' M').Sat q }) : (sSeq a b σ M).Sat q := by
  unfold sSeq
  cases e : a σ M with
  | nx σ' M' => rw [e] at h; exact h
  | rt v M' => rw [e] at h; exact h
  | bk σ' M' => rw [e] at h; exact h
  | ct σ' M' => rw [e] at h; exact h
  | ex v M' => rw [e] at h; exact h
  | bad => rw [e] at h; exact h
theorem sat_asg {e : EM} {g : GM} {σ σ1 : St} {M M1 M2 : Mem} {v : W} {q : Post} (h1 : e σ M = .ok v M1) (h2 : g v σ M1 = .ok σ1 M2) (h : q.nx σ1 M2) : (sAsg e g σ M).Sat q := by
  unfold sAsg; rw [h1]; simp only [R.bindS, h2]; exact h
theorem sat_set {e : EM} {i : Nat} {σ : St} {M M1 : Mem} {v : W} {q : Post} (h1 : e σ M = .ok v M1) (h : q.nx (σ.set i (some v)) M1) : (sAsg e (gName i) σ M).Sat q := sat_asg h1 rfl h
theorem sat_expr {e : EM} {σ : St} {M M1 : Mem} {v : W} {q : Post} (h1 : e σ M = .ok v M1) (h : q.nx σ M1) : (sExpr e σ M).Sat q := by
  unfold sExpr; rw [h1]; exact h
theorem sat_ret {e : EM} {σ : St} {M M1 : Mem} {v : W} {q : Post} (h1 : e σ M = .ok v M1) (h : q.rt v M1) : (sRet e σ M).Sat q := by
  unfold sRet; rw [h1]; exact h
theorem sat_skip {σ : St} {M : Mem} {q : Post} (h : q.nx σ M) : (sSkip σ M).Sat q := h
theorem sat_if {t : TM} {a b : SM} {σ : St} {M M1 : Mem} {c : Bool} {q : Post} (h1 : t σ M = .ok c M1) (h2 : c = true → (a σ M1).Sat q) (h3 : c = false → (b σ M1).Sat q) : (sIf t a b σ M).Sat q := by
  unfold sIf; rw [h1]; simp only [R.bindS]
  cases c with
  | true => exact h2 rfl
  | false => exact h3 rfl
theorem RS.Sat.mono {r : RS} {q q' : Post} (h : r.Sat q) (h1 : ∀ σ M, q.nx σ M → q'.nx σ M) (h2 : ∀ v M, q.rt v M → q'.rt v M) (h3 : ∀ σ M, q.bk σ M → q'.bk σ M) (h4 : ∀ σ M, q.ct σ M → q'.ct σ M) : r.Sat q' := by
  cases r with
  | nx σ M => exact h1 _ _ h
  | rt v M => exact h2 _ _ h
  | bk σ M => exact h3 _ _ h
  | ct σ M => exact h4 _ _ h
  | ex v M => exact h
  | bad => exact h
/-- a loop by what holds of it ahead of each turn -/
theorem sat_loop {c : Chk} {g : GM} {body : SM} {q : Post} (srcs : List Src) (P : Nat → St → Mem → Prop)
    (hs : ∀ (j : Nat) x σ M, srcs[j]? = some x → P j σ M → c.ok M = true ∧ ∃ v M1 σ1 M2, x.get M = .ok v M1 ∧ g v σ M1 = .ok σ1 M2 ∧ (body σ1 M2).Sat { nx := P (j + 1), ct := P (j + 1), bk := q.nx, rt := q.rt })
    (hd : ∀ σ M, P srcs.length σ M → c.ok M = true ∧ q.nx σ M) : ∀ (j : Nat) (σ : St) (M : Mem), j ≤ srcs.length → P j σ M → (loop c g body (srcs.drop j) σ M).Sat q := by
  intro j
  generalize hk : srcs.length - j = k
  induction k generalizing j with
  | zero =>
    intro σ M hj hp
    have e : j = srcs.length := by omega
    subst e
    rw [List.drop_length, loop]
    obtain ⟨h1, h2⟩ := hd σ M hp
    rw [if_pos h1]; exact h2
  | succ k ih =>
    intro σ M hj hp
    have hlt : j < srcs.length := by omega
    rw [List.drop_eq_getElem_cons hlt, loop]
    obtain ⟨h1, v, M1, σ1, M2, h2, h3, h4⟩ := hs j srcs[j] σ M (by simp [hlt]) hp
    rw [if_pos h1, h2]
    simp only [R.bindS, h3]
    cases e : body σ1 M2 with
    | nx σ' M' => rw [e] at h4; exact ih (j + 1) (by omega) σ' M' (by omega) h4
    | ct σ' M' => rw [e] at h4; exact ih (j + 1) (by omega) σ' M' (by omega) h4
    | bk σ' M' => rw [e] at h4; exact h4
    | rt v M' => rw [e] at h4; exact h4
    | ex v M' => rw [e] at h4; exact h4.elim
    | bad => rw [e] at h4; exact h4.elim
theorem sat_for {i : IM} {g : GM} {body : SM} {σ : St} {M M1 : Mem} {srcs : List Src} {c : Chk} {q : Post} (hi : i σ M = .ok (srcs, c) M1) (P : Nat → St → Mem → Prop) (h0 : P 0 σ M1)
    (hs : ∀ (j : Nat) x σ M, srcs[j]? = some x → P j σ M → c.ok M = true ∧ ∃ v M1 σ1 M2, x.get M = .ok v M1 ∧ g v σ M1 = .ok σ1 M2 ∧ (body σ1 M2).Sat { nx := P (j + 1), ct := P (j + 1), bk := q.nx, rt := q.rt })
    (hd : ∀ σ M, P srcs.length σ M → c.ok M = true ∧ q.nx σ M) : (sFor i g body σ M).Sat q := by
  unfold sFor; rw [hi]
  exact sat_loop srcs P hs hd 0 σ M1 (Nat.zero_le _) h0
/-- .. over a range, the turn's int in slot k -/
theorem sat_rng {i : IM} {k : Nat} {body : SM} {σ : St} {M M1 : Mem} {lo : Int} {n : Nat} {q : Post} (hi : i σ M = .ok (rng lo n, []) M1) (P : Nat → St → Mem → Prop) (h0 : P 0 σ M1)
    (hs : ∀ (j : Nat) σ M, j < n → P j σ M → (body (σ.set k (some (.int (lo + (j : Int))))) M).Sat { nx := P (j + 1), ct := P (j + 1), bk := q.nx, rt := q.rt })
    (hd : ∀ σ M, P n σ M → q.nx σ M) : (sFor i (gName k) body σ M).Sat q := by
  have hl : (rng lo n).length = n := by simp [rng]
  refine sat_for hi P h0 (fun j x σ M hx hp => ⟨rfl, ?_⟩) fun σ M hp => ⟨rfl, hd σ M (by rw [hl] at hp; exact hp)⟩
  have hj : j < n := by rw [← hl]; exact (List.getElem?_eq_some_iff.mp hx).1
  have e : x = .val (.int (lo + (j : Int))) := by
    unfold rng at hx
    rw [List.getElem?_map, List.getElem?_range hj] at hx
    exact (Option.some.inj hx).symm
  subst e
  exact ⟨_, M, _, M, rfl, rfl, hs j σ M hj hp⟩
/-- .. over a list that stays as it is, the turn's item in slot k -/
theorem sat_lst {e : EM} {k : Nat} {body : SM} {σ : St} {M M1 : Mem} {v : W} {xs : List W} {q : Post} (he : e σ M = .ok v M1) (hv : Lst M1 v xs) (P : Nat → St → Mem → Prop) (h0 : P 0 σ M1)
    (hl : ∀ (j : Nat) σ M, j ≤ xs.length → P j σ M → Lst M v xs)
    (hs : ∀ (j : Nat) x σ M, xs[j]? = some x → P j σ M → (body (σ.set k (some x)) M).Sat { nx := P (j + 1), ct := P (j + 1), bk := q.nx, rt := q.rt })
    (hd : ∀ σ M, P xs.length σ M → q.nx σ M) : (sFor (iSeq e) (gName k) body σ M).Sat q := by
  obtain ⟨a, rfl, ha⟩ := hv
  have hi : iSeq e σ M = .ok (xs.map .val, [(a, .lst xs)]) M1 := by unfold iSeq; rw [he]; simp only [R.bind, ha]
  have hle : (xs.map Src.val).length = xs.length := by simp
  have ck : ∀ {j : Nat} {σ : St} {M : Mem}, j ≤ xs.length → P j σ M → Chk.ok [(a, O.lst xs)] M = true := fun {j σ M} hj hp => by
    obtain ⟨b, eb, hb⟩ := hl j σ M hj hp
    cases eb
    simp [Chk.ok, hb]
  refine sat_for hi P h0 (fun j x σ M hx hp => ?_) fun σ M hp => ?_
  · have hj : j < xs.length := by rw [← hle]; exact (List.getElem?_eq_some_iff.mp hx).1
    rw [List.getElem?_map] at hx
    cases e2 : xs[j]? with
    | none => rw [e2] at hx; cases hx
    | some w =>
      rw [e2] at hx
      have ex : x = .val w := (Option.some.inj hx).symm
      subst ex
      exact ⟨ck (by omega) hp, _, M, _, M, rfl, rfl, hs j w σ M e2 hp⟩
  · rw [hle] at hp
    exact ⟨ck (Nat.le_refl _) hp, hd σ M hp⟩
theorem sat_fn {np n : Nat} {body : SM} {args : List W} {M : Mem} {Q : W → Mem → Prop} (hl : args.length = np) (h : (body (args.map some ++ List.replicate (n - np) none) M).Sat { nx := fun _ M' => Q .non M', rt := Q }) : ∃ v M', fn np n body args M = .ok v M' ∧ Q v M' := by
  unfold fn
  rw [if_pos hl]
  cases e : body (args.map some ++ List.replicate (n - np) none) M with
  | nx σ' M' => rw [e] at h; exact ⟨_, _, rfl, h⟩
  | rt v M' => rw [e] at h; exact ⟨_, _, rfl, h⟩
  | ct σ' M' => rw [e] at h; exact h.elim
  | bk σ' M' => rw [e] at h; exact h.elim
  | ex v M' => rw [e] at h; exact h.elim
  | bad => rw [e] at h; exact h.elim
/-! ### comprehensions with one name -/
inductive All2 {α β : Type} (R : α → β → Prop) : List α → List β → Prop
  | nil : All2 R [] []
  | cons {a b l m} : R a b → All2 R l m → All2 R (a :: l) (b :: m)
theorem All2.imp {α β : Type} {R S : α → β → Prop} (f : ∀ a b, R a b → S a b) : ∀ {l : List α} {m : List β}, All2 R l m → All2 S l m
  | _, _, .nil => .nil
  | _, _, .cons h t => .cons (f _ _ h) (All2.imp f t)
theorem All2.len {α β : Type} {R : α → β → Prop} : ∀ {l : List α} {m : List β}, All2 R l m → l.length = m.length
  | _, _, .nil => rfl
  | _, _, .cons _ t => by simp [All2.len t]
theorem All2.app {α β : Type} {R : α → β → Prop} : ∀ {l l2 : List α} {m m2 : List β}, All2 R l m → All2 R l2 m2 → All2 R (l ++ l2) (m ++ m2)
  | _, _, _, _, .nil, s => s
  | _, _, _, _, .cons h t, s => .cons h (All2.app t s)
theorem All2.at {α β : Type} {R : α → β → Prop} : ∀ {l : List α} {m : List β} {i : Nat} {x : α}, All2 R l m → l[i]? = some x → ∃ y, m[i]? = some y ∧ R x y
  | _, _, _, _, .nil, e => by simp at e
  | _, _, 0, _, .cons r _, e => by simp at e; subst e; exact ⟨_, rfl, r⟩
  | _, _, i + 1, x, .cons _ t, e => by
    obtain ⟨y, h1, h2⟩ := All2.at (i := i) (x := x) t (by simpa using e)
    exact ⟨y, by simpa using h1, h2⟩
theorem All2.at' {α β : Type} {R : α → β → Prop} : ∀ {l : List α} {m : List β} {i : Nat} {y : β}, All2 R l m → m[i]? = some y → ∃ x, l[i]? = some x ∧ R x y
  | _, _, _, _, .nil, e => by simp at e
  | _, _, 0, _, .cons r _, e => by simp at e; subst e; exact ⟨_, rfl, r⟩
  | _, _, i + 1, y, .cons _ t, e => by
    obtain ⟨x, h1, h2⟩ := All2.at' (i := i) (y := y) t (by simpa using e)
    exact ⟨x, by simpa using h1, h2⟩
/-- the elements may make objects, change none; p: which are taken -/
theorem comp_grow {c : Chk} {i : Nat} {t : TM} {elt : EM} {σ : St} (p : W → Bool) (P : W → W → Mem → Prop) (mono : ∀ x y M M', M <+: M' → P x y M → P x y M') : ∀ (xs : List W) (M : Mem) (σ' : St) (acc : List W), (∀ v, σ'.set i (some v) = σ.set i (some v)) →
    (∀ M', M <+: M' → c.ok M' = true) →
    (∀ x ∈ xs, ∀ M', M <+: M' → ∃ M1, t (σ.set i (some x)) M' = .ok (p x) M1 ∧ M' <+: M1 ∧ (p x = true → ∃ y M2, elt (σ.set i (some x)) M1 = .ok y M2 ∧ M1 <+: M2 ∧ P x y M2)) →
    ∃ ys M', comp c (gName i) t elt (xs.map .val) σ' M acc = .ok (acc ++ ys) M' ∧ M <+: M' ∧ All2 (fun x y => P x y M') (xs.filter p) ys
  | [], M, σ', acc, _, hc, _ => ⟨[], M, by rw [List.map_nil, comp, if_pos (hc M (pre_rfl M)), List.append_nil], pre_rfl M, .nil⟩
  | x :: r, M, σ', acc, hσ, hc, h => by
    obtain ⟨M1, ht, p1, h2⟩ := h x List.mem_cons_self M (pre_rfl M)
    have hg : gName i x σ' M = .ok (σ.set i (some x)) M := by unfold gName; rw [hσ]
    have hσ2 : ∀ v, (σ.set i (some x)).set i (some v) = σ.set i (some v) := fun v => by simp
    rw [List.map_cons, comp, if_pos (hc M (pre_rfl M))]
    simp only [Src.get, R.bind, hg, ht]
    cases hp : p x with
    | false =>
      obtain ⟨ys, M', e, q, a⟩ := comp_grow p P mono r M1 (σ.set i (some x)) acc hσ2 (fun M' q => hc M' (p1.trans q)) fun z hz M' q => h z (List.mem_cons_of_mem _ hz) M' (p1.trans q)
      simp only [Bool.false_eq_true, if_false]
      exact ⟨ys, M', e, p1.trans q, by rw [List.filter_cons, hp]; exact a⟩
    | true =>
      obtain ⟨y, M2, he, p2, py⟩ := h2 hp
      obtain ⟨ys, M', e, q, a⟩ := comp_grow p P mono r M2 (σ.set i (some x)) (acc ++ [y]) hσ2 (fun M' q => hc M' (p1.trans (p2.trans q))) fun z hz M' q => h z (List.mem_cons_of_mem _ hz) M' (p1.trans (p2.trans q))
      simp only [if_true, he]
      refine ⟨y :: ys, M', by rw [e]; simp, p1.trans (p2.trans q), ?_⟩
      rw [List.filter_cons, hp]
      exact .cons (mono _ _ _ _ q py) a
/-- .. that make no object -/
theorem comp_flat {c : Chk} {i : Nat} {t : TM} {elt : EM} {σ : St} {M : Mem} (p : W → Bool) (f : W → W) : ∀ (xs : List W) (σ' : St) (acc : List W), (∀ v, σ'.set i (some v) = σ.set i (some v)) → c.ok M = true →
    (∀ x ∈ xs, t (σ.set i (some x)) M = .ok (p x) M ∧ (p x = true → elt (σ.set i (some x)) M = .ok (f x) M)) →
    comp c (gName i) t elt (xs.map .val) σ' M acc = .ok (acc ++ (xs.filter p).map f) M
  | [], σ', acc, _, hc, _ => by rw [List.map_nil, comp, if_pos hc]; simp
  | x :: r, σ', acc, hσ, hc, h => by
    obtain ⟨ht, h2⟩ := h x List.mem_cons_self
    have hg : gName i x σ' M = .ok (σ.set i (some x)) M := by unfold gName; rw [hσ]
    have hσ2 : ∀ v, (σ.set i (some x)).set i (some v) = σ.set i (some v) := fun v => by simp
    rw [List.map_cons, comp, if_pos hc]
    simp only [Src.get, R.bind, hg, ht]
    cases hp : p x with
    | false =>
      simp only [Bool.false_eq_true, if_false]
      rw [comp_flat p f r _ acc hσ2 hc fun z hz => h z (List.mem_cons_of_mem _ hz), List.filter_cons, hp]
      simp
    | true =>
      simp only [if_true, h2 hp]
      rw [comp_flat p f r _ (acc ++ [f x]) hσ2 hc fun z hz => h z (List.mem_cons_of_mem _ hz), List.filter_cons, hp]
      simp
/-- a range as values -/
def intsW (lo : Int) (n : Nat) : List W := (List.range n).map fun (k : Nat) => .int (lo + (k : Int))
theorem rng_intsW (lo : Int) (n : Nat) : rng lo n = (intsW lo n).map .val := by simp [rng, intsW]
end VM
end
section
set_option linter.all false
namespace K2
open VM
/-- 0: row_fields(size, row); 0 size, 1 row -/
def d_row_fields : CM := fn 2 2 (
  sRet (eComp 1 [] (iRng1 (eVar 0)) (gName 2) (tTrue) (eOp oAdd (eOp oMul (eVar 1) (eVar 0)) (eVar 2))))
/-- 1: column_fields(size, column); 0 size, 1 column -/
def d_column_fields : CM := fn 2 2 (
  sRet (eComp 1 [] (iRng1 (eVar 0)) (gName 2) (tTrue) (eOp oAdd (eOp oMul (eVar 2) (eVar 0)) (eVar 1))))
/-- 2: box_fields(high, wide, box); 0 high, 1 wide, 2 box, 3 size, 4 top, 5 left, 6 fields, 7 row, 8 column -/
def d_box_fields : CM := fn 3 9 (
  sSeq (
    sAsg (eOp oMul (eVar 0) (eVar 1)) (gName 3)) (
  sSeq (
    sAsg (eOp oMul (eOp oDiv (eVar 2) (eVar 0)) (eVar 0)) (gName 4)) (
  sSeq (
    sAsg (eOp oMul (eOp oMod (eVar 2) (eVar 0)) (eVar 1)) (gName 5)) (
  sSeq (
    sAsg (eLst (aNil)) (gName 6)) (
  sSeq (
    sFor (iRng2 (eVar 4) (eOp oAdd (eVar 4) (eVar 0))) (gName 7) (
      sFor (iRng2 (eVar 5) (eOp oAdd (eVar 5) (eVar 1))) (gName 8) (
        sExpr (eMeth mAppend (eVar 6) (aCons (eOp oAdd (eOp oMul (eVar 7) (eVar 3)) (eVar 8)) aNil))))) (
  sRet (eVar 6)))))))
/-- 3: groups_of(high, wide); 0 high, 1 wide, 2 size, 3 rows, 4 columns, 5 boxes -/
def d_groups_of (c_row_fields c_column_fields c_box_fields : CM) : CM := fn 2 6 (
  sSeq (
    sAsg (eOp oMul (eVar 0) (eVar 1)) (gName 2)) (
  sSeq (
    sAsg (eComp 1 [] (iRng1 (eVar 2)) (gName 6) (tTrue) (eCall c_row_fields (aCons (eVar 2) (aCons (eVar 6) aNil)))) (gName 3)) (
  sSeq (
    sAsg (eComp 1 [] (iRng1 (eVar 2)) (gName 6) (tTrue) (eCall c_column_fields (aCons (eVar 2) (aCons (eVar 6) aNil)))) (gName 4)) (
  sSeq (
    sAsg (eComp 1 [] (iRng1 (eVar 2)) (gName 6) (tTrue) (eCall c_box_fields (aCons (eVar 0) (aCons (eVar 1) (aCons (eVar 6) aNil))))) (gName 5)) (
  sRet (eOp oAdd (eOp oAdd (eVar 3) (eVar 4)) (eVar 5)))))))
/-- 4: refuse_no_sheet(high, wide, sheet); 0 high, 1 wide, 2 sheet, 3 size, 4 number -/
def d_refuse_no_sheet : CM := fn 3 5 (
  sSeq (
    sAsg (eOp oMul (eVar 0) (eVar 1)) (gName 3)) (
  sSeq (
    sIf (tB (eOp oNe (eCall fLen (aCons (eVar 2) aNil)) (eOp oMul (eVar 3) (eVar 3)))) (
      sBad) (
      sSkip)) (
  sFor (iSeq (eVar 2)) (gName 4) (
    sIf (tOr (tB (eOp oLt (eVar 4) (eC (.int 0)))) (tB (eOp oGt (eVar 4) (eVar 3)))) (
      sBad) (
      sSkip)))))
/-- 5: keeps_numbers(sheet, filled); 0 sheet, 1 filled, 2 number, 3 other -/
def d_keeps_numbers : CM := fn 2 4 (
  sSeq (
    sFor (iZip (eVar 0) (eVar 1)) (gTup [gName 2, gName 3]) (
      sIf (tAnd (tB (eOp oNe (eVar 2) (eC (.int 0)))) (tB (eOp oNe (eVar 2) (eVar 3)))) (
        sRet (eC (.bl false))) (
        sSkip))) (
  sRet (eC (.bl true))))
/-- 6: has_twice(group, filled); 0 group, 1 filled, 2 numbers -/
def d_has_twice : CM := fn 2 3 (
  sSeq (
    sAsg (eComp 1 [] (iSeq (eVar 0)) (gName 3) (tTrue) (eOp oIx (eVar 1) (eVar 3))) (gName 2)) (
  sRet (eOp oLt (eLenSet (eVar 2)) (eCall fLen (aCons (eVar 2) aNil)))))
/-- 7: fills(high, wide, sheet, filled); 0 high, 1 wide, 2 sheet, 3 filled, 4 group -/
def d_fills (c_groups_of c_refuse_no_sheet c_keeps_numbers c_has_twice : CM) : CM := fn 4 5 (
  sSeq (
    sExpr (eCall c_refuse_no_sheet (aCons (eVar 0) (aCons (eVar 1) (aCons (eVar 2) aNil))))) (
  sSeq (
    sExpr (eCall c_refuse_no_sheet (aCons (eVar 0) (aCons (eVar 1) (aCons (eVar 3) aNil))))) (
  sSeq (
    sIf (tOr (tB (eOp oIn (eC (.int 0)) (eVar 3))) (tNot (tB (eCall c_keeps_numbers (aCons (eVar 2) (aCons (eVar 3) aNil)))))) (
      sRet (eC (.bl false))) (
      sSkip)) (
  sSeq (
    sFor (iSeq (eCall c_groups_of (aCons (eVar 0) (aCons (eVar 1) aNil)))) (gName 4) (
      sIf (tB (eCall c_has_twice (aCons (eVar 4) (aCons (eVar 3) aNil)))) (
        sRet (eC (.bl false))) (
        sSkip))) (
  sRet (eC (.bl true)))))))
/-- 8: _law_whole(_law_found); 0 _law_found -/
def d_L_whole : CM := fn 1 1 (
  sRet (eAnd (eIs [.int] (eVar 0)) (eNot (eIs [.bool] (eVar 0)))))
/-- 9: _law_at(_law_script, _law_k); 0 _law_script, 1 _law_k -/
def d_L_at : CM := fn 2 2 (
  sSeq (
    sIf (tB (eOp oEq (eVar 0) (eLst (aNil)))) (
      sRet (eC (.int 0))) (
      sSkip)) (
  sRet (eOp oAdd (eOp oIx (eVar 0) (eOp oMod (eVar 1) (eCall fLen (aCons (eVar 0) aNil)))) (eOp oMul (eC (.int 3)) (eOp oDiv (eVar 1) (eCall fLen (aCons (eVar 0) aNil)))))))
/-- 10: _law_same(_law_found, _law_due); 0 _law_found, 1 _law_due, 2 _law_left, 3 _law_right, 4 _law_one, 5 _law_two -/
def d_L_same (c_L_whole : CM) : CM := fn 2 6 (
  sSeq (
    sAsg (eLst (aCons (eVar 0) aNil)) (gName 2)) (
  sSeq (
    sAsg (eLst (aCons (eVar 1) aNil)) (gName 3)) (
  sSeq (
    sWhile 1000000 (tB (eOp oNe (eVar 3) (eLst (aNil)))) (
      sSeq (
        sAsg (eMeth mPop (eVar 2) (aNil)) (gName 4)) (
      sSeq (
        sAsg (eMeth mPop (eVar 3) (aNil)) (gName 5)) (
      sIf (tB (eIs [.list, .tuple] (eVar 5))) (
        sSeq (
          sIf (tB (eOp oNe (eIs [.list] (eVar 4)) (eIs [.list] (eVar 5)))) (
            sRet (eC (.bl false))) (
            sSkip)) (
        sSeq (
          sIf (tOr (tB (eOp oNe (eIs [.tuple] (eVar 4)) (eIs [.tuple] (eVar 5)))) (tB (eOp oNe (eCall fLen (aCons (eVar 4) aNil)) (eCall fLen (aCons (eVar 5) aNil))))) (
            sRet (eC (.bl false))) (
            sSkip)) (
        sSeq (
          sExpr (eMeth mExtend (eVar 2) (aCons (eVar 4) aNil))) (
        sExpr (eMeth mExtend (eVar 3) (aCons (eVar 5) aNil)))))) (
        sIf (tB (eIsN (eVar 5))) (
          sIf (tB (eNotN (eVar 4))) (
            sRet (eC (.bl false))) (
            sSkip)) (
          sIf (tB (eIs [.bool] (eVar 5))) (
            sIf (tOr (tNot (tB (eIs [.bool] (eVar 4)))) (tB (eOp oNe (eVar 4) (eVar 5)))) (
              sRet (eC (.bl false))) (
              sSkip)) (
            sIf (tB (eIs [.str] (eVar 5))) (
              sIf (tOr (tNot (tB (eIs [.str] (eVar 4)))) (tB (eOp oNe (eVar 4) (eVar 5)))) (
                sRet (eC (.bl false))) (
                sSkip)) (
              sIf (tOr (tNot (tB (eCall c_L_whole (aCons (eVar 4) aNil)))) (tB (eOp oNe (eVar 4) (eVar 5)))) (
                sRet (eC (.bl false))) (
                sSkip))))))))) (
  sRet (eC (.bl true))))))
/-- 11: _law_shape_of(_law_cell); 0 _law_cell -/
def d_L_shape_of : CM := fn 1 1 (
  sRet (eOp oIx (eLst (aCons (eTup (aCons (eC (.int 2)) (aCons (eC (.int 2)) aNil))) (aCons (eTup (aCons (eC (.int 2)) (aCons (eC (.int 3)) aNil))) (aCons (eTup (aCons (eC (.int 1)) (aCons (eC (.int 3)) aNil))) (aCons (eTup (aCons (eC (.int 3)) (aCons (eC (.int 1)) aNil))) (aCons (eTup (aCons (eC (.int 2)) (aCons (eC (.int 1)) aNil))) (aCons (eTup (aCons (eC (.int 3)) (aCons (eC (.int 2)) aNil))) (aCons (eTup (aCons (eC (.int 2)) (aCons (eC (.int 2)) aNil))) (aCons (eTup (aCons (eC (.int 1)) (aCons (eC (.int 1)) aNil))) aNil))))))))) (eOp oMod (eVar 0) (eC (.int 8)))))
/-- 12: _law_all_groups(_law_high, _law_wide); 0 _law_high, 1 _law_wide, 2 _law_size, 3 _law_groups, 4 _law_place, 5 _law_row, 6 _law_column, 7 _law_box, 8 _law_group -/
def d_L_all_groups : CM := fn 2 9 (
  sSeq (
    sAsg (eOp oMul (eVar 0) (eVar 1)) (gName 2)) (
  sSeq (
    sAsg (eComp 1 [] (iRng1 (eOp oMul (eC (.int 3)) (eVar 2))) (gName 9) (tTrue) (eLst (aNil))) (gName 3)) (
  sSeq (
    sFor (iRng1 (eOp oMul (eVar 2) (eVar 2))) (gName 4) (
      sSeq (
        sAsg (eOp oDiv (eVar 4) (eVar 2)) (gName 5)) (
      sSeq (
        sAsg (eOp oMod (eVar 4) (eVar 2)) (gName 6)) (
      sSeq (
        sAsg (eOp oAdd (eOp oMul (eOp oDiv (eVar 5) (eVar 0)) (eVar 0)) (eOp oDiv (eVar 6) (eVar 1))) (gName 7)) (
      sFor (iSeq (eLst (aCons (eVar 5) (aCons (eOp oAdd (eVar 2) (eVar 6)) (aCons (eOp oAdd (eOp oMul (eC (.int 2)) (eVar 2)) (eVar 7)) aNil))))) (gName 8) (
        sExpr (eMeth mAppend (eOp oIx (eVar 3) (eVar 8)) (aCons (eVar 4) aNil)))))))) (
  sRet (eVar 3)))))
/-- 13: _law_full_sheet(_law_high, _law_wide, _law_cell); 0 _law_high, 1 _law_wide, 2 _law_cell, 3 _law_size, 4 _law_turn, 5 _law_filled, 6 _law_row, 7 _law_column, 8 _law_number, 9 _law_told, 10 _law_place -/
def d_L_full_sheet : CM := fn 3 11 (
  sSeq (
    sAsg (eOp oMul (eVar 0) (eVar 1)) (gName 3)) (
  sSeq (
    sAsg (eOp oMod (eVar 2) (eVar 3)) (gName 4)) (
  sSeq (
    sAsg (eLst (aNil)) (gName 5)) (
  sSeq (
    sFor (iRng1 (eVar 3)) (gName 6) (
      sFor (iRng1 (eVar 3)) (gName 7) (
        sSeq (
          sAsg (eOp oMod (eOp oAdd (eOp oAdd (eOp oMul (eVar 1) (eOp oMod (eVar 6) (eVar 0))) (eOp oDiv (eVar 6) (eVar 0))) (eVar 7)) (eVar 3)) (gName 8)) (
        sExpr (eMeth mAppend (eVar 5) (aCons (eOp oAdd (eOp oMod (eOp oAdd (eOp oMul (eVar 8) (eOp oIx (eLst (aCons (eC (.int 1)) (aCons (eOp oSub (eVar 3) (eC (.int 1))) aNil))) (eOp oMod (eOp oDiv (eVar 2) (eC (.int 5))) (eC (.int 2))))) (eVar 4)) (eVar 3)) (eC (.int 1))) aNil)))))) (
  sSeq (
    sIf (tAnd (tB (eOp oEq (eOp oMod (eOp oDiv (eVar 2) (eC (.int 7))) (eC (.int 2))) (eC (.int 1)))) (tB (eOp oEq (eVar 0) (eVar 1)))) (
      sSeq (
        sAsg (eLst (aNil)) (gName 9)) (
      sSeq (
        sFor (iRng1 (eOp oMul (eVar 3) (eVar 3))) (gName 10) (
          sExpr (eMeth mAppend (eVar 9) (aCons (eOp oIx (eVar 5) (eOp oAdd (eOp oMul (eOp oMod (eVar 10) (eVar 3)) (eVar 3)) (eOp oDiv (eVar 10) (eVar 3)))) aNil)))) (
      sAsg (eVar 9) (gName 5)))) (
      sSkip)) (
  sRet (eVar 5)))))))
/-- 14: _law_sheet_by(_law_filled, _law_cells, _law_share); 0 _law_filled, 1 _law_cells, 2 _law_share, 3 _law_sheet, 4 _law_place, 5 _law_cell -/
def d_L_sheet_by : CM := fn 3 6 (
  sSeq (
    sAsg (eLst (aNil)) (gName 3)) (
  sSeq (
    sFor (iRng1 (eCall fLen (aCons (eVar 0) aNil))) (gName 4) (
      sSeq (
        sAsg (eC (.int 0)) (gName 5)) (
      sSeq (
        sIf (tB (eOp oLt (eVar 4) (eCall fLen (aCons (eVar 1) aNil)))) (
          sAsg (eOp oIx (eVar 1) (eVar 4)) (gName 5)) (
          sSkip)) (
      sExpr (eMeth mAppend (eVar 3) (aCons (eOp oMul (eOp oIx (eVar 0) (eVar 4)) (eCall fInt (aCons (eOp oGe (eOp oMod (eOp oAdd (eVar 5) (eVar 4)) (eC (.int 7))) (eVar 2)) aNil))) aNil)))))) (
  sRet (eVar 3))))
/-- 15: _law_no_twice(_law_groups, _law_sheet, _law_size); 0 _law_groups, 1 _law_sheet, 2 _law_size, 3 _law_group, 4 _law_row, 5 _law_number -/
def d_L_no_twice : CM := fn 3 6 (
  sSeq (
    sFor (iSeq (eVar 0)) (gName 3) (
      sSeq (
        sAsg (eComp 1 [] (iSeq (eVar 3)) (gName 6) (tTrue) (eOp oIx (eVar 1) (eVar 6))) (gName 4)) (
      sFor (iRng2 (eC (.int 1)) (eOp oAdd (eVar 2) (eC (.int 1)))) (gName 5) (
        sIf (tB (eOp oGt (eMeth mCount (eVar 4) (aCons (eVar 5) aNil)) (eC (.int 1)))) (
          sRet (eC (.bl false))) (
          sSkip))))) (
  sRet (eC (.bl true))))
/-- 16: _law_is_filled_by(_law_groups, _law_sheet, _law_filled, _law_size); 0 _law_groups, 1 _law_sheet, 2 _law_filled, 3 _law_size, 4 _law_place -/
def d_L_is_filled_by (c_L_no_twice : CM) : CM := fn 4 5 (
  sSeq (
    sFor (iRng1 (eCall fLen (aCons (eVar 1) aNil))) (gName 4) (
      sIf (tOr (tB (eOp oEq (eOp oIx (eVar 2) (eVar 4)) (eC (.int 0)))) (tB (eOp oNotIn (eOp oIx (eVar 1) (eVar 4)) (eLst (aCons (eC (.int 0)) (aCons (eOp oIx (eVar 2) (eVar 4)) aNil)))))) (
        sRet (eC (.bl false))) (
        sSkip))) (
  sRet (eCall c_L_no_twice (aCons (eVar 0) (aCons (eVar 2) (aCons (eVar 3) aNil))))))
/-- 17: _law_shape_for(_law_script); 0 _law_script -/
def d_L_shape_for (c_L_at c_L_shape_of : CM) : CM := fn 1 1 (
  sSeq (
    sIf (tB (eOp oGt (eCall fLen (aCons (eVar 0) aNil)) (eC (.int 63)))) (
      sRet (eOp oIx (eLst (aCons (eTup (aCons (eC (.int 2)) (aCons (eC (.int 3)) aNil))) (aCons (eTup (aCons (eC (.int 3)) (aCons (eC (.int 2)) aNil))) (aCons (eTup (aCons (eC (.int 3)) (aCons (eC (.int 3)) aNil))) (aCons (eTup (aCons (eC (.int 2)) (aCons (eC (.int 2)) aNil))) aNil))))) (eOp oMod (eCall c_L_at (aCons (eVar 0) (aCons (eC (.int 0)) aNil))) (eC (.int 4))))) (
      sSkip)) (
  sSeq (
    sIf (tB (eOp oEq (eOp oMod (eCall fSum (aCons (eSl (eVar 0) pNone (pSome (eC (.int 1)))) aNil)) (eC (.int 32))) (eC (.int 9)))) (
      sRet (eTup (aCons (eC (.int 3)) (aCons (eC (.int 3)) aNil)))) (
      sSkip)) (
  sRet (eCall c_L_shape_of (aCons (eCall c_L_at (aCons (eVar 0) (aCons (eC (.int 0)) aNil))) aNil)))))
/-- 18: law(_law_script); 0 _law_script, 1 _law_high, 2 _law_wide, 3 _law_size, 4 _law_groups, 5 _law_filled, 6 _law_share, 7 _law_sheet, 8 _law_told, 9 _law_cell, 10 _law_way, 11 _law_spot, 12 _law_other, 13 _law_bare, 14 _law_ones, 15 _law_others, 16 _law_found, 17 _law_due -/
def d_law (c_fills c_L_at c_L_same c_L_all_groups c_L_full_sheet c_L_sheet_by c_L_is_filled_by c_L_shape_for : CM) : CM := fn 1 18 (
  sSeq (
    sAsg (eCall c_L_shape_for (aCons (eVar 0) aNil)) (gTup [gName 1, gName 2])) (
  sSeq (
    sAsg (eOp oMul (eVar 1) (eVar 2)) (gName 3)) (
  sSeq (
    sAsg (eCall c_L_all_groups (aCons (eVar 1) (aCons (eVar 2) aNil))) (gName 4)) (
  sSeq (
    sAsg (eCall c_L_full_sheet (aCons (eVar 1) (aCons (eVar 2) (aCons (eCall c_L_at (aCons (eVar 0) (aCons (eC (.int 1)) aNil))) aNil)))) (gName 5)) (
  sSeq (
    sAsg (eOp oMod (eCall c_L_at (aCons (eVar 0) (aCons (eC (.int 2)) aNil))) (eOp oIx (eLst (aCons (eC (.int 7)) (aCons (eC (.int 4)) (aCons (eC (.int 3)) aNil)))) (eOp oAdd (eCall fInt (aCons (eOp oGt (eVar 3) (eC (.int 3))) aNil)) (eCall fInt (aCons (eOp oGt (eVar 3) (eC (.int 4))) aNil))))) (gName 6)) (
  sSeq (
    sAsg (eCall c_L_sheet_by (aCons (eVar 5) (aCons (eSl (eVar 0) (pSome (eC (.int 3))) (pSome (eC (.int 19)))) (aCons (eVar 6) aNil)))) (gName 7)) (
  sSeq (
    sAsg (eCall fList (aCons (eVar 5) aNil)) (gName 8)) (
  sSeq (
    sAsg (eCall c_L_at (aCons (eVar 0) (aCons (eC (.int 19)) aNil))) (gName 9)) (
  sSeq (
    sAsg (eOp oMod (eVar 9) (eC (.int 8))) (gName 10)) (
  sSeq (
    sAsg (eOp oMod (eOp oDiv (eVar 9) (eC (.int 8))) (eCall fLen (aCons (eVar 8) aNil))) (gName 11)) (
  sSeq (
    sAsg (eOp oIx (eLst (aCons (eOp oMod (eCall c_L_at (aCons (eVar 0) (aCons (eC (.int 20)) aNil))) (eCall fLen (aCons (eVar 8) aNil))) (aCons (eOp oMul (eOp oDiv (eVar 11) (eVar 3)) (eVar 3)) aNil))) (eCall fInt (aCons (eOp oEq (eVar 10) (eC (.int 4))) aNil))) (gName 12)) (
  sSeq (
    sAsg (eOp oAdd (eComp 1 [] (iRng1 (eCall fLen (aCons (eVar 7) aNil))) (gName 18) (tB (eOp oEq (eOp oIx (eVar 7) (eVar 18)) (eC (.int 0)))) (eVar 18)) (eLst (aCons (eVar 11) aNil))) (gName 13)) (
  sSeq (
    sIf (tB (eOp oEq (eVar 10) (eC (.int 1)))) (
      sAsg (eOp oAdd (eOp oMod (eOp oIx (eVar 8) (eVar 11)) (eVar 3)) (eC (.int 1))) (gSub (eVar 8) (eVar 11))) (
      sSkip)) (
  sSeq (
    sIf (tB (eOp oEq (eVar 10) (eC (.int 2)))) (
      sAsg (eC (.int 0)) (gSub (eVar 8) (eOp oIx (eVar 13) (eC (.int 0))))) (
      sSkip)) (
  sSeq (
    sIf (tB (eOp oEq (eVar 10) (eC (.int 3)))) (
      sAsg (eOp oIx (eVar 8) (eVar 12)) (gSub (eVar 8) (eVar 11))) (
      sSkip)) (
  sSeq (
    sIf (tB (eOp oEq (eVar 10) (eC (.int 5)))) (
      sAsg (eOp oMod (eVar 11) (eVar 3)) (gName 12)) (
      sSkip)) (
  sSeq (
    sIf (tB (eOp oEq (eVar 10) (eC (.int 6)))) (
      sAsg (eComp 1 [] (iSeq (eVar 5)) (gName 18) (tTrue) (eOp oAdd (eOp oMod (eVar 18) (eVar 3)) (eC (.int 1)))) (gName 8)) (
      sSkip)) (
  sSeq (
    sIf (tOr (tB (eOp oEq (eVar 10) (eC (.int 4)))) (tOr (tB (eOp oEq (eVar 10) (eC (.int 5)))) (tB (eOp oEq (eVar 10) (eC (.int 7)))))) (
      sSeq (
        sAsg (eOp oIx (eVar 5) (eVar 12)) (gSub (eVar 8) (eVar 11))) (
      sAsg (eOp oIx (eVar 5) (eVar 11)) (gSub (eVar 8) (eVar 12)))) (
      sSkip)) (
  sSeq (
    sAsg (eCall fList (aCons (eVar 7) aNil)) (gName 14)) (
  sSeq (
    sAsg (eCall fList (aCons (eVar 8) aNil)) (gName 15)) (
  sSeq (
    sAsg (eCall c_fills (aCons (eVar 1) (aCons (eVar 2) (aCons (eVar 14) (aCons (eVar 15) aNil))))) (gName 16)) (
  sSeq (
    sIf (tNot (tB (eCall c_L_same (aCons (eLst (aCons (eVar 14) (aCons (eVar 15) aNil))) (aCons (eLst (aCons (eVar 7) (aCons (eVar 8) aNil))) aNil))))) (
      sRet (eC (.bl false))) (
      sSkip)) (
  sSeq (
    sAsg (eCall c_L_is_filled_by (aCons (eVar 4) (aCons (eVar 7) (aCons (eVar 8) (aCons (eVar 3) aNil))))) (gName 17)) (
  sRet (eAnd (eIs [.bool] (eVar 16)) (eOp oEq (eVar 16) (eVar 17)))))))))))))))))))))))))))
def tab (c : CE) : CE
  | 0 => d_row_fields
  | 1 => d_column_fields
  | 2 => d_box_fields
  | 3 => d_groups_of (c 0) (c 1) (c 2)
  | 4 => d_refuse_no_sheet
  | 5 => d_keeps_numbers
  | 6 => d_has_twice
  | 7 => d_fills (c 3) (c 4) (c 5) (c 6)
  | 8 => d_L_whole
  | 9 => d_L_at
  | 10 => d_L_same (c 8)
  | 11 => d_L_shape_of
  | 12 => d_L_all_groups
  | 13 => d_L_full_sheet
  | 14 => d_L_sheet_by
  | 15 => d_L_no_twice
  | 16 => d_L_is_filled_by (c 15)
  | 17 => d_L_shape_for (c 9) (c 11)
  | 18 => d_law (c 7) (c 9) (c 10) (c 12) (c 13) (c 14) (c 16) (c 17)
  | _ => fun _ _ => .bad
end K2
end
section
set_option linter.all false
set_option autoImplicit false
set_option maxRecDepth 100000
namespace K2
open VM
local macro_rules | `(tactic| walk_at "ev") => `(tactic| simp only [tB, tAnd, tOr, tNot, tTrue, eOp, eVar, eC, eLst, eTup, aNil, aCons, eCall, eAnd, eOr, eNot, eIf, eIsN, eNotN, eMeth, R.bind, oAdd, oSub, gName, gSub, gTup, gEach, iRng1, iRng2, List.length_cons, List.length_nil, List.map_cons, List.map_nil, List.cons_append, List.nil_append, List.append_nil, List.getElem?_cons_zero, List.getElem?_cons_succ, List.set_cons_zero, List.set_cons_succ, if_true, if_false, Bool.false_eq_true, Nat.reduceAdd, Nat.reduceSub, List.replicate_succ, List.replicate_zero, Nat.zero_add, Nat.add_zero, clr, List.foldl_nil, List.foldl_cons, List.append_assoc])
/-- a small int may be a factor -/
theorem mul_ok {i j : Int} {M : Mem} (h : i.natAbs ≤ 1000000) : oMul (.int i) (.int j) M = .ok (.int (i * j)) M := if_pos (.inl (by unfold two64; omega))
theorem div_ok {i j : Int} {M : Mem} (h : 0 < j) (h2 : j < 1000000) : oDiv (.int i) (.int j) M = .ok (.int (i / j)) M := if_pos ⟨h, by omega⟩
theorem mod_ok {i j : Int} {M : Mem} (h : 0 < j) : oMod (.int i) (.int j) M = .ok (.int (i % j)) M := if_pos h
theorem rng_ok {j : Int} (h : 0 ≤ j) (h2 : j < 1000000) : j.natAbs < two62 := by unfold two62; omega
def IntL (M : Mem) (v : W) (ns : List Int) : Prop := Lst M v (ns.map .int)
def LL (M : Mem) (v : W) (nss : List (List Int)) : Prop := ∃ ws, Lst M v ws ∧ All2 (fun w ns => IntL M w ns) ws nss
theorem LL.mono {M M' : Mem} {v : W} {nss : List (List Int)} (h : LL M v nss) (p : M <+: M') : LL M' v nss := by
  obtain ⟨ws, h1, h2⟩ := h
  exact ⟨ws, h1.mono p, h2.imp fun _ _ q => Lst.mono q p⟩
/-! ### the groups, as the program makes them -/
def rowF (s r : Nat) : List Int := (List.range s).map fun (c : Nat) => (r : Int) * s + (c : Int)
def colF (s c : Nat) : List Int := (List.range s).map fun (r : Nat) => (r : Int) * s + (c : Int)
def boxF (h w b : Nat) : List Int := (List.range h).flatMap fun r => (List.range w).map fun c => ((b / h * h + r : Nat) : Int) * (h * w : Nat) + (b % h * w + c : Nat)
def grps (h w : Nat) : List (List Int) := (List.range (h * w)).map (rowF (h * w)) ++ (List.range (h * w)).map (colF (h * w)) ++ (List.range (h * w)).map (boxF h w)
theorem filter_tt {α : Type} (l : List α) : l.filter (fun _ => true) = l := by
  induction l with
  | nil => rfl
  | cons a r ih => simp [ih]
theorem row_ok (s r : Nat) (hs : s ≤ 9) (hr : r ≤ 9) (M : Mem) : ∃ v M', d_row_fields [.int s, .int r] M = .ok v M' ∧ M <+: M' ∧ IntL M' v (rowF s r) := by
  refine sat_fn rfl ?_
  have hr1 : (s : Int).natAbs < two62 := rng_ok (by omega) (by omega)
  have e : eComp 1 [] (iRng1 (eVar 0)) (gName 2) tTrue (eOp oAdd (eOp oMul (eVar 1) (eVar 0)) (eVar 2)) [some (.int s), some (.int r)] M = newL ((rowF s r).map .int) M := by
    unfold eComp
    walk_at "ev"
    rw [if_pos hr1]
    simp only [Int.toNat_natCast, rng_intsW]
    rw [comp_flat (σ := [some (.int s), some (.int r), none]) (fun _ => true) (fun x => match x with | .int i => .int ((r : Int) * s + i) | _ => .non) _ _ _ (fun _ => rfl) rfl ?_]
    · simp only [filter_tt, List.nil_append, intsW, rowF, List.map_map]
      congr 1
      apply List.map_congr_left
      intro a _
      simp
    · intro x hx
      obtain ⟨k, _, rfl⟩ := List.mem_map.mp hx
      refine ⟨rfl, fun _ => ?_⟩
      have hm := mul_ok (M := M) (i := (r : Int)) (j := (s : Int)) (by omega)
      walk_at "ev"
      simp only [hm]
  have hl : ((rowF s r).map W.int).length ≤ 16777216 := by simp [rowF]; omega
  rw [newL_ok hl] at e
  refine sat_ret e ?_
  exact ⟨pre_app _ _, Lst.new _ _⟩

theorem col_ok (s c : Nat) (hs : s ≤ 9) (hc : c ≤ 9) (M : Mem) : ∃ v M', d_column_fields [.int s, .int c] M = .ok v M' ∧ M <+: M' ∧ IntL M' v (colF s c) := by
  refine sat_fn rfl ?_
  have hr1 : (s : Int).natAbs < two62 := rng_ok (by omega) (by omega)
  have e : eComp 1 [] (iRng1 (eVar 0)) (gName 2) tTrue (eOp oAdd (eOp oMul (eVar 2) (eVar 0)) (eVar 1)) [some (.int s), some (.int c)] M = newL ((colF s c).map .int) M := by
    unfold eComp
    walk_at "ev"
    rw [if_pos hr1]
    simp only [Int.toNat_natCast, rng_intsW]
    rw [comp_flat (σ := [some (.int s), some (.int c), none]) (fun _ => true) (fun x => match x with | .int i => .int (i * s + c) | _ => .non) _ _ _ (fun _ => rfl) rfl ?_]
    · simp only [filter_tt, List.nil_append, intsW, colF, List.map_map]
      congr 1
      apply List.map_congr_left
      intro a _
      simp
    · intro x hx
      obtain ⟨k, hk, rfl⟩ := List.mem_map.mp hx
      rw [List.mem_range] at hk
      refine ⟨rfl, fun _ => ?_⟩
      have hm := mul_ok (M := M) (i := (0 + (k : Int))) (j := (s : Int)) (by omega)
      walk_at "ev"
      simp only [hm]
  have hl : ((colF s c).map W.int).length ≤ 16777216 := by simp [colF]; omega
  rw [newL_ok hl] at e
  refine sat_ret e ?_
  exact ⟨pre_app _ _, Lst.new _ _⟩

end K2
end
section
set_option linter.all false
set_option autoImplicit false
set_option maxRecDepth 100000
namespace K2
open VM
local macro_rules | `(tactic| walk_at "ev") => `(tactic| simp only [tB, tAnd, tOr, tNot, tTrue, eOp, eVar, eC, eLst, eTup, aNil, aCons, eCall, eAnd, eOr, eNot, eIf, eIsN, eNotN, eMeth, R.bind, oAdd, oSub, gName, gSub, gTup, gEach, iRng1, iRng2, List.length_cons, List.length_nil, List.map_cons, List.map_nil, List.cons_append, List.nil_append, List.append_nil, List.getElem?_cons_zero, List.getElem?_cons_succ, List.set_cons_zero, List.set_cons_succ, if_true, if_false, Bool.false_eq_true, Nat.reduceAdd, Nat.reduceSub, List.replicate_succ, List.replicate_zero, Nat.zero_add, Nat.add_zero, clr, List.foldl_nil, List.foldl_cons, List.append_assoc])
theorem append_ok {M : Mem} {a : Nat} {xs : List W} {y : W} (h : M[a]? = some (.lst xs)) (hl : xs.length < 16777216) : mAppend (.ref a) [y] M = .ok .non (M.set a (.lst (xs ++ [y]))) := by
  unfold mAppend
  rw [mutOf_at h]
  exact if_pos hl
theorem range_flat_succ {α : Type} (n : Nat) (f : Nat → List α) : (List.range (n + 1)).flatMap f = (List.range n).flatMap f ++ f n := by
  rw [List.range_succ, List.flatMap_append]; simp
theorem range_map_succ {α : Type} (n : Nat) (f : Nat → α) : (List.range (n + 1)).map f = (List.range n).map f ++ [f n] := by
  rw [List.range_succ, List.map_append]; rfl
def boxRow (h w b r n : Nat) : List Int := (List.range n).map fun c => ((b / h * h + r : Nat) : Int) * (h * w : Nat) + (b % h * w + c : Nat)
def boxPart (h w b n : Nat) : List Int := (List.range n).flatMap fun r => boxRow h w b r w
theorem boxF_eq (h w b : Nat) : boxF h w b = boxPart h w b h := rfl
theorem boxPart_len (h w b n : Nat) : (boxPart h w b n).length = n * w := by
  induction n with
  | zero => simp [boxPart]
  | succ n ih =>
    have e : boxPart h w b (n + 1) = boxPart h w b n ++ boxRow h w b n w := range_flat_succ n _
    rw [e, List.length_append, ih]
    simp [boxRow, Nat.succ_mul]
theorem box_ok (h w b : Nat) (hh : 1 ≤ h ∧ h ≤ 3) (hw : 1 ≤ w ∧ w ≤ 3) (hb : b < 9) (M : Mem) : ∃ v M', d_box_fields [.int h, .int w, .int b] M = .ok v M' ∧ M <+: M' ∧ IntL M' v (boxF h w b) := by
  refine sat_fn rfl ?_
  have hbh : b / h ≤ 9 := Nat.le_trans (Nat.div_le_self b h) (by omega)
  have hbm : b % h < 3 := Nat.lt_of_lt_of_le (Nat.mod_lt b (by omega)) hh.2
  have m1 := mul_ok (M := M) (i := (h : Int)) (j := (w : Int)) (by omega)
  have d1 := div_ok (M := M) (i := (b : Int)) (j := (h : Int)) (by omega) (by omega)
  have e1 : ((b : Int) / (h : Int)) = ((b / h : Nat) : Int) := rfl
  have m2 := mul_ok (M := M) (i := ((b / h : Nat) : Int)) (j := (h : Int)) (by rw [Int.natAbs_natCast]; exact Nat.le_trans hbh (by decide))
  have d2 := mod_ok (M := M) (i := (b : Int)) (j := (h : Int)) (by omega)
  have e2 : ((b : Int) % (h : Int)) = ((b % h : Nat) : Int) := rfl
  have m3 := mul_ok (M := M) (i := ((b % h : Nat) : Int)) (j := (w : Int)) (by rw [Int.natAbs_natCast]; exact Nat.le_trans (Nat.le_of_lt hbm) (by decide))
  show (sSeq _ _ [some (.int h), some (.int w), some (.int b), none, none, none, none, none, none] M).Sat _
  refine sat_seq (sat_set (v := .int ((h : Int) * w)) (M1 := M) (by walk_at "ev"; simp only [m1]) ?_)
  refine sat_seq (sat_set (v := .int (((b / h : Nat) : Int) * h)) (M1 := M) (by walk_at "ev"; simp only [d1, e1, m2]) ?_)
  refine sat_seq (sat_set (v := .int (((b % h : Nat) : Int) * w)) (M1 := M) (by walk_at "ev"; simp only [d2, e2, m3]) ?_)
  refine sat_seq (sat_set (v := .ref M.length) (M1 := M ++ [.lst []]) (by walk_at "ev"; exact newL_ok (by simp)) ?_)
  refine sat_seq ?_
  have ht : (b / h * h : Nat) ≤ 9 := Nat.le_trans (Nat.div_mul_le_self b h) (by omega)
  have hl : (b % h * w : Nat) ≤ 9 := by have := Nat.mul_le_mul (Nat.le_of_lt hbm) hw.2; omega
  have et : ((b / h : Nat) : Int) * (h : Int) = ((b / h * h : Nat) : Int) := by simp
  have el : ((b % h : Nat) : Int) * (w : Int) = ((b % h * w : Nat) : Int) := by simp
  have es : (h : Int) * (w : Int) = ((h * w : Nat) : Int) := by simp
  have hs9 : h * w ≤ 9 := Nat.le_trans (Nat.mul_le_mul hh.2 hw.2) (by decide)
  simp only [List.set_cons_zero, List.set_cons_succ, et, el, es]
  have r1 : ((b / h * h : Nat) : Int).natAbs < two62 ∧ (((b / h * h : Nat) : Int) + (h : Int)).natAbs < two62 := ⟨rng_ok (by omega) (by omega), rng_ok (by omega) (by omega)⟩
  have r2 : ((b % h * w : Nat) : Int).natAbs < two62 ∧ (((b % h * w : Nat) : Int) + (w : Int)).natAbs < two62 := ⟨rng_ok (by omega) (by omega), rng_ok (by omega) (by omega)⟩
  have n1 : (((b / h * h : Nat) : Int) + (h : Int) - ((b / h * h : Nat) : Int)).toNat = h := by omega
  have n2 : (((b % h * w : Nat) : Int) + (w : Int) - ((b % h * w : Nat) : Int)).toNat = w := by omega
  refine sat_rng (lo := ((b / h * h : Nat) : Int)) (n := h) (M1 := M ++ [.lst []]) (by walk_at "ev"; rw [if_pos r1, n1])
    (fun j σ M' => ∃ x y, σ = [some (.int h), some (.int w), some (.int b), some (.int (h * w : Nat)), some (.int (b / h * h : Nat)), some (.int (b % h * w : Nat)), some (.ref M.length), x, y] ∧ M' = M ++ [.lst ((boxPart h w b j).map .int)]) ⟨none, none, rfl, rfl⟩ ?_ ?_
  · rintro j σ M' hj ⟨x, y, rfl, rfl⟩
    simp only [List.set_cons_zero, List.set_cons_succ]
    refine sat_rng (lo := ((b % h * w : Nat) : Int)) (n := w) (M1 := M ++ [.lst ((boxPart h w b j).map .int)]) (by walk_at "ev"; rw [if_pos r2, n2])
      (fun c σ M' => ∃ y, σ = [some (.int h), some (.int w), some (.int b), some (.int (h * w : Nat)), some (.int (b / h * h : Nat)), some (.int (b % h * w : Nat)), some (.ref M.length), some (.int (((b / h * h : Nat) : Int) + (j : Int))), y] ∧ M' = M ++ [.lst ((boxPart h w b j ++ boxRow h w b j c).map .int)]) ⟨y, rfl, by simp [boxRow]⟩ ?_ ?_
    · rintro c σ M' hc ⟨y, rfl, rfl⟩
      simp only [List.set_cons_zero, List.set_cons_succ]
      have g := get_last M (.lst ((boxPart h w b j ++ boxRow h w b j c).map .int))
      have lo := lstOf_at g
      have hlen : ((boxPart h w b j ++ boxRow h w b j c).map W.int).length < 16777216 := by
        rw [List.length_map, List.length_append, boxPart_len]
        have : j * w ≤ 3 * 3 := Nat.mul_le_mul (by omega) hw.2
        simp [boxRow]; omega
      have m4 := mul_ok (M := M ++ [.lst ((boxPart h w b j ++ boxRow h w b j c).map .int)]) (i := (((b / h * h : Nat) : Int) + (j : Int))) (j := ((h * w : Nat) : Int)) (by omega)
      refine sat_expr (v := .non) (M1 := M ++ [.lst ((boxPart h w b j ++ boxRow h w b j (c + 1)).map .int)]) ?_ ⟨_, rfl, rfl⟩
      walk_at "ev"
      simp only [lo, m4]
      rw [append_ok g hlen, set_last]
      have e3 : boxRow h w b j (c + 1) = boxRow h w b j c ++ [((b / h * h + j : Nat) : Int) * (h * w : Nat) + (b % h * w + c : Nat)] := range_map_succ c _
      rw [e3]
      simp
    · rintro σ M' ⟨y, rfl, rfl⟩
      exact ⟨_, _, rfl, by rw [show boxPart h w b (j + 1) = boxPart h w b j ++ boxRow h w b j w from range_flat_succ j _]⟩
  · rintro σ M' ⟨x, y, rfl, rfl⟩
    dsimp only
    refine sat_ret (v := .ref M.length) (M1 := M ++ [.lst ((boxPart h w b h).map .int)]) rfl ?_
    exact ⟨pre_app _ _, Lst.new _ _⟩
end K2
end
section
set_option linter.all false
set_option autoImplicit false
set_option maxRecDepth 100000
namespace K2
open VM
local macro_rules | `(tactic| walk_at "ev") => `(tactic| simp only [tB, tAnd, tOr, tNot, tTrue, eOp, eVar, eC, eLst, eTup, aNil, aCons, eCall, eAnd, eOr, eNot, eIf, eIsN, eNotN, eMeth, R.bind, oAdd, oSub, gName, gSub, gTup, gEach, iRng1, iRng2, List.length_cons, List.length_nil, List.map_cons, List.map_nil, List.cons_append, List.nil_append, List.append_nil, List.getElem?_cons_zero, List.getElem?_cons_succ, List.set_cons_zero, List.set_cons_succ, if_true, if_false, Bool.false_eq_true, Nat.reduceAdd, Nat.reduceSub, List.replicate_succ, List.replicate_zero, Nat.zero_add, Nat.add_zero, clr, List.foldl_nil, List.foldl_cons, List.append_assoc])
/-- [f(..) for k in range(s)], f a def that makes a list of intsW -/
theorem lists_ok {elt : EM} {σ : St} {M : Mem} {s : Nat} (k : Nat) (f : Nat → List Int) (e : EM) (he : e σ M = .ok (.int s) M) (hs : s ≤ 9)
    (h : ∀ j, j < s → ∀ M', M <+: M' → ∃ v M'', elt ((σ ++ [none]).set k (some (.int j))) M' = .ok v M'' ∧ M' <+: M'' ∧ IntL M'' v (f j)) :
    ∃ v M', eComp 1 [] (iRng1 e) (gName k) tTrue elt σ M = .ok v M' ∧ M <+: M' ∧ LL M' v ((List.range s).map f) := by
  have hr1 : (s : Int).natAbs < two62 := rng_ok (by omega) (by omega)
  have hi : iRng1 e σ M = .ok (rng 0 s, []) M := by
    unfold iRng1; rw [he]; simp only [R.bind]; rw [if_pos hr1, Int.toNat_natCast]
  obtain ⟨ys, M', hc, pre, all⟩ := comp_grow (c := []) (i := k) (t := tTrue) (elt := elt) (σ := σ ++ [none]) (fun _ => true) (fun x y M => ∃ j : Nat, x = .int j ∧ IntL M y (f j)) (fun x y M M' p ⟨j, e, q⟩ => ⟨j, e, Lst.mono q p⟩)
    (intsW 0 s) M (σ ++ [none]) [] (fun _ => rfl) (fun _ _ => rfl) (fun x hx M' p => by
      obtain ⟨j, hj, rfl⟩ := List.mem_map.mp hx
      rw [List.mem_range] at hj
      refine ⟨M', rfl, pre_rfl _, fun _ => ?_⟩
      have ez : (0 : Int) + (j : Int) = (j : Int) := by omega
      obtain ⟨v, M'', h1, h2, h3⟩ := h j hj M' p
      rw [ez]
      exact ⟨v, M'', h1, h2, j, rfl, h3⟩)
  have len : ys.length = s := by
    have := all.len
    rw [filter_tt] at this
    simp [intsW] at this
    omega
  refine ⟨.ref M'.length, M' ++ [.lst ys], ?_, pre.trans (pre_app _ _), ys, Lst.new _ _, ?_⟩
  · unfold eComp
    rw [hi]
    simp only [R.bind, clr, List.foldl_nil, List.replicate_succ, List.replicate_zero, rng_intsW]
    rw [hc]
    simp only [R.bind, List.nil_append]
    exact newL_ok (by omega)
  · rw [filter_tt] at all
    have g : ∀ (js : List Nat) (ys : List W) (N : Mem), M' <+: N → All2 (fun x y => ∃ j : Nat, x = W.int j ∧ IntL M' y (f j)) (js.map fun (j : Nat) => W.int (0 + (j : Int))) ys → All2 (fun w ns => IntL N w ns) ys (js.map f) := by
      intro js
      induction js with
      | nil => intro ys N p a; cases a; exact .nil
      | cons j r ih =>
        intro ys N p a
        cases a with
        | cons h t =>
          obtain ⟨j', e, q⟩ := h
          have ej : j = j' := by injection e with e; omega
          subst ej
          exact .cons (Lst.mono q p) (ih _ N p t)
    exact g _ _ _ (pre_app _ _) all
theorem All2.app2 {α β : Type} {R : α → β → Prop} {l l2 : List α} {m m2 : List β} (h : All2 R l m) (h2 : All2 R l2 m2) : All2 R (l ++ l2) (m ++ m2) := All2.app h h2
/-- a list of lists, put together -/
theorem cat_ok {M : Mem} {v u : W} {xs ys : List (List Int)} (h1 : LL M v xs) (h2 : LL M u ys) (hl : xs.length + ys.length ≤ 1000) : ∃ w M', oAdd v u M = .ok w M' ∧ M <+: M' ∧ LL M' w (xs ++ ys) := by
  obtain ⟨ws, ⟨a, rfl, ha⟩, r1⟩ := h1
  obtain ⟨us, ⟨b, rfl, hb⟩, r2⟩ := h2
  have l1 := r1.len
  have l2 := r2.len
  refine ⟨.ref M.length, M ++ [.lst (ws ++ us)], ?_, pre_app _ _, ws ++ us, Lst.new _ _, ?_⟩
  · simp only [oAdd, mutOf_at ha, mutOf_at hb]
    exact newL_ok (by rw [List.length_append]; omega)
  · exact All2.app (r1.imp fun _ _ q => Lst.mono q (pre_app _ _)) (r2.imp fun _ _ q => Lst.mono q (pre_app _ _))
def GroupsSpec (f : CM) : Prop := ∀ (h w : Nat) (M : Mem), 1 ≤ h ∧ h ≤ 3 → 1 ≤ w ∧ w ≤ 3 → ∃ v M', f [.int h, .int w] M = .ok v M' ∧ M <+: M' ∧ LL M' v (grps h w)
theorem groups_ok : GroupsSpec (d_groups_of d_row_fields d_column_fields d_box_fields) := by
  intro h w M hh hw
  refine sat_fn rfl ?_
  have hs9 : h * w ≤ 9 := Nat.le_trans (Nat.mul_le_mul hh.2 hw.2) (by decide)
  have m1 := mul_ok (M := M) (i := (h : Int)) (j := (w : Int)) (by omega)
  have es : (h : Int) * (w : Int) = ((h * w : Nat) : Int) := by simp
  show (sSeq _ _ [some (.int h), some (.int w), none, none, none, none] M).Sat _
  refine sat_seq (sat_set (v := .int ((h : Int) * w)) (M1 := M) (by walk_at "ev"; simp only [m1]) ?_)
  simp only [List.set_cons_zero, List.set_cons_succ, es]
  obtain ⟨v1, M1, e1, p1, L1⟩ := lists_ok (σ := [some (.int h), some (.int w), some (.int (h * w : Nat)), none, none, none]) (M := M) (elt := eCall d_row_fields (aCons (eVar 2) (aCons (eVar 6) aNil))) 6 (rowF (h * w)) (eVar 2) rfl hs9 (fun j hj M' p => by
    obtain ⟨v, M'', a, b, c⟩ := row_ok (h * w) j hs9 (by omega) M'
    exact ⟨v, M'', by walk_at "ev"; exact a, b, c⟩)
  refine sat_seq (sat_set e1 ?_)
  simp only [List.set_cons_zero, List.set_cons_succ]
  obtain ⟨v2, M2, e2, p2, L2⟩ := lists_ok (σ := [some (.int h), some (.int w), some (.int (h * w : Nat)), some v1, none, none]) (M := M1) (elt := eCall d_column_fields (aCons (eVar 2) (aCons (eVar 6) aNil))) 6 (colF (h * w)) (eVar 2) rfl hs9 (fun j hj M' p => by
    obtain ⟨v, M'', a, b, c⟩ := col_ok (h * w) j hs9 (by omega) M'
    exact ⟨v, M'', by walk_at "ev"; exact a, b, c⟩)
  refine sat_seq (sat_set e2 ?_)
  simp only [List.set_cons_zero, List.set_cons_succ]
  obtain ⟨v3, M3, e3, p3, L3⟩ := lists_ok (σ := [some (.int h), some (.int w), some (.int (h * w : Nat)), some v1, some v2, none]) (M := M2) (elt := eCall d_box_fields (aCons (eVar 0) (aCons (eVar 1) (aCons (eVar 6) aNil)))) 6 (boxF h w) (eVar 2) rfl hs9 (fun j hj M' p => by
    obtain ⟨v, M'', a, b, c⟩ := box_ok h w j hh hw (by omega) M'
    exact ⟨v, M'', by walk_at "ev"; exact a, b, c⟩)
  refine sat_seq (sat_set e3 ?_)
  simp only [List.set_cons_zero, List.set_cons_succ]
  obtain ⟨v4, M4, e4, p4, L4⟩ := cat_ok ((L1.mono p2).mono p3) (L2.mono p3) (by simp; omega)
  obtain ⟨v5, M5, e5, p5, L5⟩ := cat_ok L4 (L3.mono p4) (by simp; omega)
  refine sat_ret (v := v5) (M1 := M5) ?_ ?_
  · simp only [eOp, eVar, List.getElem?_cons_zero, List.getElem?_cons_succ, R.bind, e4, e5]
  · exact ⟨p1.trans (p2.trans (p3.trans (p4.trans p5))), L5⟩
end K2
end
section
set_option linter.all false
set_option autoImplicit false
set_option maxRecDepth 100000
namespace K2
open VM
local macro_rules | `(tactic| walk_at "ev") => `(tactic| simp only [tB, tAnd, tOr, tNot, tTrue, eOp, eVar, eC, eLst, eTup, aNil, aCons, eCall, eAnd, eOr, eNot, eIf, eIsN, eNotN, eMeth, R.bind, oAdd, oSub, gName, gSub, gTup, gEach, iRng1, iRng2, List.length_cons, List.length_nil, List.map_cons, List.map_nil, List.cons_append, List.nil_append, List.append_nil, List.getElem?_cons_zero, List.getElem?_cons_succ, List.set_cons_zero, List.set_cons_succ, if_true, if_false, Bool.false_eq_true, Nat.reduceAdd, Nat.reduceSub, List.replicate_succ, List.replicate_zero, Nat.zero_add, Nat.add_zero, clr, List.foldl_nil, List.foldl_cons, List.append_assoc])
def nth (fs : List Int) (i : Int) : Int := fs.getD i.toNat 0
theorem at_nth {fs : List Int} {i : Int} (h0 : 0 ≤ i) (h : i < (fs.length : Int)) : atI (fs.map W.int) i = some (.int (nth fs i)) := by
  have hn : i.toNat < fs.length := by omega
  have e : ixN (fs.map W.int).length i = some i.toNat := by
    unfold ixN
    rw [if_pos h0, List.length_map, if_pos h]
  unfold atI
  rw [e]
  show (fs.map W.int)[i.toNat]? = _
  rw [List.getElem?_map, List.getElem?_eq_getElem hn]
  simp [nth, List.getD, hn]
theorem ix_ok {M : Mem} {v : W} {fs : List Int} {i : Int} (h : IntL M v fs) (h0 : 0 ≤ i) (h1 : i < (fs.length : Int)) : oIx v (.int i) M = .ok (.int (nth fs i)) M := by
  simp only [oIx, Lst.seqOf h, at_nth h0 h1]
theorem len_ok {M : Mem} {v : W} {fs : List Int} (h : IntL M v fs) : fLen [v] M = .ok (.int fs.length) M := by
  unfold fLen
  simp only [Lst.seqOf h, List.length_map]
theorem ne_int {i j : Int} {M : Mem} : oNe (.int i) (.int j) M = .ok (.bl (!decide (i = j))) M := by
  unfold oNe eqO
  simp [VM.scal]
theorem eq_int {i j : Int} {M : Mem} : oEq (.int i) (.int j) M = .ok (.bl (decide (i = j))) M := by
  unfold oEq eqO
  simp [VM.scal]
theorem lt_int {i j : Int} {M : Mem} : oLt (.int i) (.int j) M = .ok (.bl (decide (i < j))) M := rfl
theorem gt_int {i j : Int} {M : Mem} : oGt (.int i) (.int j) M = .ok (.bl (decide (j < i))) M := rfl
theorem ge_int {i j : Int} {M : Mem} : oGe (.int i) (.int j) M = .ok (.bl (decide (j ≤ i))) M := rfl
theorem le_int {i j : Int} {M : Mem} : oLe (.int i) (.int j) M = .ok (.bl (decide (i ≤ j))) M := rfl
/-- a sheet of size s -/
structure Sheet (s : Nat) (ns : List Int) : Prop where
  len : ns.length = s * s
  lo : ∀ x ∈ ns, 0 ≤ x
  hi : ∀ x ∈ ns, x ≤ (s : Int)
theorem mem_of_map {ns : List Int} {j : Nat} {x : W} (h : (ns.map W.int)[j]? = some x) : ∃ n ∈ ns, x = .int n ∧ ns[j]? = some n := by
  rw [List.getElem?_map] at h
  cases e : ns[j]? with
  | none => rw [e] at h; cases h
  | some n => rw [e] at h; exact ⟨n, List.mem_of_getElem? e, (Option.some.inj h).symm, rfl⟩
theorem refuse_ok (h w : Nat) (hh : 1 ≤ h ∧ h ≤ 3) (hw : 1 ≤ w ∧ w ≤ 3) (M : Mem) (v : W) (ns : List Int) (hv : IntL M v ns) (hs : Sheet (h * w) ns) : d_refuse_no_sheet [.int h, .int w, v] M = .ok .non M := by
  have key : ∃ u M', d_refuse_no_sheet [.int h, .int w, v] M = .ok u M' ∧ (u = .non ∧ M' = M) := by
    refine sat_fn rfl ?_
    have hs9 : h * w ≤ 9 := Nat.le_trans (Nat.mul_le_mul hh.2 hw.2) (by decide)
    have m1 := mul_ok (M := M) (i := (h : Int)) (j := (w : Int)) (by omega)
    have es : (h : Int) * (w : Int) = ((h * w : Nat) : Int) := by simp
    have m2 := mul_ok (M := M) (i := ((h * w : Nat) : Int)) (j := ((h * w : Nat) : Int)) (by omega)
    have es2 : ((h * w : Nat) : Int) * ((h * w : Nat) : Int) = ((h * w * (h * w) : Nat) : Int) := by simp
    show (sSeq _ _ [some (.int h), some (.int w), some v, none, none] M).Sat _
    refine sat_seq (sat_set (v := .int ((h : Int) * w)) (M1 := M) (by walk_at "ev"; simp only [m1]) ?_)
    simp only [List.set_cons_zero, List.set_cons_succ, es]
    refine sat_seq (sat_if (c := false) (M1 := M) ?_ (fun z => nomatch z) fun _ => ?_)
    · walk_at "ev"
      simp only [len_ok hv, m2, ne_int, hs.len, es2, decide_true, Bool.not_true]
    refine sat_skip ?_
    refine sat_lst (v := v) (M1 := M) (xs := ns.map .int) rfl hv (fun j σ M' => (∃ x, σ = [some (.int h), some (.int w), some v, some (.int (h * w : Nat)), x]) ∧ M' = M) ⟨⟨_, rfl⟩, rfl⟩ (fun j σ M' _ ⟨_, e⟩ => by subst e; exact hv) ?_ ?_
    · rintro j x σ M' hx ⟨⟨y, rfl⟩, rfl⟩
      obtain ⟨n, hn, rfl, _⟩ := mem_of_map hx
      have h1 := hs.lo n hn
      have h2 := hs.hi n hn
      simp only [List.set_cons_zero, List.set_cons_succ]
      refine sat_if (c := false) (M1 := M') ?_ (fun z => nomatch z) fun _ => ?_
      · walk_at "ev"
        have e1 : decide (n < 0) = false := decide_eq_false (by omega)
        have e2 : decide (((h * w : Nat) : Int) < n) = false := decide_eq_false (by omega)
        simp only [lt_int, gt_int, e1, e2, Bool.false_eq_true, if_false]
      · exact ⟨⟨_, rfl⟩, rfl⟩
    · rintro σ M' ⟨⟨y, rfl⟩, rfl⟩
      exact ⟨trivial, rfl⟩
  obtain ⟨u, M', e, rfl, rfl⟩ := key
  exact e
theorem pair_get (x y : W) (M : Mem) : (Src.pair x y).get M = .ok (.ref M.length) (M ++ [.tup [x, y]]) := by
  show newT [x, y] M = _
  exact newT_ok (by show 2 ≤ 16777216; decide)
/-! ### keeps_numbers -/
def keeps : List Int → List Int → Bool
  | s :: ss, f :: fs => (decide (s = 0) || decide (s = f)) && keeps ss fs
  | _, _ => true
theorem keeps_ok (M : Mem) (v u : W) (ss fs : List Int) (hv : IntL M v ss) (hu : IntL M u fs) : ∃ M', d_keeps_numbers [v, u] M = .ok (.bl (keeps ss fs)) M' ∧ M <+: M' := by
  have key : ∃ r M', d_keeps_numbers [v, u] M = .ok r M' ∧ (r = .bl (keeps ss fs) ∧ M <+: M') := by
    refine sat_fn rfl ?_
    show (sSeq _ _ [some v, some u, none, none] M).Sat _
    refine sat_seq ?_
    obtain ⟨a, rfl, la, ha⟩ := Lst.lstAt hv
    obtain ⟨b, rfl, lb, hb⟩ := Lst.lstAt hu
    have hi : iZip (eVar 0) (eVar 1) [some (.ref a), some (.ref b), none, none] M = .ok (pairs (ss.map .int) (fs.map .int), [(a, .lst (ss.map .int)), (b, .lst (fs.map .int))]) M := by
      unfold iZip
      simp only [eVar, List.getElem?_cons_zero, List.getElem?_cons_succ, R.bind, la, lb]
    have ck : ∀ {M' : Mem}, M <+: M' → Chk.ok [(a, O.lst (ss.map W.int)), (b, .lst (fs.map .int))] M' = true := fun p => by
      simp [Chk.ok, pre_get p ha, pre_get p hb]
    have plen : (pairs (ss.map W.int) (fs.map .int)).length = min ss.length fs.length := by simp [pairs]
    have kdrop : ∀ {j : Nat} {s f : Int}, ss[j]? = some s → fs[j]? = some f → keeps (ss.drop j) (fs.drop j) = ((decide (s = 0) || decide (s = f)) && keeps (ss.drop (j + 1)) (fs.drop (j + 1))) := fun {j s f} e1 e2 => by
      obtain ⟨h1, e1⟩ := List.getElem?_eq_some_iff.mp e1
      obtain ⟨h2, e2⟩ := List.getElem?_eq_some_iff.mp e2
      rw [List.drop_eq_getElem_cons h1, List.drop_eq_getElem_cons h2, e1, e2]
      rfl
    refine sat_for hi (fun j σ M' => (∃ x y, σ = [some (.ref a), some (.ref b), x, y]) ∧ M <+: M' ∧ keeps ss fs = keeps (ss.drop j) (fs.drop j)) ⟨⟨_, _, rfl⟩, pre_rfl _, rfl⟩ ?_ ?_
    · rintro j x σ M' hx ⟨⟨y, z, rfl⟩, p, hk⟩
      unfold pairs at hx
      rw [List.getElem?_zipWith, List.getElem?_map, List.getElem?_map] at hx
      cases e1 : ss[j]? with
      | none => rw [e1] at hx; cases hx
      | some s =>
        cases e2 : fs[j]? with
        | none => rw [e1, e2] at hx; cases hx
        | some f =>
          rw [e1, e2] at hx
          have ex : x = .pair (.int s) (.int f) := (Option.some.inj hx).symm
          subst ex
          rw [kdrop e1 e2] at hk
          refine ⟨ck p, .ref M'.length, M' ++ [.tup [.int s, .int f]], [some (.ref a), some (.ref b), some (.int s), some (.int f)], M' ++ [.tup [.int s, .int f]], pair_get _ _ _, ?_, ?_⟩
          · simp only [gTup, (Tup.new M' _).tupOf, gEach, gName, R.bind, List.length_cons, List.length_nil, if_true, List.set_cons_zero, List.set_cons_succ]
          · refine sat_if (c := !(decide (s = 0) || decide (s = f))) (M1 := M' ++ [.tup [.int s, .int f]]) ?_ (fun hc => ?_) fun hc => ?_
            · walk_at "ev"
              simp only [ne_int]
              cases decide (s = 0) <;> simp
            · refine sat_ret rfl ?_
              have : (decide (s = 0) || decide (s = f)) = false := by simpa using hc
              rw [this, Bool.false_and] at hk
              exact ⟨by rw [hk], p.trans (pre_app _ _)⟩
            · have : (decide (s = 0) || decide (s = f)) = true := by
                rw [Bool.not_eq_false'] at hc; exact hc
              rw [this, Bool.true_and] at hk
              exact ⟨⟨_, _, rfl⟩, p.trans (pre_app _ _), hk⟩
    · rintro σ M' ⟨⟨y, z, rfl⟩, p, hk⟩
      refine ⟨ck p, ?_⟩
      dsimp only
      refine sat_ret rfl ?_
      refine ⟨?_, p⟩
      rw [hk, plen]
      have : ss.drop (min ss.length fs.length) = [] ∨ fs.drop (min ss.length fs.length) = [] := by
        rcases Nat.le_total ss.length fs.length with q | q
        · rw [Nat.min_eq_left q]; exact .inl (List.drop_length)
        · rw [Nat.min_eq_right q]; exact .inr (List.drop_length)
      rcases this with e | e
      · rw [e]; rfl
      · rw [e]; cases ss.drop (min ss.length fs.length) <;> rfl
  obtain ⟨r, M', e, rfl, p⟩ := key
  exact ⟨M', e, p⟩
/-! ### has_twice -/
theorem intsOf_map (ns : List Int) : intsOf (ns.map .int) = some ns := by
  induction ns with
  | nil => rfl
  | cons n r ih => simp only [List.map_cons, intsOf, ih]; rfl
/-- [fs[i] for i in g] -/
theorem pick_ok {σ : St} {M : Mem} {vg vf : W} {g fs : List Int} (e : EM) (ef : EM) (k : Nat) (he : e σ M = .ok vg M) (hg : IntL M vg g) (hf : IntL M vf fs) (hin : ∀ i ∈ g, 0 ≤ i ∧ i < (fs.length : Int)) (hl : g.length ≤ 1000)
    (hef : ∀ x, ef ((σ ++ [none]).set k (some x)) M = .ok vf M) (hk : ∀ x, eVar k ((σ ++ [none]).set k (some x)) M = .ok x M) :
    eComp 1 [] (iSeq e) (gName k) tTrue (eOp oIx ef (eVar k)) σ M = .ok (.ref M.length) (M ++ [.lst ((g.map (nth fs)).map .int)]) := by
  obtain ⟨a, rfl, ha⟩ := hg
  unfold eComp
  have hi : iSeq e σ M = .ok ((g.map W.int).map .val, [(a, .lst (g.map .int))]) M := by unfold iSeq; rw [he]; simp only [R.bind, ha]
  rw [hi]
  simp only [R.bind, clr, List.foldl_nil, List.replicate_succ, List.replicate_zero]
  rw [comp_flat (σ := σ ++ [none]) (fun _ => true) (fun x => match x with | .int i => .int (nth fs i) | _ => .non) _ _ _ (fun _ => rfl) (by simp [Chk.ok, ha]) ?_]
  · simp only [filter_tt, List.nil_append, List.map_map]
    exact newL_ok (by simp; omega)
  · intro x hx
    obtain ⟨i, hi2, rfl⟩ := List.mem_map.mp hx
    obtain ⟨h1, h2⟩ := hin i hi2
    refine ⟨rfl, fun _ => ?_⟩
    simp only [eOp, hef, hk, R.bind]
    exact ix_ok hf h1 h2
def twice (g fs : List Int) : Bool := decide ((ded (g.map (nth fs))).length < g.length)
theorem twice_ok (M : Mem) (vg vf : W) (g fs : List Int) (hg : IntL M vg g) (hf : IntL M vf fs) (hin : ∀ i ∈ g, 0 ≤ i ∧ i < (fs.length : Int)) (hl : g.length ≤ 1000) : ∃ M', d_has_twice [vg, vf] M = .ok (.bl (twice g fs)) M' ∧ M <+: M' := by
  have key : ∃ r M', d_has_twice [vg, vf] M = .ok r M' ∧ (r = .bl (twice g fs) ∧ M <+: M') := by
    refine sat_fn rfl ?_
    show (sSeq _ _ [some vg, some vf, none] M).Sat _
    refine sat_seq (sat_set (pick_ok (eVar 0) (eVar 1) 3 rfl hg hf hin hl (fun _ => rfl) (fun _ => rfl)) ?_)
    simp only [List.set_cons_zero, List.set_cons_succ]
    have L := Lst.new M ((g.map (nth fs)).map .int)
    refine sat_ret (v := .bl (twice g fs)) (M1 := M ++ [.lst ((g.map (nth fs)).map .int)]) ?_ ⟨rfl, pre_app _ _⟩
    simp only [eOp, eLenSet, eCall, aCons, aNil, eVar, List.getElem?_cons_zero, List.getElem?_cons_succ, R.bind, L.lstOf, Option.bind, intsOf_map]
    rw [if_pos (by simp; omega)]
    simp only [R.bind, len_ok L, lt_int, twice, List.length_map]
    simp
  obtain ⟨r, M', e, rfl, p⟩ := key
  exact ⟨M', e, p⟩
end K2
end
section
set_option linter.all false
set_option autoImplicit false
set_option maxRecDepth 100000
namespace K2
open VM
local macro_rules | `(tactic| walk_at "ev") => `(tactic| simp only [tB, tAnd, tOr, tNot, tTrue, eOp, eVar, eC, eLst, eTup, aNil, aCons, eCall, eAnd, eOr, eNot, eIf, eIsN, eNotN, eMeth, R.bind, oAdd, oSub, gName, gSub, gTup, gEach, iRng1, iRng2, List.length_cons, List.length_nil, List.map_cons, List.map_nil, List.cons_append, List.nil_append, List.append_nil, List.getElem?_cons_zero, List.getElem?_cons_succ, List.set_cons_zero, List.set_cons_succ, if_true, if_false, Bool.false_eq_true, Nat.reduceAdd, Nat.reduceSub, List.replicate_succ, List.replicate_zero, Nat.zero_add, Nat.add_zero, clr, List.foldl_nil, List.foldl_cons, List.append_assoc])
theorem flat_ints (ns : List Int) : (ns.map W.int).all flat = true := by
  induction ns with
  | nil => rfl
  | cons n r ih => simp only [List.map_cons, List.all_cons, ih, Bool.and_true]; rfl
theorem inW_ints (x : Int) (ns : List Int) : inW (.int x) (ns.map .int) = ns.any (· == x) := by
  unfold inW
  rw [List.any_map]
  rfl
theorem in_ok {M : Mem} {u : W} {fs : List Int} (x : Int) (h : IntL M u fs) : oIn (.int x) u M = .ok (.bl (fs.any (· == x))) M := by
  unfold oIn
  rw [Lst.seqOf h]
  simp only [flat, flat_ints, Bool.and_true, if_true, inW_ints]
theorem h3 {h : Nat} (hh : 1 ≤ h ∧ h ≤ 3) : h = 1 ∨ h = 2 ∨ h = 3 := by omega
def grpIn (h w : Nat) : Bool := (grps h w).all fun g => decide (g.length ≤ 9) && g.all fun i => decide (0 ≤ i) && decide (i < ((h * w * (h * w) : Nat) : Int))
theorem grp_in {h w : Nat} (hh : 1 ≤ h ∧ h ≤ 3) (hw : 1 ≤ w ∧ w ≤ 3) : ∀ g ∈ grps h w, g.length ≤ 9 ∧ ∀ i ∈ g, 0 ≤ i ∧ i < ((h * w * (h * w) : Nat) : Int) := by
  have key : grpIn h w = true := by
    rcases h3 hh with rfl | rfl | rfl <;> rcases h3 hw with rfl | rfl | rfl <;> decide +kernel
  intro g hg
  have h1 := List.all_eq_true.mp key g hg
  rw [Bool.and_eq_true] at h1
  refine ⟨of_decide_eq_true h1.1, fun i hi => ?_⟩
  have h2 := List.all_eq_true.mp h1.2 i hi
  rw [Bool.and_eq_true] at h2
  exact ⟨of_decide_eq_true h2.1, of_decide_eq_true h2.2⟩
def fillsB (ss fs : List Int) (G : List (List Int)) : Bool := !(fs.any (· == 0)) && keeps ss fs && G.all fun g => !twice g fs
theorem fills_ok {f : CM} (hf : GroupsSpec f) (h w : Nat) (hh : 1 ≤ h ∧ h ≤ 3) (hw : 1 ≤ w ∧ w ≤ 3) (M : Mem) (v u : W) (ss fs : List Int) (hv : IntL M v ss) (hu : IntL M u fs) (s1 : Sheet (h * w) ss) (s2 : Sheet (h * w) fs) :
    ∃ M', d_fills f d_refuse_no_sheet d_keeps_numbers d_has_twice [.int h, .int w, v, u] M = .ok (.bl (fillsB ss fs (grps h w))) M' ∧ M <+: M' := by
  have key : ∃ r M', d_fills f d_refuse_no_sheet d_keeps_numbers d_has_twice [.int h, .int w, v, u] M = .ok r M' ∧ (r = .bl (fillsB ss fs (grps h w)) ∧ M <+: M') := by
    refine sat_fn rfl ?_
    show (sSeq _ _ [some (.int h), some (.int w), some v, some u, none] M).Sat _
    have q1 := refuse_ok h w hh hw M v ss hv s1
    have q2 := refuse_ok h w hh hw M u fs hu s2
    refine sat_seq (sat_expr (v := .non) (M1 := M) (by walk_at "ev"; exact q1) ?_)
    refine sat_seq (sat_expr (v := .non) (M1 := M) (by walk_at "ev"; exact q2) ?_)
    obtain ⟨M1, k1, p1⟩ := keeps_ok M v u ss fs hv hu
    refine sat_seq ?_
    have hz := in_ok 0 hu
    by_cases c0 : fs.any (· == 0) = true
    · refine sat_if (c := true) (M1 := M) (by walk_at "ev"; simp only [hz, c0, if_true]) (fun _ => ?_) fun z => nomatch z
      refine sat_ret rfl ⟨?_, pre_rfl _⟩
      simp [fillsB, c0]
    · have c0' : fs.any (· == 0) = false := by cases e : fs.any (· == 0) with | true => exact absurd e c0 | false => rfl
      refine sat_if (c := !keeps ss fs) (M1 := M1) (by walk_at "ev"; simp only [hz, c0', Bool.false_eq_true, if_false, k1]) (fun hc => ?_) fun hc => ?_
      · refine sat_ret rfl ⟨?_, p1⟩
        have : keeps ss fs = false := by simpa using hc
        simp [fillsB, this]
      · have hk : keeps ss fs = true := by simpa using hc
        refine sat_skip ?_
        dsimp only
        refine sat_seq ?_
        obtain ⟨vg, M2, g1, p2, ws, hL, hA⟩ := hf h w M1 hh hw
        have hv2 : IntL M2 u fs := Lst.mono hu (p1.trans p2)
        refine sat_lst (v := vg) (M1 := M2) (xs := ws) (by walk_at "ev"; exact g1) hL (fun j σ M' => (∃ x, σ = [some (.int h), some (.int w), some v, some u, x]) ∧ M2 <+: M' ∧ ((grps h w).take j).all (fun g => !twice g fs) = true) ⟨⟨_, rfl⟩, pre_rfl _, rfl⟩ (fun j σ M' _ ⟨_, p, _⟩ => hL.mono p) ?_ ?_
        · rintro j x σ M' hx ⟨⟨y, rfl⟩, p, ha⟩
          obtain ⟨g, hg, hgl⟩ := hA.at hx
          have hmem := List.mem_of_getElem? hg
          obtain ⟨l9, hin⟩ := grp_in hh hw g hmem
          obtain ⟨M3, t1, p3⟩ := twice_ok M' x u g fs (Lst.mono hgl p) (Lst.mono hv2 p) (fun i hi => by rw [s2.len]; exact hin i hi) (by omega)
          have tk : (grps h w).take (j + 1) = (grps h w).take j ++ [g] := by
            obtain ⟨hlt, e⟩ := List.getElem?_eq_some_iff.mp hg
            rw [List.take_succ, hg]; rfl
          simp only [List.set_cons_zero, List.set_cons_succ]
          refine sat_if (c := twice g fs) (M1 := M3) (by walk_at "ev"; simp only [t1]) (fun hc => ?_) fun hc => ?_
          · refine sat_ret rfl ⟨?_, p1.trans (p2.trans (p.trans p3))⟩
            have : (grps h w).all (fun g => !twice g fs) = false := by
              rw [List.all_eq_false]
              exact ⟨g, hmem, by simp [hc]⟩
            simp [fillsB, this]
          · refine ⟨⟨_, rfl⟩, p.trans p3, ?_⟩
            rw [tk, List.all_append, ha]
            simp [hc]
        · rintro σ M' ⟨⟨y, rfl⟩, p, ha⟩
          dsimp only
          refine sat_ret rfl ⟨?_, p1.trans (p2.trans p)⟩
          have hl : (grps h w).take ws.length = grps h w := by rw [hA.len, List.take_length]
          rw [hl] at ha
          simp [fillsB, c0', hk, ha]
  obtain ⟨r, M', e, rfl, p⟩ := key
  exact ⟨M', e, p⟩
/-! ### the law's own reading -/
def cnt (k : Int) (l : List Int) : Nat := l.countP (· == k)
theorem count_ok {M : Mem} {v : W} {l : List Int} (k : Int) (h : IntL M v l) : mCount v [.int k] M = .ok (.int (cnt k l)) M := by
  obtain ⟨a, rfl, ha⟩ := h
  unfold mCount
  rw [mutOf_at ha]
  simp only [flat, flat_ints, Bool.and_true, if_true]
  have e : (l.map W.int).countP (fun z => eqW z (.int k)) = cnt k l := by
    rw [List.countP_map]; rfl
  rw [e]
def okG (g fs : List Int) (s : Nat) : Bool := (List.range s).all fun k => decide (cnt ((k : Int) + 1) (g.map (nth fs)) ≤ 1)
def noTw (G : List (List Int)) (fs : List Int) (s : Nat) : Bool := G.all fun g => okG g fs s
theorem all_range_succ (n : Nat) (p : Nat → Bool) : (List.range (n + 1)).all p = ((List.range n).all p && p n) := by
  rw [List.range_succ, List.all_append]; simp
theorem noTw_ok (M : Mem) (vG vf : W) (G : List (List Int)) (fs : List Int) (s : Nat) (hG : LL M vG G) (hf : IntL M vf fs) (hin : ∀ g ∈ G, g.length ≤ 9 ∧ ∀ i ∈ g, 0 ≤ i ∧ i < (fs.length : Int)) (hs : s ≤ 9) :
    ∃ M', d_L_no_twice [vG, vf, .int s] M = .ok (.bl (noTw G fs s)) M' ∧ M <+: M' := by
  have key : ∃ r M', d_L_no_twice [vG, vf, .int s] M = .ok r M' ∧ (r = .bl (noTw G fs s) ∧ M <+: M') := by
    refine sat_fn rfl ?_
    show (sSeq _ _ [some vG, some vf, some (.int s), none, none, none] M).Sat _
    refine sat_seq ?_
    obtain ⟨ws, hL, hA⟩ := hG
    refine sat_lst (v := vG) (M1 := M) (xs := ws) rfl hL (fun j σ M' => (∃ x y z, σ = [some vG, some vf, some (.int s), x, y, z]) ∧ M <+: M' ∧ (G.take j).all (fun g => okG g fs s) = true) ⟨⟨_, _, _, rfl⟩, pre_rfl _, rfl⟩ (fun j σ M' _ ⟨_, p, _⟩ => hL.mono p) ?_ ?_
    · rintro j x σ M' hx ⟨⟨y1, y2, y3, rfl⟩, p, ha⟩
      obtain ⟨g, hg, hgl⟩ := hA.at hx
      have hmem := List.mem_of_getElem? hg
      obtain ⟨l9, hi⟩ := hin g hmem
      have tk : G.take (j + 1) = G.take j ++ [g] := by rw [List.take_succ, hg]; rfl
      simp only [List.set_cons_zero, List.set_cons_succ]
      refine sat_seq (sat_set (pick_ok (eVar 3) (eVar 1) 6 rfl (Lst.mono hgl p) (Lst.mono hf p) hi (by omega) (fun _ => rfl) (fun _ => rfl)) ?_)
      simp only [List.set_cons_zero, List.set_cons_succ]
      have r2 : (1 : Int).natAbs < two62 ∧ ((s : Int) + 1).natAbs < two62 := ⟨rng_ok (by omega) (by omega), rng_ok (by omega) (by omega)⟩
      have n2 : ((s : Int) + 1 - 1).toNat = s := by omega
      have L := Lst.new M' ((g.map (nth fs)).map W.int)
      refine sat_rng (lo := 1) (n := s) (M1 := M' ++ [.lst ((g.map (nth fs)).map .int)]) (by walk_at "ev"; rw [if_pos r2, n2])
        (fun k σ N => (∃ z, σ = [some vG, some vf, some (.int s), some x, some (.ref M'.length), z]) ∧ N = M' ++ [.lst ((g.map (nth fs)).map .int)] ∧ (List.range k).all (fun k => decide (cnt ((k : Int) + 1) (g.map (nth fs)) ≤ 1)) = true) ⟨⟨_, rfl⟩, rfl, rfl⟩ ?_ ?_
      · rintro k σ N hk ⟨⟨z, rfl⟩, rfl, hr⟩
        simp only [List.set_cons_zero, List.set_cons_succ]
        have ez : (1 : Int) + (k : Int) = (k : Int) + 1 := by omega
        refine sat_if (c := decide (1 < cnt ((k : Int) + 1) (g.map (nth fs)))) (M1 := M' ++ [.lst ((g.map (nth fs)).map .int)]) ?_ (fun hc => ?_) fun hc => ?_
        · walk_at "ev"
          simp only [L.lstOf, ez, count_ok _ L, gt_int]
          congr 1
          rw [Bool.eq_iff_iff]
          simp
          omega
        · refine sat_ret rfl ⟨?_, p.trans (pre_app _ _)⟩
          have h1 : 1 < cnt ((k : Int) + 1) (g.map (nth fs)) := of_decide_eq_true hc
          have : okG g fs s = false := by
            unfold okG
            rw [List.all_eq_false]
            exact ⟨k, List.mem_range.mpr hk, by simp; omega⟩
          have h2 : noTw G fs s = false := by
            unfold noTw
            rw [List.all_eq_false]
            exact ⟨g, hmem, by simp [this]⟩
          rw [h2]
        · refine ⟨⟨_, rfl⟩, rfl, ?_⟩
          have h1 : ¬ 1 < cnt ((k : Int) + 1) (g.map (nth fs)) := of_decide_eq_false hc
          rw [all_range_succ, hr, Bool.true_and]
          exact decide_eq_true (by omega)
      · rintro σ N ⟨⟨z, rfl⟩, rfl, hr⟩
        refine ⟨⟨_, _, _, rfl⟩, p.trans (pre_app _ _), ?_⟩
        rw [tk, List.all_append, ha]
        have : okG g fs s = true := hr
        simp [this]
    · rintro σ M' ⟨⟨y1, y2, y3, rfl⟩, p, ha⟩
      dsimp only
      refine sat_ret rfl ⟨?_, p⟩
      have hl : G.take ws.length = G := by rw [hA.len, List.take_length]
      rw [hl] at ha
      have : noTw G fs s = true := ha
      rw [this]
  obtain ⟨r, M', e, rfl, p⟩ := key
  exact ⟨M', e, p⟩
def isF (ss fs : List Int) (n : Nat) : Bool := (List.range n).all fun j => !decide (nth fs j = 0) && (decide (nth ss j = 0) || decide (nth ss j = nth fs j))
theorem filled_ok (M : Mem) (vG vs vf : W) (G : List (List Int)) (ss fs : List Int) (s : Nat) (hG : LL M vG G) (hv : IntL M vs ss) (hf : IntL M vf fs) (hl : ss.length = fs.length) (h1000 : ss.length ≤ 1000) (hin : ∀ g ∈ G, g.length ≤ 9 ∧ ∀ i ∈ g, 0 ≤ i ∧ i < (fs.length : Int)) (hs : s ≤ 9) :
    ∃ M', d_L_is_filled_by d_L_no_twice [vG, vs, vf, .int s] M = .ok (.bl (isF ss fs ss.length && noTw G fs s)) M' ∧ M <+: M' := by
  have key : ∃ r M', d_L_is_filled_by d_L_no_twice [vG, vs, vf, .int s] M = .ok r M' ∧ (r = .bl (isF ss fs ss.length && noTw G fs s) ∧ M <+: M') := by
    refine sat_fn rfl ?_
    show (sSeq _ _ [some vG, some vs, some vf, some (.int s), none] M).Sat _
    refine sat_seq ?_
    have r1 : (ss.length : Int).natAbs < two62 := rng_ok (by omega) (by omega)
    refine sat_rng (lo := 0) (n := ss.length) (M1 := M) (by walk_at "ev"; simp only [len_ok hv]; rw [if_pos r1, Int.toNat_natCast])
      (fun j σ M' => (∃ x, σ = [some vG, some vs, some vf, some (.int s), x]) ∧ M <+: M' ∧ (List.range j).all (fun j => !decide (nth fs j = 0) && (decide (nth ss j = 0) || decide (nth ss j = nth fs j))) = true) ⟨⟨_, rfl⟩, pre_rfl _, rfl⟩ ?_ ?_
    · rintro j σ M' hj ⟨⟨x, rfl⟩, p, ha⟩
      simp only [List.set_cons_zero, List.set_cons_succ]
      have ez : (0 : Int) + (j : Int) = (j : Int) := by omega
      have i1 := ix_ok (Lst.mono hf p) (i := (j : Int)) (by omega) (by omega)
      have i2 := ix_ok (Lst.mono hv p) (i := (j : Int)) (by omega) (by omega)
      have bad : (!decide (nth fs j = 0) && (decide (nth ss j = 0) || decide (nth ss j = nth fs j))) = false → isF ss fs ss.length = false := fun e => by
        unfold isF
        rw [List.all_eq_false]
        exact ⟨j, List.mem_range.mpr hj, by rw [e]; simp⟩
      by_cases c0 : nth fs j = 0
      · refine sat_if (c := true) (M1 := M') (by walk_at "ev"; simp only [ez, i1, eq_int, c0, decide_true, if_true]) (fun _ => ?_) fun z => nomatch z
        refine sat_ret rfl ⟨?_, p⟩
        rw [bad (by simp [c0]), Bool.false_and]
      · have N : M' <+: M' ++ [.lst [.int 0, .int (nth fs j)]] := pre_app _ _
        have hn : newL [.int 0, .int (nth fs j)] M' = .ok (.ref M'.length) (M' ++ [.lst [.int 0, .int (nth fs j)]]) := newL_ok (by show 2 ≤ 16777216; decide)
        have L := Lst.new M' [.int 0, .int (nth fs j)]
        have hin2 : oNotIn (.int (nth ss j)) (.ref M'.length) (M' ++ [.lst [.int 0, .int (nth fs j)]]) = .ok (.bl (!(decide (nth ss j = 0) || decide (nth ss j = nth fs j)))) (M' ++ [.lst [.int 0, .int (nth fs j)]]) := by
          unfold oNotIn
          rw [L.seqOf]
          have e1 : ((0 : Int) == nth ss j) = decide (nth ss j = 0) := by rw [Bool.eq_iff_iff]; simp; omega
          have e2 : (nth fs j == nth ss j) = decide (nth ss j = nth fs j) := by rw [Bool.eq_iff_iff]; simp; omega
          simp only [flat, List.all_cons, List.all_nil, Bool.and_true, if_true, inW, List.any_cons, List.any_nil, Bool.or_false, eqW, e1, e2]
        refine sat_if (c := !(decide (nth ss j = 0) || decide (nth ss j = nth fs j))) (M1 := M' ++ [.lst [.int 0, .int (nth fs j)]]) ?_ (fun hc => ?_) fun hc => ?_
        · have i3 := ix_ok (Lst.mono hf p) (i := (j : Int)) (by omega) (by omega)
          walk_at "ev"
          simp only [ez, i1, i2, eq_int, c0, decide_false, Bool.false_eq_true, if_false, hn, hin2]
        · refine sat_ret rfl ⟨?_, p.trans N⟩
          have e : (decide (nth ss j = 0) || decide (nth ss j = nth fs j)) = false := by rw [Bool.not_eq_true'] at hc; exact hc
          rw [bad (by rw [e]; simp), Bool.false_and]
        · refine ⟨⟨_, rfl⟩, p.trans N, ?_⟩
          have e : (decide (nth ss j = 0) || decide (nth ss j = nth fs j)) = true := by rw [Bool.not_eq_false'] at hc; exact hc
          rw [all_range_succ, ha, e]
          simp [c0]
    · rintro σ M' ⟨⟨x, rfl⟩, p, ha⟩
      dsimp only
      obtain ⟨M2, e, p2⟩ := noTw_ok M' vG vf G fs s (hG.mono p) (Lst.mono hf p) hin hs
      refine sat_ret (v := .bl (noTw G fs s)) (M1 := M2) (by walk_at "ev"; exact e) ⟨?_, p.trans p2⟩
      have : isF ss fs ss.length = true := ha
      rw [this, Bool.true_and]
  obtain ⟨r, M', e, rfl, p⟩ := key
  exact ⟨M', e, p⟩
end K2
end
section
set_option linter.all false
set_option autoImplicit false
set_option maxRecDepth 100000
namespace K2
open VM
/-! ### the two readings agree -/
def dedF (l : List Int) (n : Int) : List Int := if l.any (· == n) then l else l ++ [n]
theorem any_eq (l : List Int) (n : Int) : l.any (· == n) = true ↔ n ∈ l := by
  rw [List.any_eq_true]
  constructor
  · rintro ⟨x, h, e⟩
    rw [beq_iff_eq] at e; subst e; exact h
  · intro h
    exact ⟨n, h, by simp⟩
theorem ded_go (l : List Int) : ∀ acc : List Int, (l.foldl dedF acc).length ≤ acc.length + l.length ∧ ((l.foldl dedF acc).length = acc.length + l.length ↔ (∀ x ∈ l, x ∉ acc) ∧ l.Nodup) := by
  induction l with
  | nil => intro acc; simp
  | cons x r ih =>
    intro acc
    rw [List.foldl_cons]
    by_cases h : acc.any (· == x) = true
    · have e : dedF acc x = acc := if_pos h
      rw [e]
      obtain ⟨h1, h2⟩ := ih acc
      rw [List.length_cons]
      refine ⟨by omega, ⟨fun q => by omega, fun q => ?_⟩⟩
      exact absurd ((any_eq acc x).mp h) (q.1 x List.mem_cons_self)
    · have e : dedF acc x = acc ++ [x] := if_neg h
      rw [e]
      obtain ⟨h1, h2⟩ := ih (acc ++ [x])
      have hx : x ∉ acc := fun q => h ((any_eq acc x).mpr q)
      rw [List.length_append, List.length_cons, List.length_nil] at h1 h2
      rw [List.length_cons]
      refine ⟨by omega, ?_⟩
      rw [show acc.length + (r.length + 1) = acc.length + (0 + 1) + r.length by omega, h2]
      constructor
      · rintro ⟨a, b⟩
        refine ⟨fun y hy => ?_, List.nodup_cons.mpr ⟨fun hm => ?_, b⟩⟩
        · rcases List.mem_cons.mp hy with rfl | hy
          · exact hx
          · exact fun q => a y hy (List.mem_append_left _ q)
        · exact a x hm (List.mem_append_right _ (by simp))
      · rintro ⟨a, b⟩
        obtain ⟨b1, b2⟩ := List.nodup_cons.mp b
        refine ⟨fun y hy q => ?_, b2⟩
        rcases List.mem_append.mp q with q | q
        · exact a y (List.mem_cons_of_mem _ hy) q
        · rw [List.mem_singleton] at q; subst q; exact b1 hy
theorem ded_nodup (l : List Int) : (ded l).length < l.length ↔ ¬ l.Nodup := by
  obtain ⟨h1, h2⟩ := ded_go l []
  have e : ded l = l.foldl dedF [] := rfl
  rw [← e] at h1 h2
  simp at h1 h2
  constructor
  · intro h q
    have := h2.mpr q
    omega
  · intro h
    rcases Nat.lt_or_eq_of_le h1 with q | q
    · exact q
    · exact absurd (h2.mp q) h
theorem cnt_cons (k x : Int) (l : List Int) : cnt k (x :: l) = (if x = k then 1 else 0) + cnt k l := by
  unfold cnt
  rw [List.countP_cons]
  by_cases h : x = k
  · simp [h]; omega
  · simp [h]
theorem cnt_pos (k : Int) (l : List Int) : 0 < cnt k l ↔ k ∈ l := by
  unfold cnt
  rw [List.countP_pos_iff]
  constructor
  · rintro ⟨x, h, e⟩
    rw [beq_iff_eq] at e; subst e; exact h
  · intro h
    exact ⟨k, h, by simp⟩
theorem cnt_nodup (l : List Int) : l.Nodup ↔ ∀ k, cnt k l ≤ 1 := by
  induction l with
  | nil => simp [cnt]
  | cons x r ih =>
    rw [List.nodup_cons, ih]
    constructor
    · rintro ⟨a, b⟩ k
      rw [cnt_cons]
      by_cases h : x = k
      · subst h
        have : ¬ 0 < cnt x r := fun q => a ((cnt_pos x r).mp q)
        simp; omega
      · have := b k; simp [h]; exact this
    · intro h
      refine ⟨fun q => ?_, fun k => ?_⟩
      · have := h x
        rw [cnt_cons] at this
        have := (cnt_pos x r).mpr q
        simp at *
        omega
      · have := h k
        rw [cnt_cons] at this
        omega
theorem okG_iff (g fs : List Int) (s : Nat) (hin : ∀ x ∈ g.map (nth fs), 1 ≤ x ∧ x ≤ (s : Int)) : okG g fs s = true ↔ (g.map (nth fs)).Nodup := by
  rw [cnt_nodup]
  unfold okG
  rw [List.all_eq_true]
  constructor
  · intro h k
    by_cases hk : 0 < cnt k (g.map (nth fs))
    · obtain ⟨h1, h2⟩ := hin k ((cnt_pos k _).mp hk)
      have := of_decide_eq_true (h (k - 1).toNat (List.mem_range.mpr (by omega)))
      rw [show (((k - 1).toNat : Nat) : Int) + 1 = k by omega] at this
      exact this
    · omega
  · intro h k hk
    exact decide_eq_true (h _)
theorem twice_iff (g fs : List Int) : twice g fs = true ↔ ¬ (g.map (nth fs)).Nodup := by
  unfold twice
  rw [← ded_nodup, List.length_map, decide_eq_true_iff]
theorem nth_mem {fs : List Int} {i : Int} (h0 : 0 ≤ i) (h : i < (fs.length : Int)) : nth fs i ∈ fs := by
  have hn : i.toNat < fs.length := by omega
  have : nth fs i = fs[i.toNat] := by simp [nth, List.getD, hn]
  rw [this]
  exact List.getElem_mem hn
theorem nth_nat {fs : List Int} {j : Nat} (h : j < fs.length) : nth fs (j : Int) = fs[j] := by
  simp [nth, List.getD, h]
theorem keeps_iff : ∀ (ss fs : List Int), ss.length = fs.length → (keeps ss fs = true ↔ ∀ j : Nat, j < ss.length → (nth ss j = 0 ∨ nth ss j = nth fs j))
  | [], [], _ => by simp [keeps]
  | s :: ss, f :: fs, h => by
    have ih := keeps_iff ss fs (by simpa using h)
    unfold keeps
    rw [Bool.and_eq_true, ih, Bool.or_eq_true, decide_eq_true_iff, decide_eq_true_iff]
    constructor
    · rintro ⟨a, b⟩ j hj
      cases j with
      | zero => exact a
      | succ j => exact b j (by simpa using hj)
    · intro a
      exact ⟨a 0 (by simp), fun j hj => a (j + 1) (by simpa using hj)⟩
  | [], _ :: _, h => by simp at h
  | _ :: _, [], h => by simp at h
theorem agree (ss fs : List Int) (G : List (List Int)) (s : Nat) (s1 : Sheet s ss) (s2 : Sheet s fs) (hin : ∀ g ∈ G, ∀ i ∈ g, 0 ≤ i ∧ i < (fs.length : Int)) : fillsB ss fs G = (isF ss fs ss.length && noTw G fs s) := by
  have hl : ss.length = fs.length := by rw [s1.len, s2.len]
  rw [Bool.eq_iff_iff]
  unfold fillsB
  rw [Bool.and_eq_true, Bool.and_eq_true, Bool.and_eq_true]
  have A : ((!(fs.any (· == 0))) = true ∧ keeps ss fs = true) ↔ isF ss fs ss.length = true := by
    rw [keeps_iff ss fs hl]
    unfold isF
    rw [List.all_eq_true]
    constructor
    · rintro ⟨a, b⟩ j hj
      rw [List.mem_range] at hj
      have nz : nth fs j ≠ 0 := fun e => by
        have : fs.any (· == 0) = true := (any_eq fs 0).mpr (by rw [← e]; exact nth_mem (by omega) (by omega))
        rw [this] at a
        cases a
      have := b j hj
      simp [nz, this]
    · intro h
      refine ⟨?_, fun j hj => ?_⟩
      · cases e : fs.any (· == 0) with
        | false => rfl
        | true =>
          have hm := (any_eq fs 0).mp e
          obtain ⟨j, hj, e2⟩ := List.getElem_of_mem hm
          have := h j (List.mem_range.mpr (by omega))
          rw [nth_nat hj, e2] at this
          simp at this
      · have := h j (List.mem_range.mpr hj)
        rw [Bool.and_eq_true, Bool.or_eq_true, decide_eq_true_iff, decide_eq_true_iff] at this
        exact this.2
  constructor
  · rintro ⟨a, b⟩
    have hF := A.mp a
    refine ⟨hF, ?_⟩
    unfold noTw
    rw [List.all_eq_true] at b ⊢
    intro g hg
    have hb := b g hg
    rw [okG_iff]
    · cases e : twice g fs with
      | true => rw [e] at hb; cases hb
      | false =>
        apply Classical.byContradiction
        intro q
        rw [(twice_iff g fs).mpr q] at e
        cases e
    · intro x hx
      obtain ⟨i, hi, rfl⟩ := List.mem_map.mp hx
      obtain ⟨i0, i1⟩ := hin g hg i hi
      have hm := nth_mem i0 i1
      have l := s2.lo _ hm
      have u := s2.hi _ hm
      have nz : nth fs i ≠ 0 := fun e => by
        have : fs.any (· == 0) = true := (any_eq fs 0).mpr (by rw [← e]; exact hm)
        rw [this] at a
        exact absurd a.1 (by decide)
      omega
  · rintro ⟨a, b⟩
    have hF := A.mpr a
    refine ⟨hF, ?_⟩
    unfold noTw at b
    rw [List.all_eq_true] at b ⊢
    intro g hg
    have hb := b g hg
    rw [okG_iff] at hb
    · cases e : twice g fs with
      | true => exact absurd hb ((twice_iff g fs).mp e)
      | false => rfl
    · intro x hx
      obtain ⟨i, hi, rfl⟩ := List.mem_map.mp hx
      obtain ⟨i0, i1⟩ := hin g hg i hi
      have hm := nth_mem i0 i1
      have l := s2.lo _ hm
      have u := s2.hi _ hm
      have nz : nth fs i ≠ 0 := fun e => by
        have : fs.any (· == 0) = true := (any_eq fs 0).mpr (by rw [← e]; exact hm)
        rw [this] at hF
        exact absurd hF.1 (by decide)
      omega
end K2
end
section
set_option linter.all false
set_option autoImplicit false
set_option maxRecDepth 100000
namespace K2
open VM
local macro_rules | `(tactic| walk_at "ev") => `(tactic| simp only [tB, tAnd, tOr, tNot, tTrue, eOp, eVar, eC, eLst, eTup, aNil, aCons, eCall, eAnd, eOr, eNot, eIf, eIsN, eNotN, eMeth, R.bind, oAdd, oSub, gName, gSub, gTup, gEach, iRng1, iRng2, List.length_cons, List.length_nil, List.map_cons, List.map_nil, List.cons_append, List.nil_append, List.append_nil, List.getElem?_cons_zero, List.getElem?_cons_succ, List.set_cons_zero, List.set_cons_succ, if_true, if_false, Bool.false_eq_true, Nat.reduceAdd, Nat.reduceSub, List.replicate_succ, List.replicate_zero, Nat.zero_add, Nat.add_zero, clr, List.foldl_nil, List.foldl_cons, List.append_assoc])
/-! ### the script -/
def Scr (M : Mem) (ns : List Int) : Prop := M[0]? = some (.frz (ns.map .int))
theorem Scr.mono {M M' : Mem} {ns : List Int} (h : Scr M ns) (p : M <+: M') : Scr M' ns := pre_get p h
theorem Scr.lstOf {M : Mem} {ns : List Int} (h : Scr M ns) : lstOf M (.ref 0) = some (ns.map .int) := by
  unfold Scr at h; simp only [VM.lstOf, h]
theorem Scr.seqOf {M : Mem} {ns : List Int} (h : Scr M ns) : seqOf M (.ref 0) = some (ns.map .int) := by
  simp only [VM.seqOf, h.lstOf]
theorem Scr.len {M : Mem} {ns : List Int} (h : Scr M ns) : fLen [.ref 0] M = .ok (.int ns.length) M := by
  unfold fLen
  simp only [h.seqOf, List.length_map]
theorem at_ok (ns : List Int) (M : Mem) (k : Int) (hM : Scr M ns) (hl : ns.length ≤ 63) :
    ∃ v M', d_L_at [.ref 0, .int k] M = .ok (.int v) M' ∧ M <+: M' := by
  have key : ∃ r M', d_L_at [.ref 0, .int k] M = .ok r M' ∧ ((∃ v : Int, r = .int v) ∧ M <+: M') := by
    refine sat_fn rfl ?_
    show (sSeq _ _ [some (.ref 0), some (.int k)] M).Sat _
    have hs : newL [] M = .ok (.ref M.length) (M ++ [.lst []]) := rfl
    have hS := hM.mono (pre_app M [.lst []])
    have L := Lst.new M []
    have hq : VM.scal (.ref 0) (.ref M.length) = false := rfl
    refine sat_seq (sat_if (c := decide (ns = [])) (M1 := M ++ [.lst []]) ?_ (fun hc => ?_) fun hc => ?_)
    · walk_at "ev"
      simp only [hs, oEq, eqO, hq, hS.lstOf, L.lstOf, Bool.false_eq_true, if_false]
      cases ns with
      | nil => rfl
      | cons n r =>
        have : eqSeq ((n :: r).map W.int) [] = some false := by
          unfold eqSeq
          rw [if_pos (by simp)]
        rw [this]
        simp
    · exact sat_ret rfl ⟨⟨_, rfl⟩, pre_app _ _⟩
    · refine sat_skip ?_
      dsimp only
      have hne : ns ≠ [] := of_decide_eq_false hc
      have hpos : 0 < ns.length := List.length_pos_iff.mpr hne
      have hd : (0 : Int) < (ns.length : Int) := by omega
      have m1 := mod_ok (M := M ++ [.lst []]) (i := k) hd
      have d1 := div_ok (M := M ++ [.lst []]) (i := k) hd (by omega)
      have e1 := Int.emod_nonneg k (show (ns.length : Int) ≠ 0 by omega)
      have e2 := Int.emod_lt_of_pos k hd
      have i1 : oIx (.ref 0) (.int (k % (ns.length : Int))) (M ++ [.lst []]) = .ok (.int (nth ns (k % (ns.length : Int)))) (M ++ [.lst []]) := by
        simp only [oIx, hS.seqOf, at_nth e1 e2]
      have u1 := mul_ok (M := M ++ [.lst []]) (i := 3) (j := k / (ns.length : Int)) (by decide)
      refine sat_ret (v := .int (nth ns (k % (ns.length : Int)) + 3 * (k / (ns.length : Int)))) (M1 := M ++ [.lst []]) ?_ ⟨⟨_, rfl⟩, pre_app _ _⟩
      walk_at "ev"
      simp only [hS.len, m1, d1, i1, u1]
  obtain ⟨r, M', e, ⟨v, rfl⟩, p⟩ := key
  exact ⟨v, M', e, p⟩
/-! ### shapes -/
def amP : List (Int × Int) → AM
  | [] => aNil
  | p :: r => aCons (eTup (aCons (eC (.int p.1)) (aCons (eC (.int p.2)) aNil))) (amP r)
theorem amP_ok (σ : St) : ∀ (ps : List (Int × Int)) (M : Mem), ∃ vs M', amP ps σ M = .ok vs M' ∧ M <+: M' ∧ All2 (fun v p => Tup M' v [.int p.1, .int p.2]) vs ps
  | [], M => ⟨[], M, rfl, pre_rfl _, .nil⟩
  | p :: r, M => by
    have hn : newT [.int p.1, .int p.2] M = .ok (.ref M.length) (M ++ [.tup [.int p.1, .int p.2]]) := newT_ok (by show 2 ≤ 16777216; decide)
    obtain ⟨vs, M', e, q, a⟩ := amP_ok σ r (M ++ [.tup [.int p.1, .int p.2]])
    refine ⟨.ref M.length :: vs, M', ?_, (pre_app _ _).trans q, .cons ((Tup.new M _).mono q) a⟩
    unfold amP
    walk_at "ev"
    simp only [hn, e]
theorem pick_shape (σ : St) (M : Mem) (ps : List (Int × Int)) (hps : ps.length ≤ 100) (hb : ∀ p ∈ ps, (∃ h : Nat, p.1 = h ∧ 1 ≤ h ∧ h ≤ 3) ∧ ∃ w : Nat, p.2 = w ∧ 1 ≤ w ∧ w ≤ 3) (ei : EM) (i : Int) (h0 : 0 ≤ i) (h1 : i < ps.length) (hi : ∀ M', M <+: M' → ei σ M' = .ok (.int i) M') :
    ∃ v M' , eOp oIx (eLst (amP ps)) ei σ M = .ok v M' ∧ M <+: M' ∧ ∃ h w : Nat, Tup M' v [.int h, .int w] ∧ (1 ≤ h ∧ h ≤ 3) ∧ (1 ≤ w ∧ w ≤ 3) := by
  obtain ⟨vs, M1, e1, p1, a⟩ := amP_ok σ ps M
  have hl := a.len
  have hn : newL vs M1 = .ok (.ref M1.length) (M1 ++ [.lst vs]) := newL_ok (by omega)
  have L := Lst.new M1 vs
  have hj : i.toNat < ps.length := by omega
  have hjv : ps[i.toNat]? = some ps[i.toNat] := List.getElem?_eq_getElem hj
  obtain ⟨v, hv, ht⟩ := a.at' hjv
  obtain ⟨⟨h, eh, bh⟩, w, ew, bw⟩ := hb _ (List.getElem_mem hj)
  refine ⟨v, M1 ++ [.lst vs], ?_, p1.trans (pre_app _ _), h, w, ?_, bh, bw⟩
  · have hat : atI vs i = some v := by
      unfold atI ixN
      rw [if_pos h0, if_pos (by omega)]
      exact hv
    unfold eOp eLst
    simp only [e1, R.bind, hn, hi _ (p1.trans (pre_app _ _)), oIx, L.seqOf, hat]
  · rw [← eh, ← ew]
    exact ht.mono (pre_app _ _)
def ShapeSpec (f : CM) : Prop := ∀ (M : Mem) (ns : List Int), Scr M ns → ns.length ≤ 63 → ∃ v M', f [.ref 0] M = .ok v M' ∧ M <+: M' ∧ ∃ h w : Nat, Tup M' v [.int h, .int w] ∧ (1 ≤ h ∧ h ≤ 3) ∧ (1 ≤ w ∧ w ≤ 3)
theorem shape_of_ok (c : Int) (M : Mem) : ∃ v M', d_L_shape_of [.int c] M = .ok v M' ∧ M <+: M' ∧ ∃ h w : Nat, Tup M' v [.int h, .int w] ∧ (1 ≤ h ∧ h ≤ 3) ∧ (1 ≤ w ∧ w ≤ 3) := by
  refine sat_fn rfl ?_
  show (sRet _ [some (.int c)] M).Sat _
  obtain ⟨v, M', e, r⟩ := pick_shape [some (.int c)] M [(2, 2), (2, 3), (1, 3), (3, 1), (2, 1), (3, 2), (2, 2), (1, 1)] (by decide) (by
    intro p hp
    simp only [List.mem_cons, List.not_mem_nil, or_false] at hp
    rcases hp with rfl | rfl | rfl | rfl | rfl | rfl | rfl | rfl <;> exact ⟨⟨_, rfl, by decide⟩, _, rfl, by decide⟩)
    (eOp oMod (eVar 0) (eC (.int 8))) (c % 8) (by omega) (by show c % 8 < ((8 : Nat) : Int); omega) (fun M' _ => by
      have := mod_ok (M := M') (i := c) (j := 8) (by decide)
      walk_at "ev"; exact this)
  exact sat_ret e r
theorem cut_map (ns : List Int) (lo hi : Option Int) : cut (ns.map W.int) lo hi = (cut ns lo hi).map W.int := by
  unfold cut
  simp [List.map_drop, List.map_take]
theorem cut_len (ns : List Int) (lo hi : Option Int) : (cut ns lo hi).length ≤ ns.length := by
  unfold cut
  rw [List.length_take, List.length_drop]
  omega
theorem Scr.cut {M : Mem} {ns : List Int} (h : Scr M ns) (hl : ns.length ≤ 63) (lo hi : Option Int) : cutO (.ref 0) lo hi M = .ok (.ref M.length) (M ++ [.lst ((VM.cut ns lo hi).map .int)]) := by
  unfold cutO
  rw [h.lstOf]
  simp only [cut_map]
  exact newL_ok (by have := cut_len ns lo hi; simp; omega)
theorem shape_ok : ShapeSpec (d_L_shape_for d_L_at d_L_shape_of) := by
  intro M ns hM hl
  refine sat_fn rfl ?_
  show (sSeq _ _ [some (.ref 0)] M).Sat _
  refine sat_seq (sat_if (c := false) (M1 := M) ?_ (fun z => nomatch z) fun _ => ?_)
  · walk_at "ev"
    have e : decide ((63 : Int) < (ns.length : Int)) = false := decide_eq_false (by omega)
    simp only [hM.len, gt_int, e]
  refine sat_skip ?_
  dsimp only
  have hc := hM.cut hl none (some 1)
  have L := Lst.new M ((VM.cut ns none (some 1)).map .int)
  refine sat_seq (sat_if (c := decide ((VM.cut ns none (some 1)).sum % 32 = 9)) (M1 := M ++ [.lst ((VM.cut ns none (some 1)).map .int)]) ?_ (fun hc => ?_) fun hc => ?_)
  · have m1 := mod_ok (M := M ++ [.lst ((VM.cut ns none (some 1)).map .int)]) (i := (VM.cut ns none (some 1)).sum) (j := 32) (by decide)
    have hsum : fSum [.ref M.length] (M ++ [.lst ((VM.cut ns none (some 1)).map .int)]) = .ok (.int (VM.cut ns none (some 1)).sum) (M ++ [.lst ((VM.cut ns none (some 1)).map .int)]) := by
      unfold fSum
      simp only [L.lstOf, Option.bind, intsOf_map]
    walk_at "ev"
    simp only [eSl, pNone, pSome, R.bind, hc, hsum, m1, eq_int, eVar, eC, List.getElem?_cons_zero]
  · have hn : newT [.int 3, .int 3] (M ++ [O.lst ((VM.cut ns none (some 1)).map .int)]) = .ok (.ref (M ++ [O.lst ((VM.cut ns none (some 1)).map .int)]).length) (M ++ [O.lst ((VM.cut ns none (some 1)).map .int)] ++ [.tup [.int 3, .int 3]]) := newT_ok (by show 2 ≤ 16777216; decide)
    refine sat_ret (v := .ref (M ++ [O.lst ((VM.cut ns none (some 1)).map .int)]).length) (M1 := M ++ [O.lst ((VM.cut ns none (some 1)).map .int)] ++ [.tup [.int 3, .int 3]]) ?_ ⟨(pre_app _ _).trans (pre_app _ _), 3, 3, Tup.new _ _, by decide, by decide⟩
    simp only [eTup, aCons, aNil, eC, R.bind]
    exact hn
  · refine sat_skip ?_
    dsimp only
    obtain ⟨c, M1, e1, p1⟩ := at_ok ns (M ++ [.lst ((VM.cut ns none (some 1)).map .int)]) 0 (hM.mono (pre_app _ _)) hl
    obtain ⟨v, M2, e2, p2, r⟩ := shape_of_ok c M1
    refine sat_ret (v := v) (M1 := M2) ?_ ⟨(pre_app _ _).trans (p1.trans p2), r⟩
    walk_at "ev"
    simp only [e1, e2]
end K2
end
section
set_option linter.all false
set_option autoImplicit false
set_option maxRecDepth 100000
namespace K2
open VM
local macro_rules | `(tactic| walk_at "ev") => `(tactic| simp only [tB, tAnd, tOr, tNot, tTrue, eOp, eVar, eC, eLst, eTup, aNil, aCons, eCall, eAnd, eOr, eNot, eIf, eIsN, eNotN, eMeth, R.bind, oAdd, oSub, gName, gSub, gTup, gEach, iRng1, iRng2, List.length_cons, List.length_nil, List.map_cons, List.map_nil, List.cons_append, List.nil_append, List.append_nil, List.getElem?_cons_zero, List.getElem?_cons_succ, List.set_cons_zero, List.set_cons_succ, if_true, if_false, Bool.false_eq_true, Nat.reduceAdd, Nat.reduceSub, List.replicate_succ, List.replicate_zero, Nat.zero_add, Nat.add_zero, clr, List.foldl_nil, List.foldl_cons, List.append_assoc])
/-! ### a list that grows at its place -/
theorem own_get (M J : Mem) (o : O) : (M ++ o :: J)[M.length]? = some o := by simp
theorem own_set (M J : Mem) (o o' : O) : (M ++ o :: J).set M.length o' = M ++ o' :: J := by simp
theorem own_app (M J J2 : Mem) (o : O) : (M ++ o :: J) ++ J2 = M ++ o :: (J ++ J2) := by simp
theorem own_pre (M J : Mem) (o : O) : M <+: M ++ o :: J := ⟨o :: J, rfl⟩
theorem app_ok {σ : St} {M M1 : Mem} {a : Nat} {xs : List W} {o arg : EM} {y : W} (ho : o σ M = .ok (.ref a) M) (h : M[a]? = some (.lst xs)) (he : arg σ M = .ok y M1) (h1 : M1[a]? = some (.lst xs)) (hl : xs.length < 16777216) :
    eMeth mAppend o (aCons arg aNil) σ M = .ok .non (M1.set a (.lst (xs ++ [y]))) := by
  unfold eMeth
  rw [ho]
  simp only [R.bind, lstOf_at h, aCons, he, aNil, append_ok h1 hl]
def numE : EM := eOp oMod (eOp oAdd (eOp oAdd (eOp oMul (eVar 1) (eOp oMod (eVar 6) (eVar 0))) (eOp oDiv (eVar 6) (eVar 0))) (eVar 7)) (eVar 3)
def putE : EM := eOp oAdd (eOp oMod (eOp oAdd (eOp oMul (eVar 8) (eOp oIx (eLst (aCons (eC (.int 1)) (aCons (eOp oSub (eVar 3) (eC (.int 1))) aNil))) (eOp oMod (eOp oDiv (eVar 2) (eC (.int 5))) (eC (.int 2))))) (eVar 4)) (eVar 3)) (eC (.int 1))
def Good (s : Nat) (l : List Int) : Prop := ∀ x ∈ l, 1 ≤ x ∧ x ≤ (s : Int)
theorem Good.app {s : Nat} {l : List Int} (h : Good s l) {z : Int} (h1 : 1 ≤ z) (h2 : z ≤ s) : Good s (l ++ [z]) := fun x hx => by
  rcases List.mem_append.mp hx with q | q
  · exact h x q
  · rw [List.mem_singleton] at q; subst q; exact ⟨h1, h2⟩
theorem num_ok (h w s : Nat) (c t r k : Int) (f a b d : Option W) (hh : 1 ≤ h ∧ h ≤ 3) (hw : 1 ≤ w ∧ w ≤ 3) (hs : 1 ≤ s ∧ s ≤ 9) (M : Mem) :
    ∃ z : Int, numE [some (.int h), some (.int w), some (.int c), some (.int s), some (.int t), f, some (.int r), some (.int k), a, b, d] M = .ok (.int z) M ∧ 0 ≤ z ∧ z < s := by
  have h1 := mod_ok (M := M) (i := r) (j := h) (by omega)
  have h2 := mul_ok (M := M) (i := (w : Int)) (j := r % h) (by omega)
  have h3 := div_ok (M := M) (i := r) (j := h) (by omega) (by omega)
  have h4 := mod_ok (M := M) (i := (w : Int) * (r % h) + r / h + k) (j := s) (by omega)
  refine ⟨((w : Int) * (r % h) + r / h + k) % s, ?_, Int.emod_nonneg _ (by omega), Int.emod_lt_of_pos _ (by omega)⟩
  unfold numE
  walk_at "ev"
  simp only [h1, h2, h3, h4]
theorem put_ok (h w s : Nat) (c t r k z : Int) (f b d : Option W) (hs : 1 ≤ s ∧ s ≤ 9) (hz : 0 ≤ z ∧ z < s) (M : Mem) :
    ∃ y : Int, putE [some (.int h), some (.int w), some (.int c), some (.int s), some (.int t), f, some (.int r), some (.int k), some (.int z), b, d] M = .ok (.int y) (M ++ [.lst [.int 1, .int ((s : Int) - 1)]]) ∧ 1 ≤ y ∧ y ≤ s := by
  have hn : newL [.int 1, .int ((s : Int) - 1)] M = .ok (.ref M.length) (M ++ [.lst [.int 1, .int ((s : Int) - 1)]]) := newL_ok (by show 2 ≤ 16777216; decide)
  have L : IntL (M ++ [.lst [.int 1, .int ((s : Int) - 1)]]) (.ref M.length) [1, (s : Int) - 1] := Lst.new M _
  have h1 := div_ok (M := M ++ [.lst [.int 1, .int ((s : Int) - 1)]]) (i := c) (j := 5) (by decide) (by decide)
  have h2 := mod_ok (M := M ++ [.lst [.int 1, .int ((s : Int) - 1)]]) (i := c / 5) (j := 2) (by decide)
  have i1 := ix_ok L (i := c / 5 % 2) (by omega) (by show c / 5 % 2 < ((2 : Nat) : Int); omega)
  have h3 := mul_ok (M := M ++ [.lst [.int 1, .int ((s : Int) - 1)]]) (i := z) (j := nth [1, (s : Int) - 1] (c / 5 % 2)) (by omega)
  have h4 := mod_ok (M := M ++ [.lst [.int 1, .int ((s : Int) - 1)]]) (i := z * nth [1, (s : Int) - 1] (c / 5 % 2) + t) (j := s) (by omega)
  refine ⟨(z * nth [1, (s : Int) - 1] (c / 5 % 2) + t) % s + 1, ?_, ?_, ?_⟩
  · unfold putE
    walk_at "ev"
    simp only [hn, h1, h2, i1, h3, h4]
  · have := Int.emod_nonneg (z * nth [1, (s : Int) - 1] (c / 5 % 2) + t) (show (s : Int) ≠ 0 by omega)
    omega
  · have := Int.emod_lt_of_pos (z * nth [1, (s : Int) - 1] (c / 5 % 2) + t) (show (0 : Int) < s by omega)
    omega
def FullSpec (f : CM) : Prop := ∀ (h w : Nat) (c : Int) (M : Mem), 1 ≤ h ∧ h ≤ 3 → 1 ≤ w ∧ w ≤ 3 → ∃ v M', f [.int h, .int w, .int c] M = .ok v M' ∧ M <+: M' ∧ ∃ fs, IntL M' v fs ∧ fs.length = h * w * (h * w) ∧ Good (h * w) fs
theorem full_ok : FullSpec d_L_full_sheet := by
  intro h w c M hh hw
  refine sat_fn rfl ?_
  have hs9 : h * w ≤ 9 := Nat.le_trans (Nat.mul_le_mul hh.2 hw.2) (by decide)
  have hs1 : 1 ≤ h * w := Nat.mul_pos hh.1 hw.1
  have m1 := mul_ok (M := M) (i := (h : Int)) (j := (w : Int)) (by omega)
  have es : (h : Int) * (w : Int) = ((h * w : Nat) : Int) := by simp
  show (sSeq _ _ [some (.int h), some (.int w), some (.int c), none, none, none, none, none, none, none, none] M).Sat _
  refine sat_seq (sat_set (v := .int ((h : Int) * w)) (M1 := M) (by walk_at "ev"; simp only [m1]) ?_)
  simp only [List.set_cons_zero, List.set_cons_succ, es]
  generalize hsz : h * w = s at hs9 hs1
  have m2 := mod_ok (M := M) (i := c) (j := s) (by omega)
  refine sat_seq (sat_set (v := .int (c % s)) (M1 := M) (by walk_at "ev"; simp only [m2]) ?_)
  simp only [List.set_cons_zero, List.set_cons_succ]
  refine sat_seq (sat_set (v := .ref M.length) (M1 := M ++ [.lst []]) rfl ?_)
  simp only [List.set_cons_zero, List.set_cons_succ]
  refine sat_seq ?_
  have r1 : (s : Int).natAbs < two62 := rng_ok (by omega) (by omega)
  refine sat_rng (lo := 0) (n := s) (M1 := M ++ [.lst []]) (by walk_at "ev"; rw [if_pos r1, Int.toNat_natCast])
    (fun j σ M' => (∃ x y z, σ = [some (.int h), some (.int w), some (.int c), some (.int s), some (.int (c % s)), some (.ref M.length), x, y, z, none, none]) ∧ ∃ l J, M' = M ++ .lst (l.map .int) :: J ∧ l.length = j * s ∧ Good s l) ⟨⟨_, _, _, rfl⟩, [], [], rfl, by simp, fun x hx => by simp at hx⟩ ?_ ?_
  · rintro j σ M' hj ⟨⟨x, y, z, rfl⟩, l, J, rfl, ll, lg⟩
    simp only [List.set_cons_zero, List.set_cons_succ]
    refine sat_rng (lo := 0) (n := s) (M1 := M ++ .lst (l.map .int) :: J) (by walk_at "ev"; rw [if_pos r1, Int.toNat_natCast])
      (fun k σ M' => (∃ y z, σ = [some (.int h), some (.int w), some (.int c), some (.int s), some (.int (c % s)), some (.ref M.length), some (.int (0 + (j : Int))), y, z, none, none]) ∧ ∃ l J, M' = M ++ .lst (l.map .int) :: J ∧ l.length = j * s + k ∧ Good s l) ⟨⟨_, _, rfl⟩, l, J, rfl, by simpa using ll, lg⟩ ?_ ?_
    · rintro k σ M' hk ⟨⟨y, z, rfl⟩, l, J, rfl, ll, lg⟩
      simp only [List.set_cons_zero, List.set_cons_succ]
      obtain ⟨zz, e1, z0, z1⟩ := num_ok h w s c (c % s) (0 + (j : Int)) (0 + (k : Int)) (some (.ref M.length)) z none none hh hw ⟨hs1, hs9⟩ (M ++ .lst (l.map .int) :: J)
      refine sat_seq (sat_set (v := .int zz) (M1 := M ++ .lst (l.map .int) :: J) e1 ?_)
      simp only [List.set_cons_zero, List.set_cons_succ]
      obtain ⟨yy, e2, y0, y1⟩ := put_ok h w s c (c % s) (0 + (j : Int)) (0 + (k : Int)) zz (some (.ref M.length)) none none ⟨hs1, hs9⟩ ⟨z0, z1⟩ (M ++ .lst (l.map .int) :: J)
      have hlen : (l.map W.int).length < 16777216 := by
        have : j * s ≤ 9 * 9 := Nat.mul_le_mul (by omega) hs9
        rw [List.length_map]; omega
      have a1 := app_ok (σ := [some (.int h), some (.int w), some (.int c), some (.int s), some (.int (c % s)), some (.ref M.length), some (.int (0 + (j : Int))), some (.int (0 + (k : Int))), some (.int zz), none, none]) (o := eVar 5) rfl (own_get M J _) e2 (by rw [own_app]; exact own_get M _ _) hlen
      rw [own_app, own_set] at a1
      refine sat_expr a1 ?_
      refine ⟨⟨_, _, rfl⟩, l ++ [yy], J ++ [.lst [.int 1, .int ((s : Int) - 1)]], by simp, ?_, lg.app y0 y1⟩
      rw [List.length_append, ll]
      simp only [List.length_cons, List.length_nil]
      omega
    · rintro σ M' ⟨⟨y, z, rfl⟩, l, J, rfl, ll, lg⟩
      exact ⟨⟨_, _, _, rfl⟩, l, J, rfl, by rw [ll, Nat.succ_mul], lg⟩
  · rintro σ M' ⟨⟨x, y, z, rfl⟩, l, J, rfl, ll, lg⟩
    dsimp only
    generalize hM2 : M ++ O.lst (l.map .int) :: J = M2
    have p2 : M <+: M2 := by rw [← hM2]; exact own_pre _ _ _
    have L2 : IntL M2 (.ref M.length) l := ⟨_, rfl, by rw [← hM2]; exact own_get M J _⟩
    refine sat_seq ?_
    have d7 := div_ok (M := M2) (i := c) (j := 7) (by decide) (by decide)
    have q7 := mod_ok (M := M2) (i := c / 7) (j := 2) (by decide)
    refine sat_if (c := decide (c / 7 % 2 = 1) && decide (h = w)) (M1 := M2) ?_ (fun _ => ?_) fun _ => ?_
    · walk_at "ev"
      simp only [d7, q7, eq_int]
      have : decide ((h : Int) = w) = decide (h = w) := by rw [Bool.eq_iff_iff, decide_eq_true_iff, decide_eq_true_iff]; omega
      rw [this]
      cases decide (c / 7 % 2 = 1) <;> rfl
    · refine sat_seq (sat_set (v := .ref M2.length) (M1 := M2 ++ [.lst []]) rfl ?_)
      simp only [List.set_cons_zero, List.set_cons_succ]
      refine sat_seq ?_
      have m3 := mul_ok (M := M2 ++ [.lst []]) (i := (s : Int)) (j := (s : Int)) (by omega)
      have es2 : (s : Int) * (s : Int) = ((s * s : Nat) : Int) := by simp
      have hss : s * s ≤ 9 * 9 := Nat.mul_le_mul hs9 hs9
      have r2 : ((s * s : Nat) : Int).natAbs < two62 := rng_ok (by omega) (by omega)
      refine sat_rng (lo := 0) (n := s * s) (M1 := M2 ++ [.lst []]) (by walk_at "ev"; simp only [m3]; rw [es2, if_pos r2, Int.toNat_natCast])
        (fun j σ M' => (∃ u, σ = [some (.int h), some (.int w), some (.int c), some (.int s), some (.int (c % s)), some (.ref M.length), x, y, z, some (.ref M2.length), u]) ∧ ∃ l, M' = M2 ++ [.lst (l.map .int)] ∧ l.length = j ∧ Good s l) ⟨⟨_, rfl⟩, [], rfl, rfl, fun x hx => by simp at hx⟩ ?_ ?_
      · rintro j σ M' hj ⟨⟨u, rfl⟩, l2, rfl, ll2, lg2⟩
        simp only [List.set_cons_zero, List.set_cons_succ]
        have ez : (0 : Int) + (j : Int) = (j : Int) := by omega
        have n1 := mod_ok (M := M2 ++ [.lst (l2.map .int)]) (i := (j : Int)) (j := (s : Int)) (by omega)
        have n2 := mul_ok (M := M2 ++ [.lst (l2.map .int)]) (i := (j : Int) % (s : Int)) (j := (s : Int)) (by
          have a := Int.emod_nonneg (j : Int) (show (s : Int) ≠ 0 by omega)
          have b := Int.emod_lt_of_pos (j : Int) (show (0 : Int) < s by omega)
          omega)
        have n3 := div_ok (M := M2 ++ [.lst (l2.map .int)]) (i := (j : Int)) (j := (s : Int)) (by omega) (by omega)
        have e3 : (j : Int) % (s : Int) * (s : Int) + (j : Int) / (s : Int) = ((j % s * s + j / s : Nat) : Int) := by simp
        have b3 : j % s * s + j / s < s * s := by
          have a := Nat.mod_lt j hs1
          have b : j / s < s := Nat.div_lt_of_lt_mul hj
          have d : (j % s + 1) * s ≤ s * s := Nat.mul_le_mul_right s a
          rw [Nat.succ_mul] at d
          omega
        have i3 := ix_ok (L2.mono (pre_app M2 [.lst (l2.map .int)])) (i := ((j % s * s + j / s : Nat) : Int)) (Int.natCast_nonneg _) (by rw [ll]; exact Int.ofNat_lt.mpr b3)
        have ge : eOp oIx (eVar 5) (eOp oAdd (eOp oMul (eOp oMod (eVar 10) (eVar 3)) (eVar 3)) (eOp oDiv (eVar 10) (eVar 3))) [some (.int h), some (.int w), some (.int c), some (.int s), some (.int (c % s)), some (.ref M.length), x, y, z, some (.ref M2.length), some (.int (0 + (j : Int)))] (M2 ++ [.lst (l2.map .int)]) = .ok (.int (nth l ((j % s * s + j / s : Nat) : Int))) (M2 ++ [.lst (l2.map .int)]) := by
          walk_at "ev"
          simp only [ez, n1, n2, n3, e3, i3]
        have a1 := app_ok (o := eVar 9) rfl (get_last M2 _) ge (get_last M2 _) (by rw [List.length_map]; omega)
        rw [set_last] at a1
        refine sat_expr a1 ?_
        have hm := nth_mem (fs := l) (i := ((j % s * s + j / s : Nat) : Int)) (Int.natCast_nonneg _) (by rw [ll]; exact Int.ofNat_lt.mpr b3)
        exact ⟨⟨_, rfl⟩, l2 ++ [nth l ((j % s * s + j / s : Nat) : Int)], by simp, by rw [List.length_append, ll2]; rfl, lg2.app (lg _ hm).1 (lg _ hm).2⟩
      · rintro σ M' ⟨⟨u, rfl⟩, l2, rfl, ll2, lg2⟩
        dsimp only
        refine sat_set (v := .ref M2.length) (M1 := M2 ++ [.lst (l2.map .int)]) rfl ?_
        simp only [List.set_cons_zero, List.set_cons_succ]
        refine sat_ret (v := .ref M2.length) (M1 := M2 ++ [.lst (l2.map .int)]) rfl ?_
        exact ⟨p2.trans (pre_app _ _), l2, Lst.new _ _, ll2, lg2⟩
    · refine sat_skip ?_
      dsimp only
      exact sat_ret (v := .ref M.length) (M1 := M2) rfl ⟨p2, l, L2, ll, lg⟩
/-! ### the sheet -/
theorem by_ok (M : Mem) (vf vc : W) (fs cs : List Int) (sh : Int) (hf : IntL M vf fs) (hc : IntL M vc cs) (hl : fs.length ≤ 81) : ∃ v M', d_L_sheet_by [vf, vc, .int sh] M = .ok v M' ∧ M <+: M' ∧ ∃ ss, IntL M' v ss ∧ ss.length = fs.length ∧ ∀ j : Nat, j < fs.length → (nth ss j = 0 ∨ nth ss j = nth fs j) := by
  refine sat_fn rfl ?_
  show (sSeq _ _ [some vf, some vc, some (.int sh), none, none, none] M).Sat _
  refine sat_seq (sat_set (v := .ref M.length) (M1 := M ++ [.lst []]) rfl ?_)
  simp only [List.set_cons_zero, List.set_cons_succ]
  refine sat_seq ?_
  have r1 : (fs.length : Int).natAbs < two62 := rng_ok (by omega) (by omega)
  refine sat_rng (lo := 0) (n := fs.length) (M1 := M ++ [.lst []]) (by walk_at "ev"; simp only [len_ok (Lst.mono hf (pre_app M _))]; rw [if_pos r1, Int.toNat_natCast])
    (fun j σ M' => (∃ x y, σ = [some vf, some vc, some (.int sh), some (.ref M.length), x, y]) ∧ ∃ l, M' = M ++ [.lst (l.map .int)] ∧ l.length = j ∧ ∀ i : Nat, i < j → (nth l i = 0 ∨ nth l i = nth fs i)) ⟨⟨_, _, rfl⟩, [], rfl, rfl, fun i hi => by omega⟩ ?_ ?_
  · rintro j σ M' hj ⟨⟨x, y, rfl⟩, l, rfl, ll, lg⟩
    simp only [List.set_cons_zero, List.set_cons_succ]
    have ez : (0 : Int) + (j : Int) = (j : Int) := by omega
    have F := Lst.mono hf (pre_app M [.lst (l.map .int)])
    have C := Lst.mono hc (pre_app M [.lst (l.map .int)])
    refine sat_seq (sat_set (v := .int 0) (M1 := M ++ [.lst (l.map .int)]) rfl ?_)
    simp only [List.set_cons_zero, List.set_cons_succ]
    have step : ∀ cell : Int, (sExpr (eMeth mAppend (eVar 3) (aCons (eOp oMul (eOp oIx (eVar 0) (eVar 4)) (eCall fInt (aCons (eOp oGe (eOp oMod (eOp oAdd (eVar 5) (eVar 4)) (eC (.int 7))) (eVar 2)) aNil))) aNil)) [some vf, some vc, some (.int sh), some (.ref M.length), some (.int (0 + (j : Int))), some (.int cell)] (M ++ [.lst (l.map .int)])).Sat
        { nx := fun σ M' => (∃ x y, σ = [some vf, some vc, some (.int sh), some (.ref M.length), x, y]) ∧ ∃ l, M' = M ++ [.lst (l.map .int)] ∧ l.length = j + 1 ∧ ∀ i : Nat, i < j + 1 → (nth l i = 0 ∨ nth l i = nth fs i), rt := fun _ _ => False } := by
      intro cell
      have i1 := ix_ok F (i := (j : Int)) (by omega) (by omega)
      have m1 := mod_ok (M := M ++ [.lst (l.map .int)]) (i := cell + (j : Int)) (j := 7) (by decide)
      have hone : ∀ b : Bool, (if b then (1 : Int) else 0).natAbs ≤ 1000000 := fun b => by cases b <;> decide
      have m2 : ∀ b : Bool, oMul (.int (nth fs j)) (.int (if b then 1 else 0)) (M ++ [.lst (l.map .int)]) = .ok (.int (nth fs j * (if b then 1 else 0))) (M ++ [.lst (l.map .int)]) := fun b => if_pos (.inr (by have := hone b; unfold two64; omega))
      have ge : eOp oMul (eOp oIx (eVar 0) (eVar 4)) (eCall fInt (aCons (eOp oGe (eOp oMod (eOp oAdd (eVar 5) (eVar 4)) (eC (.int 7))) (eVar 2)) aNil)) [some vf, some vc, some (.int sh), some (.ref M.length), some (.int (0 + (j : Int))), some (.int cell)] (M ++ [.lst (l.map .int)]) = .ok (.int (nth fs j * (if decide (sh ≤ (cell + (j : Int)) % 7) then 1 else 0))) (M ++ [.lst (l.map .int)]) := by
        walk_at "ev"
        simp only [ez, i1, m1, ge_int, fInt, m2]
      have a1 := app_ok (o := eVar 3) rfl (get_last M _) ge (get_last M _) (by rw [List.length_map]; omega)
      rw [set_last] at a1
      refine sat_expr a1 ⟨⟨_, _, rfl⟩, l ++ [nth fs j * (if decide (sh ≤ (cell + (j : Int)) % 7) then 1 else 0)], by simp, by rw [List.length_append, ll]; rfl, fun i hi => ?_⟩
      by_cases q : i < j
      · have := lg i q
        have e : nth (l ++ [nth fs j * (if decide (sh ≤ (cell + (j : Int)) % 7) then 1 else 0)]) i = nth l i := by
          have h1 : i < l.length := by omega
          rw [nth_nat h1, nth_nat (by rw [List.length_append]; omega), List.getElem_append_left h1]
        rw [e]; exact this
      · have q' : i = l.length := by omega
        subst q'
        rw [nth_nat (j := l.length) (by simp)]
        simp only [List.getElem_concat_length]
        rw [← ll]
        split
        · right; omega
        · left; omega
    refine sat_seq (sat_if (c := decide ((j : Int) < (cs.length : Int))) (M1 := M ++ [.lst (l.map .int)]) ?_ (fun hc2 => ?_) fun _ => ?_)
    · walk_at "ev"
      simp only [ez, len_ok C, lt_int]
    · have hb : (j : Int) < (cs.length : Int) := of_decide_eq_true hc2
      refine sat_set (v := .int (nth cs j)) (M1 := M ++ [.lst (l.map .int)]) (by walk_at "ev"; simp only [ez]; exact ix_ok C (by omega) hb) ?_
      simp only [List.set_cons_zero, List.set_cons_succ]
      exact RS.Sat.mono (step _) (fun _ _ q => q) (fun _ _ q => q.elim) (fun _ _ q => q.elim) (fun _ _ q => q.elim)
    · refine sat_skip ?_
      dsimp only
      exact RS.Sat.mono (step _) (fun _ _ q => q) (fun _ _ q => q.elim) (fun _ _ q => q.elim) (fun _ _ q => q.elim)
  · rintro σ M' ⟨⟨x, y, rfl⟩, l, rfl, ll, lg⟩
    dsimp only
    refine sat_ret (v := .ref M.length) (M1 := M ++ [.lst (l.map .int)]) rfl ?_
    exact ⟨pre_app M [.lst (l.map .int)], l, Lst.new M (l.map .int), ll, lg⟩
end K2
end
section
set_option linter.all false
set_option autoImplicit false
set_option maxRecDepth 100000
namespace K2
open VM
local macro_rules | `(tactic| walk_at "ev") => `(tactic| simp only [tB, tAnd, tOr, tNot, tTrue, eOp, eVar, eC, eLst, eTup, aNil, aCons, eCall, eAnd, eOr, eNot, eIf, eIsN, eNotN, eMeth, R.bind, oAdd, oSub, gName, gSub, gTup, gEach, iRng1, iRng2, List.length_cons, List.length_nil, List.map_cons, List.map_nil, List.cons_append, List.nil_append, List.append_nil, List.getElem?_cons_zero, List.getElem?_cons_succ, List.set_cons_zero, List.set_cons_succ, if_true, if_false, Bool.false_eq_true, Nat.reduceAdd, Nat.reduceSub, List.replicate_succ, List.replicate_zero, Nat.zero_add, Nat.add_zero, clr, List.foldl_nil, List.foldl_cons, List.append_assoc])
/-! ### the law's groups -/
theorem comp_nils {i : Nat} : ∀ (xs : List W) (σ : St) (M : Mem) (acc : List W), comp [] (gName i) tTrue (eLst aNil) (xs.map .val) σ M acc = .ok (acc ++ (List.range' M.length xs.length).map .ref) (M ++ List.replicate xs.length (.lst []))
  | [], σ, M, acc => by
    rw [List.map_nil, comp, if_pos (show Chk.ok [] M = true from rfl)]; simp
  | x :: r, σ, M, acc => by
    rw [List.map_cons, comp, if_pos (show Chk.ok [] M = true from rfl)]
    have hn : newL [] M = .ok (.ref M.length) (M ++ [.lst []]) := rfl
    simp only [Src.get, R.bind, gName, tTrue, if_true, eLst, aNil, hn]
    have := comp_nils (i := i) r (σ.set i (some x)) (M ++ [.lst []]) (acc ++ [.ref M.length])
    unfold eLst aNil at this
    simp only [R.bind] at this
    refine this.trans ?_
    simp [List.range'_succ, List.replicate_succ]
def enc (A : List (List Int)) : Mem := A.map fun l => O.lst (l.map .int)
theorem enc_get (M K : Mem) (A : List (List Int)) (g : Nat) (hg : g < A.length) : (M ++ (enc A ++ K))[M.length + g]? = some (.lst ((A[g]).map .int)) := by
  rw [List.getElem?_append_right (by omega), Nat.add_sub_cancel_left, List.getElem?_append_left (by simpa [enc] using hg)]
  simp [enc, hg]
theorem enc_set (M K : Mem) (A : List (List Int)) (g : Nat) (l : List Int) (hg : g < A.length) : (M ++ (enc A ++ K)).set (M.length + g) (.lst (l.map .int)) = M ++ (enc (A.set g l) ++ K) := by
  rw [List.set_append_right _ _ (by omega), Nat.add_sub_cancel_left, List.set_append_left _ _ (by simpa [enc] using hg)]
  simp [enc, List.map_set]
def addTo (p : Int) (A : List (List Int)) (g : Nat) : List (List Int) := A.set g (A.getD g [] ++ [p])
theorem addTo_len (p : Int) (A : List (List Int)) (g : Nat) : (addTo p A g).length = A.length := by simp [addTo]
def gsOf (h w p : Nat) : List Nat := [p / (h * w), h * w + p % (h * w), 2 * (h * w) + (p / (h * w) / h * h + p % (h * w) / w)]
def AG (h w n : Nat) : List (List Int) := (List.range n).foldl (fun A (p : Nat) => (gsOf h w p).foldl (addTo (p : Int)) A) (List.replicate (3 * (h * w)) [])
theorem AG_succ (h w n : Nat) : AG h w (n + 1) = (gsOf h w n).foldl (addTo (n : Int)) (AG h w n) := by
  unfold AG
  rw [List.range_succ, List.foldl_append]
  rfl
theorem foldTo_len (p : Int) : ∀ (gs : List Nat) (A : List (List Int)), (gs.foldl (addTo p) A).length = A.length
  | [], _ => rfl
  | g :: r, A => by rw [List.foldl_cons, foldTo_len p r, addTo_len]
theorem AG_len (h w n : Nat) : (AG h w n).length = 3 * (h * w) := by
  induction n with
  | zero => simp [AG]
  | succ n ih => rw [AG_succ, foldTo_len, ih]
theorem AG_grps {h w : Nat} (hh : 1 ≤ h ∧ h ≤ 3) (hw : 1 ≤ w ∧ w ≤ 3) : AG h w (h * w * (h * w)) = grps h w := by
  rcases h3 hh with rfl | rfl | rfl <;> rcases h3 hw with rfl | rfl | rfl <;> decide +kernel
theorem gs_in {h w p : Nat} (hh : 1 ≤ h ∧ h ≤ 3) (hw : 1 ≤ w ∧ w ≤ 3) (hp : p < h * w * (h * w)) : ∀ g ∈ gsOf h w p, g < 3 * (h * w) := by
  intro g hg
  simp only [gsOf, List.mem_cons, List.not_mem_nil, or_false] at hg
  rcases h3 hh with rfl | rfl | rfl <;> rcases h3 hw with rfl | rfl | rfl <;> simp at hp hg ⊢ <;> omega
theorem All2.of_get {α β : Type} {R : α → β → Prop} : ∀ {l : List α} {m : List β}, l.length = m.length → (∀ (i : Nat) x y, l[i]? = some x → m[i]? = some y → R x y) → All2 R l m
  | [], [], _, _ => .nil
  | x :: l, y :: m, h, f => .cons (f 0 x y rfl rfl) (All2.of_get (by simpa using h) fun i a b ha hb => f (i + 1) a b (by simpa using ha) (by simpa using hb))
  | [], _ :: _, h, _ => by simp at h
  | _ :: _, [], h, _ => by simp at h
theorem all_groups_ok : GroupsSpec d_L_all_groups := by
  intro h w M hh hw
  refine sat_fn rfl ?_
  have hs9 : h * w ≤ 9 := Nat.le_trans (Nat.mul_le_mul hh.2 hw.2) (by decide)
  have hs1 : 1 ≤ h * w := Nat.mul_pos hh.1 hw.1
  have m1 := mul_ok (M := M) (i := (h : Int)) (j := (w : Int)) (by omega)
  have es : (h : Int) * (w : Int) = ((h * w : Nat) : Int) := by simp
  show (sSeq _ _ [some (.int h), some (.int w), none, none, none, none, none, none, none] M).Sat _
  refine sat_seq (sat_set (v := .int ((h : Int) * w)) (M1 := M) (by walk_at "ev"; simp only [m1]) ?_)
  simp only [List.set_cons_zero, List.set_cons_succ, es]
  have gi : ∀ p, p < h * w * (h * w) → ∀ g ∈ gsOf h w p, g < 3 * (h * w) := fun p hp => gs_in hh hw hp
  have hag := AG_len h w
  have agr := AG_grps hh hw
  have ags := AG_succ h w
  have gsd : ∀ p, gsOf h w p = [p / (h * w), h * w + p % (h * w), 2 * (h * w) + (p / (h * w) / h * h + p % (h * w) / w)] := fun p => rfl
  have ag0 : AG h w 0 = List.replicate (3 * (h * w)) [] := rfl
  generalize hsz : h * w = s at hs9 hs1 gi hag agr gsd ag0
  have m3 := mul_ok (M := M) (i := (3 : Int)) (j := (s : Int)) (by decide)
  have e3 : (3 : Int) * (s : Int) = ((3 * s : Nat) : Int) := by simp
  have r3 : ((3 * s : Nat) : Int).natAbs < two62 := rng_ok (by omega) (by omega)
  have hrefs : ((List.range' M.length (3 * s)).map W.ref).length = 3 * s := by simp
  have hc : eComp 1 [] (iRng1 (eOp oMul (eC (.int 3)) (eVar 2))) (gName 9) tTrue (eLst aNil) [some (.int h), some (.int w), some (.int s), none, none, none, none, none, none] M = .ok (.ref (M.length + 3 * s)) (M ++ (enc (AG h w 0) ++ [.lst ((List.range' M.length (3 * s)).map .ref)])) := by
    unfold eComp
    have hi : iRng1 (eOp oMul (eC (.int 3)) (eVar 2)) [some (.int h), some (.int w), some (.int s), none, none, none, none, none, none] M = .ok (rng 0 (3 * s), []) M := by
      walk_at "ev"
      simp only [m3]
      rw [e3, if_pos r3, Int.toNat_natCast]
    rw [hi]
    simp only [R.bind, rng_intsW]
    rw [comp_nils]
    have hl : (intsW 0 (3 * s)).length = 3 * s := by simp [intsW]
    rw [hl]
    simp only [R.bind, List.nil_append]
    rw [newL_ok (by omega), ag0]
    have e4 : enc (List.replicate (3 * s) []) = List.replicate (3 * s) (.lst []) := by simp [enc]
    rw [e4, List.length_append, List.length_replicate, List.append_assoc]
  refine sat_seq (sat_set hc ?_)
  simp only [List.set_cons_zero, List.set_cons_succ]
  refine sat_seq ?_
  generalize hM1 : M ++ (enc (AG h w 0) ++ [.lst ((List.range' M.length (3 * s)).map .ref)]) = M1
  have m4 := mul_ok (M := M1) (i := (s : Int)) (j := (s : Int)) (by omega)
  have e5 : (s : Int) * (s : Int) = ((s * s : Nat) : Int) := by simp
  have hss : s * s ≤ 9 * 9 := Nat.mul_le_mul hs9 hs9
  have r5 : ((s * s : Nat) : Int).natAbs < two62 := rng_ok (by omega) (by omega)
  have grefs : ∀ (A : List (List Int)) (J : Mem), A.length = 3 * s → (M ++ (enc A ++ .lst ((List.range' M.length (3 * s)).map .ref) :: J))[M.length + 3 * s]? = some (.lst ((List.range' M.length (3 * s)).map .ref)) := fun A J hA => by
    rw [List.getElem?_append_right (by omega), Nat.add_sub_cancel_left, List.getElem?_append_right (by simp [enc, hA])]
    simp [enc, hA]
  refine sat_rng (lo := 0) (n := s * s) (M1 := M1) (by walk_at "ev"; simp only [m4]; rw [e5, if_pos r5, Int.toNat_natCast])
    (fun p σ M' => (∃ a b c d e, σ = [some (.int h), some (.int w), some (.int s), some (.ref (M.length + 3 * s)), a, b, c, d, e]) ∧ ∃ J, M' = M ++ (enc (AG h w p) ++ .lst ((List.range' M.length (3 * s)).map .ref) :: J) ∧ ∀ l ∈ AG h w p, l.length ≤ 3 * p) ⟨⟨_, _, _, _, _, rfl⟩, [], hM1.symm, fun l hl => by rw [ag0] at hl; rw [List.eq_of_mem_replicate hl]; simp⟩ ?_ ?_
  · rintro p σ M' hp ⟨⟨a, b, c, d, e, rfl⟩, J, rfl, hlen⟩
    simp only [List.set_cons_zero, List.set_cons_succ]
    have ez : (0 : Int) + (p : Int) = (p : Int) := by omega
    generalize hM2 : M ++ (enc (AG h w p) ++ .lst ((List.range' M.length (3 * s)).map .ref) :: J) = M2
    have d1 := div_ok (M := M2) (i := (p : Int)) (j := (s : Int)) (by omega) (by omega)
    have d2 := mod_ok (M := M2) (i := (p : Int)) (j := (s : Int)) (by omega)
    have c1 : (p : Int) / (s : Int) = ((p / s : Nat) : Int) := by simp
    have c2 : (p : Int) % (s : Int) = ((p % s : Nat) : Int) := by simp
    refine sat_seq (sat_set (v := .int (p / s : Nat)) (M1 := M2) (by walk_at "ev"; simp only [ez, d1, c1]) ?_)
    simp only [List.set_cons_zero, List.set_cons_succ]
    refine sat_seq (sat_set (v := .int (p % s : Nat)) (M1 := M2) (by walk_at "ev"; simp only [ez, d2, c2]) ?_)
    simp only [List.set_cons_zero, List.set_cons_succ]
    have d3 := div_ok (M := M2) (i := ((p / s : Nat) : Int)) (j := (h : Int)) (by omega) (by omega)
    have d4 := div_ok (M := M2) (i := ((p % s : Nat) : Int)) (j := (w : Int)) (by omega) (by omega)
    have d5 : oMul (.int (((p / s : Nat) : Int) / (h : Int))) (.int h) M2 = .ok (.int (((p / s : Nat) : Int) / (h : Int) * h)) M2 := if_pos (.inr (by unfold two64; omega))
    have c3 : ((p / s : Nat) : Int) / (h : Int) * h + ((p % s : Nat) : Int) / (w : Int) = ((p / s / h * h + p % s / w : Nat) : Int) := by simp
    refine sat_seq (sat_set (v := .int (p / s / h * h + p % s / w : Nat)) (M1 := M2) (by walk_at "ev"; simp only [d3, d4, d5, c3]) ?_)
    simp only [List.set_cons_zero, List.set_cons_succ]
    have d6 := mul_ok (M := M2) (i := 2) (j := (s : Int)) (by decide)
    have hn : newL ((gsOf h w p).map fun (g : Nat) => W.int g) M2 = .ok (.ref M2.length) (M2 ++ [.lst ((gsOf h w p).map fun (g : Nat) => W.int g)]) := newL_ok (by rw [gsd]; show 3 ≤ 16777216; decide)
    have hle : eLst (aCons (eVar 5) (aCons (eOp oAdd (eVar 2) (eVar 6)) (aCons (eOp oAdd (eOp oMul (eC (.int 2)) (eVar 2)) (eVar 7)) aNil))) [some (.int h), some (.int w), some (.int s), some (.ref (M.length + 3 * s)), some (.int (0 + (p : Int))), some (.int (p / s : Nat)), some (.int (p % s : Nat)), some (.int (p / s / h * h + p % s / w : Nat)), e] M2 = .ok (.ref M2.length) (M2 ++ [.lst ((gsOf h w p).map fun (g : Nat) => W.int g)]) := by
      rw [← hn]
      unfold eLst
      have c4 : (s : Int) + ((p % s : Nat) : Int) = ((s + p % s : Nat) : Int) := by simp
      have c5 : (2 : Int) * (s : Int) + ((p / s / h * h + p % s / w : Nat) : Int) = ((2 * s + (p / s / h * h + p % s / w) : Nat) : Int) := by simp
      walk_at "ev"
      simp only [d6, R.bind, c4, c5, gsd, List.map_cons, List.map_nil]
    have hgl : (gsOf h w p).length = 3 := rfl
    have hgm : ∀ (k : Nat) (g : Nat), (gsOf h w p)[k]? = some g → g < 3 * s := fun k g hg => gi p hp g (List.mem_of_getElem? hg)
    have foldt : ∀ k g, (gsOf h w p)[k]? = some g → (((gsOf h w p).take (k + 1)).foldl (addTo (p : Int)) (AG h w p)) = addTo (p : Int) (((gsOf h w p).take k).foldl (addTo (p : Int)) (AG h w p)) g := fun k g hg => by
      rw [List.take_succ, hg, List.foldl_append]; rfl
    refine sat_lst (v := .ref M2.length) (xs := (gsOf h w p).map fun (g : Nat) => W.int g) hle (Lst.new _ _)
      (fun k σ M' => (∃ e, σ = [some (.int h), some (.int w), some (.int s), some (.ref (M.length + 3 * s)), some (.int (0 + (p : Int))), some (.int (p / s : Nat)), some (.int (p % s : Nat)), some (.int (p / s / h * h + p % s / w : Nat)), e]) ∧ M' = M ++ (enc (((gsOf h w p).take k).foldl (addTo (p : Int)) (AG h w p)) ++ .lst ((List.range' M.length (3 * s)).map .ref) :: (J ++ [.lst ((gsOf h w p).map fun (g : Nat) => W.int g)])) ∧ ∀ l ∈ ((gsOf h w p).take k).foldl (addTo (p : Int)) (AG h w p), l.length ≤ 3 * p + k)
      ⟨⟨_, rfl⟩, by rw [← hM2]; simp, fun l hl => hlen l hl⟩ ?_ ?_ ?_
    · rintro k σ M' hk ⟨_, rfl, _⟩
      refine ⟨_, rfl, ?_⟩
      rw [← hM2]
      have q1 : M ++ (enc (((gsOf h w p).take k).foldl (addTo (p : Int)) (AG h w p)) ++ .lst ((List.range' M.length (3 * s)).map .ref) :: (J ++ [.lst ((gsOf h w p).map fun (g : Nat) => W.int g)])) = (M ++ (enc (((gsOf h w p).take k).foldl (addTo (p : Int)) (AG h w p)) ++ .lst ((List.range' M.length (3 * s)).map .ref) :: J)) ++ [.lst ((gsOf h w p).map fun (g : Nat) => W.int g)] := by simp
      rw [q1, List.getElem?_append_right (by simp [enc, foldTo_len])]
      simp [enc, foldTo_len]
    · rintro k x σ M' hx ⟨⟨e, rfl⟩, rfl, hlk⟩
      simp only [List.set_cons_zero, List.set_cons_succ]
      rw [List.getElem?_map] at hx
      cases eg : (gsOf h w p)[k]? with
      | none => rw [eg] at hx; cases hx
      | some g =>
        rw [eg] at hx
        have ex : x = .int g := (Option.some.inj hx).symm
        subst ex
        have gl := hgm k g eg
        have k3 : k < 3 := by have := (List.getElem?_eq_some_iff.mp eg).1; omega
        generalize hA : ((gsOf h w p).take k).foldl (addTo (p : Int)) (AG h w p) = A at hlk
        have hAl : A.length = 3 * s := by rw [← hA, foldTo_len, hag]
        have gA : g < A.length := by omega
        generalize hK : O.lst ((List.range' M.length (3 * s)).map .ref) :: (J ++ [.lst ((gsOf h w p).map fun (g : Nat) => W.int g)]) = K
        have ix : oIx (.ref (M.length + 3 * s)) (.int g) (M ++ (enc A ++ K)) = .ok (.ref (M.length + g)) (M ++ (enc A ++ K)) := by
          have q := grefs A (J ++ [.lst ((gsOf h w p).map fun (g : Nat) => W.int g)]) hAl
          rw [hK] at q
          have hat : atI ((List.range' M.length (3 * s)).map W.ref) (g : Int) = some (.ref (M.length + g)) := by
            unfold atI ixN
            rw [if_pos (by omega), if_pos (by rw [hrefs]; omega)]
            simp [gl]
          simp only [oIx, seqOf_at q, hat]
        have hAg : A[g].length ≤ 3 * p + k := hlk _ (List.getElem_mem gA)
        have a1 := app_ok (σ := [some (.int h), some (.int w), some (.int s), some (.ref (M.length + 3 * s)), some (.int (0 + (p : Int))), some (.int (p / s : Nat)), some (.int (p % s : Nat)), some (.int (p / s / h * h + p % s / w : Nat)), some (.int g)]) (o := eOp oIx (eVar 3) (eVar 8)) (arg := eVar 4) (by walk_at "ev"; exact ix) (enc_get M K A g gA) (show _ = R.ok (.int (0 + (p : Int))) _ from rfl) (enc_get M K A g gA) (by rw [List.length_map]; omega)
        have e6 : (A[g].map W.int ++ [W.int (0 + (p : Int))]) = (A.getD g [] ++ [(p : Int)]).map .int := by
          simp [List.getD, gA]
        rw [e6, enc_set M K A g _ gA] at a1
        refine sat_expr a1 ?_
        refine ⟨⟨_, rfl⟩, ?_, ?_⟩
        · rw [foldt k g eg, hA]; rfl
        · rw [foldt k g eg, hA]
          intro l hl
          unfold addTo at hl
          rcases List.mem_or_eq_of_mem_set hl with q | q
          · have := hlk l q; omega
          · subst q
            simp [List.getD, gA]
            omega
    · rintro σ M' ⟨⟨e, rfl⟩, rfl, hlk⟩
      have e7 : (gsOf h w p).take ((gsOf h w p).map fun (g : Nat) => W.int g).length = gsOf h w p := by rw [List.length_map, List.take_length]
      rw [e7] at hlk
      refine ⟨⟨_, _, _, _, _, rfl⟩, J ++ [.lst ((gsOf h w p).map fun (g : Nat) => W.int g)], by rw [e7, ← ags], ?_⟩
      rw [ags]
      intro l hl
      have := hlk l hl
      rw [List.length_map, hgl] at this
      omega
  · rintro σ M' ⟨⟨a, b, c, d, e, rfl⟩, J, rfl, hlen⟩
    dsimp only
    refine sat_ret (v := .ref (M.length + 3 * s)) (M1 := M ++ (enc (AG h w (s * s)) ++ .lst ((List.range' M.length (3 * s)).map .ref) :: J)) rfl ?_
    refine ⟨pre_app _ _, (List.range' M.length (3 * s)).map .ref, ⟨_, rfl, grefs _ J (hag _)⟩, ?_⟩
    have hgl : (grps h w).length = 3 * s := by rw [← agr, hag]
    rw [agr]
    refine All2.of_get (by rw [hrefs, hgl]) fun i x y hx hy => ?_
    obtain ⟨hi, ey⟩ := List.getElem?_eq_some_iff.mp hy
    have hi2 : i < 3 * s := by omega
    have ex : x = .ref (M.length + i) := by simp [hi2] at hx; exact hx.symm
    subst ex
    refine ⟨_, rfl, ?_⟩
    rw [enc_get M _ _ i hi, ey]
end K2
end
section
set_option linter.all false
set_option autoImplicit false
set_option maxRecDepth 100000
namespace VM
theorem sat_while_step {t : TM} {body : SM} {k : Nat} {σ : St} {M M1 : Mem} {q : Post} (ht : t σ M = .ok true M1) (hb : (body σ M1).Sat { nx := fun σ' M' => (whileN t body k σ' M').Sat q, ct := fun σ' M' => (whileN t body k σ' M').Sat q, bk := q.nx, rt := q.rt }) : (whileN t body (k + 1) σ M).Sat q := by
  rw [whileN, ht]
  simp only [R.bindS, if_true]
  cases e : body σ M1 with
  | nx σ' M' => rw [e] at hb; exact hb
  | rt v M' => rw [e] at hb; exact hb
  | bk σ' M' => rw [e] at hb; exact hb
  | ct σ' M' => rw [e] at hb; exact hb
  | ex v M' => rw [e] at hb; exact hb
  | bad => rw [e] at hb; exact hb
theorem sat_while_end {t : TM} {body : SM} {k : Nat} {σ : St} {M M1 : Mem} {q : Post} (ht : t σ M = .ok false M1) (h : q.nx σ M1) : (whileN t body (k + 1) σ M).Sat q := by
  rw [whileN, ht]
  simp only [R.bindS, Bool.false_eq_true, if_false]
  exact h
end VM
namespace K2
open VM
local macro_rules | `(tactic| walk_at "ev") => `(tactic| simp only [tB, tAnd, tOr, tNot, tTrue, eOp, eVar, eC, eLst, eTup, aNil, aCons, eCall, eAnd, eOr, eNot, eIf, eIsN, eNotN, eMeth, R.bind, oAdd, oSub, gName, gSub, gTup, gEach, iRng1, iRng2, List.length_cons, List.length_nil, List.map_cons, List.map_nil, List.cons_append, List.nil_append, List.append_nil, List.getElem?_cons_zero, List.getElem?_cons_succ, List.set_cons_zero, List.set_cons_succ, if_true, if_false, Bool.false_eq_true, Nat.reduceAdd, Nat.reduceSub, List.replicate_succ, List.replicate_zero, Nat.zero_add, Nat.add_zero, clr, List.foldl_nil, List.foldl_cons, List.append_assoc])
/-! ### the same data: two piles that are worked off from their ends -/
inductive Wk (M : Mem) : List W → List W → Nat → Prop
  | nil : Wk M [] [] 0
  | flat {x : W} {ls rs : List W} {n : Nat} : VM.flat x = true → Wk M ls rs n → Wk M (ls ++ [x]) (rs ++ [x]) (n + 1)
  | seq {a b : Nat} {xs ys ls rs : List W} {n : Nat} : M[a]? = some (.lst xs) → M[b]? = some (.lst ys) → xs.length = ys.length → Wk M (ls ++ xs) (rs ++ ys) n → Wk M (ls ++ [.ref a]) (rs ++ [.ref b]) (n + 1)
theorem Wk.len {M : Mem} {ls rs : List W} {n : Nat} (h : Wk M ls rs n) : ls.length ≤ n ∧ rs.length ≤ n := by
  induction h with
  | nil => simp
  | flat _ _ ih => simp; omega
  | seq _ _ _ _ ih => simp at ih ⊢; omega
theorem Wk.flats {M : Mem} {ls rs : List W} {n : Nat} (h : Wk M ls rs n) : ∀ (zs : List W), zs.all VM.flat = true → Wk M (ls ++ zs) (rs ++ zs) (n + zs.length) := by
  intro zs
  induction zs generalizing ls rs n with
  | nil => intro _; simpa using h
  | cons z r ih =>
    intro hz
    rw [List.all_cons, Bool.and_eq_true] at hz
    have := ih (h.flat hz.1) hz.2
    rw [List.append_assoc, List.append_assoc] at this
    rw [List.length_cons, show n + (r.length + 1) = n + 1 + r.length by omega]
    exact this
theorem two_get (M J : Mem) (o p : O) : (M ++ o :: p :: J)[M.length]? = some o ∧ (M ++ o :: p :: J)[M.length + 1]? = some p := by
  constructor
  · simp
  · rw [List.getElem?_append_right (by omega)]; simp
theorem two_set0 (M J : Mem) (o p o' : O) : (M ++ o :: p :: J).set M.length o' = M ++ o' :: p :: J := by simp
theorem two_set1 (M J : Mem) (o p p' : O) : (M ++ o :: p :: J).set (M.length + 1) p' = M ++ o :: p' :: J := by
  rw [List.set_append_right _ _ (by omega)]; simp
theorem pop_ok {M : Mem} {a : Nat} {xs : List W} {x : W} (h : M[a]? = some (.lst (xs ++ [x]))) : mPop (.ref a) [] M = .ok x (M.set a (.lst xs)) := by
  unfold mPop
  rw [mutOf_at h]
  have e : (xs ++ [x])[(xs ++ [x]).length - 1]? = some x := by simp
  simp only [e]
  simp
theorem ext_ok {M : Mem} {a b : Nat} {xs ys : List W} (h : M[a]? = some (.lst xs)) (h2 : M[b]? = some (.lst ys)) (hl : xs.length + ys.length ≤ 16777216) : mExtend (.ref a) [.ref b] M = .ok .non (M.set a (.lst (xs ++ ys))) := by
  simp only [mExtend, mutOf_at h, mutOf_at h2]
  exact if_pos hl
theorem whole_int (i : Int) (M : Mem) : d_L_whole [.int i] M = .ok (.bl true) M := rfl
theorem ne_same (x : W) (M : Mem) (h : VM.flat x = true) : oNe x x M = .ok (.bl false) M := by
  unfold oNe eqO
  cases x <;> simp [VM.scal, VM.flat] at h ⊢
theorem ne_bl (a b : Bool) (M : Mem) : oNe (.bl a) (.bl b) M = .ok (.bl (!decide (a = b))) M := by
  unfold oNe eqO
  simp [VM.scal]
/-- the loop's test, its body -/
def sameT : TM := tB (eOp oNe (eVar 3) (eLst (aNil)))
def sameR (c_L_whole : CM) : SM :=
      sIf (tB (eIs [.list, .tuple] (eVar 5))) (
        sSeq (
          sIf (tB (eOp oNe (eIs [.list] (eVar 4)) (eIs [.list] (eVar 5)))) (
            sRet (eC (.bl false))) (
            sSkip)) (
        sSeq (
          sIf (tOr (tB (eOp oNe (eIs [.tuple] (eVar 4)) (eIs [.tuple] (eVar 5)))) (tB (eOp oNe (eCall fLen (aCons (eVar 4) aNil)) (eCall fLen (aCons (eVar 5) aNil))))) (
            sRet (eC (.bl false))) (
            sSkip)) (
        sSeq (
          sExpr (eMeth mExtend (eVar 2) (aCons (eVar 4) aNil))) (
        sExpr (eMeth mExtend (eVar 3) (aCons (eVar 5) aNil)))))) (
        sIf (tB (eIsN (eVar 5))) (
          sIf (tB (eNotN (eVar 4))) (
            sRet (eC (.bl false))) (
            sSkip)) (
          sIf (tB (eIs [.bool] (eVar 5))) (
            sIf (tOr (tNot (tB (eIs [.bool] (eVar 4)))) (tB (eOp oNe (eVar 4) (eVar 5)))) (
              sRet (eC (.bl false))) (
              sSkip)) (
            sIf (tB (eIs [.str] (eVar 5))) (
              sIf (tOr (tNot (tB (eIs [.str] (eVar 4)))) (tB (eOp oNe (eVar 4) (eVar 5)))) (
                sRet (eC (.bl false))) (
                sSkip)) (
              sIf (tOr (tNot (tB (eCall c_L_whole (aCons (eVar 4) aNil)))) (tB (eOp oNe (eVar 4) (eVar 5)))) (
                sRet (eC (.bl false))) (
                sSkip)))))
def sameB (c_L_whole : CM) : SM := sSeq (sAsg (eMeth mPop (eVar 2) (aNil)) (gName 4)) (sSeq (sAsg (eMeth mPop (eVar 3) (aNil)) (gName 5)) (sameR c_L_whole))
theorem same_loop (M : Mem) (f d : W) : ∀ (n : Nat) (k : Nat) (ls rs : List W) (J : Mem) (x y : Option W), Wk M ls rs n → n < k → k ≤ 1000000 →
    (whileN sameT (sameB d_L_whole) k [some f, some d, some (.ref M.length), some (.ref (M.length + 1)), x, y] (M ++ .lst ls :: .lst rs :: J)).Sat { nx := fun _ M' => M <+: M', rt := fun _ _ => False } := by
  intro n
  induction n with
  | zero =>
    intro k ls rs J x y hw hk _
    obtain ⟨k, rfl⟩ : ∃ j, k = j + 1 := ⟨k - 1, by omega⟩
    cases hw
    have t : sameT [some f, some d, some (.ref M.length), some (.ref (M.length + 1)), x, y] (M ++ .lst [] :: .lst [] :: J) = .ok false (M ++ .lst [] :: .lst [] :: J ++ [.lst []]) := by
      have hn : newL [] (M ++ .lst [] :: .lst [] :: J) = .ok (.ref (M ++ O.lst [] :: .lst [] :: J).length) (M ++ .lst [] :: .lst [] :: J ++ [.lst []]) := rfl
      have g1 := pre_get (pre_app (M ++ O.lst [] :: .lst [] :: J) [.lst []]) (two_get M J (.lst []) (.lst [])).2
      have g2 := Lst.new (M ++ O.lst [] :: .lst [] :: J) []
      unfold sameT
      simp only [tB, eOp, eVar, eLst, aNil, List.getElem?_cons_succ, List.getElem?_cons_zero, R.bind, hn, oNe, eqO, VM.scal, Bool.false_eq_true, if_false, lstOf_at g1, g2.lstOf]
      rfl
    refine sat_while_end t ?_
    exact ⟨.lst [] :: .lst [] :: J ++ [.lst []], by simp⟩
  | succ n ih =>
    intro k ls rs J x y hw hk hk2
    obtain ⟨k, rfl⟩ : ∃ j, k = j + 1 := ⟨k - 1, by omega⟩
    have hl := hw.len
    have key : ∀ (l r : W) (ls' rs' : List W), ls = ls' ++ [l] → rs = rs' ++ [r] →
        ((sameR d_L_whole) [some f, some d, some (.ref M.length), some (.ref (M.length + 1)), some l, some r] (M ++ .lst ls' :: .lst rs' :: (J ++ [.lst []]))).Sat { nx := fun σ' M' => (whileN sameT (sameB d_L_whole) k σ' M').Sat { nx := fun _ M' => M <+: M', rt := fun _ _ => False }, rt := fun _ _ => False, ct := fun σ' M' => (whileN sameT (sameB d_L_whole) k σ' M').Sat { nx := fun _ M' => M <+: M', rt := fun _ _ => False }, bk := fun _ M' => M <+: M' } →
        (whileN sameT (sameB d_L_whole) (k + 1) [some f, some d, some (.ref M.length), some (.ref (M.length + 1)), x, y] (M ++ .lst ls :: .lst rs :: J)).Sat { nx := fun _ M' => M <+: M', rt := fun _ _ => False } := by
      rintro l r ls' rs' rfl rfl hrest
      have t : sameT [some f, some d, some (.ref M.length), some (.ref (M.length + 1)), x, y] (M ++ .lst (ls' ++ [l]) :: .lst (rs' ++ [r]) :: J) = .ok true (M ++ .lst (ls' ++ [l]) :: .lst (rs' ++ [r]) :: (J ++ [.lst []])) := by
        have hn : newL [] (M ++ .lst (ls' ++ [l]) :: .lst (rs' ++ [r]) :: J) = .ok (.ref (M ++ O.lst (ls' ++ [l]) :: .lst (rs' ++ [r]) :: J).length) (M ++ .lst (ls' ++ [l]) :: .lst (rs' ++ [r]) :: J ++ [.lst []]) := rfl
        have g1 := pre_get (pre_app (M ++ O.lst (ls' ++ [l]) :: .lst (rs' ++ [r]) :: J) [.lst []]) (two_get M J (.lst (ls' ++ [l])) (.lst (rs' ++ [r]))).2
        have g2 := Lst.new (M ++ O.lst (ls' ++ [l]) :: .lst (rs' ++ [r]) :: J) []
        have e0 : eqSeq (rs' ++ [r]) [] = some false := by unfold eqSeq; rw [if_pos (by simp)]
        unfold sameT
        simp only [tB, eOp, eVar, eLst, aNil, List.getElem?_cons_succ, List.getElem?_cons_zero, R.bind, hn, oNe, eqO, VM.scal, Bool.false_eq_true, if_false, lstOf_at g1, g2.lstOf, e0]
        simp
      refine sat_while_step t ?_
      unfold sameB
      obtain ⟨g1, g2⟩ := two_get M (J ++ [.lst []]) (.lst (ls' ++ [l])) (.lst (rs' ++ [r]))
      have p1 := pop_ok g1
      rw [two_set0] at p1
      refine sat_seq (sat_set (v := l) (M1 := M ++ .lst ls' :: .lst (rs' ++ [r]) :: (J ++ [.lst []])) ?_ ?_)
      · simp only [eMeth, eVar, aNil, List.getElem?_cons_succ, List.getElem?_cons_zero, R.bind, lstOf_at g1]
        exact p1
      simp only [List.set_cons_zero, List.set_cons_succ]
      obtain ⟨g3, g4⟩ := two_get M (J ++ [.lst []]) (.lst ls') (.lst (rs' ++ [r]))
      have p2 := pop_ok g4
      rw [two_set1] at p2
      refine sat_seq (sat_set (v := r) (M1 := M ++ .lst ls' :: .lst rs' :: (J ++ [.lst []])) ?_ ?_)
      · simp only [eMeth, eVar, aNil, List.getElem?_cons_succ, List.getElem?_cons_zero, R.bind, lstOf_at g4]
        exact p2
      simp only [List.set_cons_zero, List.set_cons_succ]
      exact hrest
    cases hw with
    | @flat l ls' rs' _ hf h' =>
      refine key l l ls' rs' rfl rfl ?_
      have go := ih k ls' rs' (J ++ [.lst []]) (some l) (some l) h' (by omega) (by omega)
      generalize M ++ O.lst ls' :: .lst rs' :: (J ++ [.lst []]) = N at go
      have hne := ne_same l N hf
      cases l with
      | ref a => cases hf
      | non =>
        refine sat_if (c := false) (M1 := N) rfl (fun z => nomatch z) fun _ => ?_
        refine sat_if (c := true) (M1 := N) rfl (fun _ => ?_) fun z => nomatch z
        exact sat_if (c := false) (M1 := N) rfl (fun z => nomatch z) fun _ => go
      | bl b =>
        refine sat_if (c := false) (M1 := N) rfl (fun z => nomatch z) fun _ => ?_
        refine sat_if (c := false) (M1 := N) rfl (fun z => nomatch z) fun _ => ?_
        refine sat_if (c := true) (M1 := N) rfl (fun _ => ?_) fun z => nomatch z
        refine sat_if (c := false) (M1 := N) ?_ (fun z => nomatch z) fun _ => go
        walk_at "ev"
        simp only [eIs, anyKd, isKd, R.bind, eVar, List.getElem?_cons_succ, List.getElem?_cons_zero, hne]
        simp
      | str b =>
        refine sat_if (c := false) (M1 := N) rfl (fun z => nomatch z) fun _ => ?_
        refine sat_if (c := false) (M1 := N) rfl (fun z => nomatch z) fun _ => ?_
        refine sat_if (c := false) (M1 := N) rfl (fun z => nomatch z) fun _ => ?_
        refine sat_if (c := true) (M1 := N) rfl (fun _ => ?_) fun z => nomatch z
        refine sat_if (c := false) (M1 := N) ?_ (fun z => nomatch z) fun _ => go
        walk_at "ev"
        simp only [eIs, anyKd, isKd, R.bind, eVar, List.getElem?_cons_succ, List.getElem?_cons_zero, hne]
        simp
      | int b =>
        refine sat_if (c := false) (M1 := N) rfl (fun z => nomatch z) fun _ => ?_
        refine sat_if (c := false) (M1 := N) rfl (fun z => nomatch z) fun _ => ?_
        refine sat_if (c := false) (M1 := N) rfl (fun z => nomatch z) fun _ => ?_
        refine sat_if (c := false) (M1 := N) rfl (fun z => nomatch z) fun _ => ?_
        refine sat_if (c := false) (M1 := N) ?_ (fun z => nomatch z) fun _ => go
        walk_at "ev"
        simp only [whole_int, R.bind, hne]
        simp
    | @seq a b xs ys ls' rs' _ ha hb hxy h' =>
      refine key (.ref a) (.ref b) ls' rs' rfl rfl ?_
      have go := ih k (ls' ++ xs) (rs' ++ ys) (J ++ [.lst []]) (some (.ref a)) (some (.ref b)) h' (by omega) (by omega)
      have hl' := h'.len
      rw [List.length_append, List.length_append] at hl'
      obtain ⟨g1, g2⟩ := two_get M (J ++ [.lst []]) (.lst ls') (.lst rs')
      have A := pre_get (pre_app M (O.lst ls' :: .lst rs' :: (J ++ [.lst []]))) ha
      have B := pre_get (pre_app M (O.lst ls' :: .lst rs' :: (J ++ [.lst []]))) hb
      have x1 := ext_ok g1 A (by omega)
      rw [two_set0] at x1
      obtain ⟨g3, g4⟩ := two_get M (J ++ [.lst []]) (.lst (ls' ++ xs)) (.lst rs')
      have B2 := pre_get (pre_app M (O.lst (ls' ++ xs) :: .lst rs' :: (J ++ [.lst []]))) hb
      have x2 := ext_ok g4 B2 (by omega)
      rw [two_set1] at x2
      generalize hN : M ++ O.lst ls' :: .lst rs' :: (J ++ [.lst []]) = N at A B x1 g1 g2
      refine sat_if (c := true) (M1 := N) ?_ (fun _ => ?_) fun z => nomatch z
      · simp only [tB, eIs, eVar, List.getElem?_cons_succ, List.getElem?_cons_zero, R.bind, anyKd, isKd, B]
        rfl
      refine sat_seq (sat_if (c := false) (M1 := N) ?_ (fun z => nomatch z) fun _ => ?_)
      · simp only [tB, eOp, eIs, eVar, List.getElem?_cons_succ, List.getElem?_cons_zero, R.bind, anyKd, isKd, A, B, ne_bl]
        rfl
      refine sat_skip ?_
      dsimp only
      refine sat_seq (sat_if (c := false) (M1 := N) ?_ (fun z => nomatch z) fun _ => ?_)
      · simp only [tOr, tB, eOp, eIs, eCall, aCons, aNil, eVar, List.getElem?_cons_succ, List.getElem?_cons_zero, R.bind, anyKd, isKd, A, B, ne_bl, fLen, seqOf_at A, seqOf_at B, ne_int, hxy]
        simp
      refine sat_skip ?_
      dsimp only
      refine sat_seq (sat_expr (v := .non) (M1 := M ++ O.lst (ls' ++ xs) :: .lst rs' :: (J ++ [.lst []])) ?_ ?_)
      · simp only [eMeth, eVar, aCons, aNil, List.getElem?_cons_succ, List.getElem?_cons_zero, R.bind, lstOf_at g1]
        exact x1
      refine sat_expr (v := .non) (M1 := M ++ O.lst (ls' ++ xs) :: .lst (rs' ++ ys) :: (J ++ [.lst []])) ?_ ?_
      · simp only [eMeth, eVar, aCons, aNil, List.getElem?_cons_succ, List.getElem?_cons_zero, R.bind, lstOf_at g4]
        exact x2
      exact go
theorem same_ok (M : Mem) (f d : W) (n : Nat) (h : Wk M [f] [d] n) (hn : n < 1000000) : ∃ M', d_L_same d_L_whole [f, d] M = .ok (.bl true) M' ∧ M <+: M' := by
  have key : ∃ r M', d_L_same d_L_whole [f, d] M = .ok r M' ∧ (r = .bl true ∧ M <+: M') := by
    refine sat_fn rfl ?_
    show (sSeq _ _ [some f, some d, none, none, none, none] M).Sat _
    have n1 : newL [f] M = .ok (.ref M.length) (M ++ [.lst [f]]) := newL_ok (by show 1 ≤ 16777216; decide)
    have n2 : newL [d] (M ++ [.lst [f]]) = .ok (.ref (M.length + 1)) (M ++ .lst [f] :: .lst [d] :: []) := by
      rw [newL_ok (by show 1 ≤ 16777216; decide)]
      simp
    refine sat_seq (sat_set (v := .ref M.length) (M1 := M ++ [.lst [f]]) (by walk_at "ev"; exact n1) ?_)
    simp only [List.set_cons_zero, List.set_cons_succ]
    refine sat_seq (sat_set (v := .ref (M.length + 1)) (M1 := M ++ .lst [f] :: .lst [d] :: []) (by walk_at "ev"; exact n2) ?_)
    simp only [List.set_cons_zero, List.set_cons_succ]
    refine sat_seq ?_
    refine RS.Sat.mono (same_loop M f d n 1000000 [f] [d] [] none none h hn (Nat.le_refl _)) (fun σ M' p => ?_) (fun _ _ z => z.elim) (fun _ _ z => z.elim) (fun _ _ z => z.elim)
    dsimp only
    refine sat_ret (v := .bl true) (M1 := M') rfl ?_
    exact ⟨rfl, p⟩
  obtain ⟨r, M', e, rfl, p⟩ := key
  exact ⟨M', e, p⟩
end K2
end
section
set_option linter.all false
set_option autoImplicit false
set_option maxRecDepth 100000
namespace K2
open VM
local macro_rules | `(tactic| walk_at "ev") => `(tactic| simp only [tB, tAnd, tOr, tNot, tTrue, eOp, eVar, eC, eLst, eTup, aNil, aCons, eCall, eAnd, eOr, eNot, eIf, eIsN, eNotN, eMeth, R.bind, oAdd, oSub, gName, gSub, gTup, gEach, iRng1, iRng2, List.length_cons, List.length_nil, List.map_cons, List.map_nil, List.cons_append, List.nil_append, List.append_nil, List.getElem?_cons_zero, List.getElem?_cons_succ, List.set_cons_zero, List.set_cons_succ, if_true, if_false, Bool.false_eq_true, Nat.reduceAdd, Nat.reduceSub, List.replicate_succ, List.replicate_zero, Nat.zero_add, Nat.add_zero, clr, List.foldl_nil, List.foldl_cons, List.append_assoc])
theorem flist_ok {M : Mem} {v : W} {fs : List Int} (h : IntL M v fs) (hl : fs.length ≤ 1000) : fList [v] M = .ok (.ref M.length) (M ++ [.lst (fs.map .int)]) := by
  unfold fList
  simp only [Lst.seqOf h]
  exact newL_ok (by rw [List.length_map]; omega)
def fillsF : CM := d_fills (d_groups_of d_row_fields d_column_fields d_box_fields) d_refuse_no_sheet d_keeps_numbers d_has_twice
def sameF : CM := d_L_same d_L_whole
def filledF : CM := d_L_is_filled_by d_L_no_twice
def lawTail : SM :=
  sSeq (
    sAsg (eCall fList (aCons (eVar 7) aNil)) (gName 14)) (
  sSeq (
    sAsg (eCall fList (aCons (eVar 8) aNil)) (gName 15)) (
  sSeq (
    sAsg (eCall fillsF (aCons (eVar 1) (aCons (eVar 2) (aCons (eVar 14) (aCons (eVar 15) aNil))))) (gName 16)) (
  sSeq (
    sIf (tNot (tB (eCall sameF (aCons (eLst (aCons (eVar 14) (aCons (eVar 15) aNil))) (aCons (eLst (aCons (eVar 7) (aCons (eVar 8) aNil))) aNil))))) (
      sRet (eC (.bl false))) (
      sSkip)) (
  sSeq (
    sAsg (eCall filledF (aCons (eVar 4) (aCons (eVar 7) (aCons (eVar 8) (aCons (eVar 3) aNil))))) (gName 17)) (
  sRet (eAnd (eIs [.bool] (eVar 16)) (eOp oEq (eVar 16) (eVar 17))))))))
theorem eq_bl (a b : Bool) (M : Mem) : oEq (.bl a) (.bl b) M = .ok (.bl (decide (a = b))) M := by
  unfold oEq eqO
  simp [VM.scal]
theorem wk_two {M : Mem} {a b c d e f : Nat} {ss ts : List Int} (ha : M[a]? = some (.lst [.ref c, .ref d])) (hb : M[b]? = some (.lst [.ref e, .ref f])) (hc : M[c]? = some (.lst (ss.map .int))) (hd : M[d]? = some (.lst (ts.map .int))) (he : M[e]? = some (.lst (ss.map .int))) (hf : M[f]? = some (.lst (ts.map .int))) : ∃ n, n ≤ ss.length + ts.length + 10 ∧ Wk M [.ref a] [.ref b] n := by
  refine ⟨0 + (ss.map W.int).length + 1 + (ts.map W.int).length + 1 + 1, by simp; omega, ?_⟩
  refine Wk.seq (ls := []) (rs := []) ha hb rfl ?_
  show Wk M ([.ref c] ++ [.ref d]) ([.ref e] ++ [.ref f]) _
  refine Wk.seq hd hf rfl ?_
  refine Wk.flats ?_ _ (flat_ints ts)
  refine Wk.seq (ls := []) (rs := []) hc he rfl ?_
  exact Wk.flats Wk.nil _ (flat_ints ss)
theorem tail_ok (h w : Nat) (hh : 1 ≤ h ∧ h ≤ 3) (hw : 1 ≤ w ∧ w ≤ 3) (M : Mem) (vG vf vs vt : W) (x0 x6 x9 x10 x11 x12 x13 : Option W) (ss ts : List Int) (hG : LL M vG (grps h w)) (hs : IntL M vs ss) (ht : IntL M vt ts) (s1 : Sheet (h * w) ss) (s2 : Sheet (h * w) ts) :
    (lawTail [x0, some (.int h), some (.int w), some (.int (h * w : Nat)), some vG, some vf, x6, some vs, some vt, x9, x10, x11, x12, x13, none, none, none, none] M).Sat { nx := fun _ _ => False, rt := fun v _ => v = .bl true } := by
  unfold lawTail
  have hs9 : h * w ≤ 9 := Nat.le_trans (Nat.mul_le_mul hh.2 hw.2) (by decide)
  have hss : h * w * (h * w) ≤ 9 * 9 := Nat.mul_le_mul hs9 hs9
  have l1 : ss.length ≤ 81 := by rw [s1.len]; exact hss
  have l2 : ts.length ≤ 81 := by rw [s2.len]; exact hss
  have n1 := flist_ok hs (by omega)
  refine sat_seq (sat_set (v := .ref M.length) (M1 := M ++ [.lst (ss.map .int)]) (by walk_at "ev"; exact n1) ?_)
  simp only [List.set_cons_zero, List.set_cons_succ]
  have p1 : M <+: M ++ [O.lst (ss.map .int)] := pre_app _ _
  have L1 : IntL (M ++ [.lst (ss.map .int)]) (.ref M.length) ss := Lst.new _ _
  generalize hM1 : M ++ [O.lst (ss.map .int)] = M1 at p1 L1
  have ht1 : IntL M1 vt ts := Lst.mono ht p1
  have n2 := flist_ok ht1 (by omega)
  refine sat_seq (sat_set (v := .ref M1.length) (M1 := M1 ++ [.lst (ts.map .int)]) (by walk_at "ev"; exact n2) ?_)
  simp only [List.set_cons_zero, List.set_cons_succ]
  have p2 : M1 <+: M1 ++ [O.lst (ts.map .int)] := pre_app _ _
  have L2 : IntL (M1 ++ [.lst (ts.map .int)]) (.ref M1.length) ts := Lst.new _ _
  generalize hM2 : M1 ++ [O.lst (ts.map .int)] = M2 at p2 L2
  obtain ⟨M3, e3, p3⟩ := fills_ok groups_ok h w hh hw M2 (.ref M.length) (.ref M1.length) ss ts (Lst.mono L1 p2) L2 s1 s2
  refine sat_seq (sat_set (v := .bl (fillsB ss ts (grps h w))) (M1 := M3) (by walk_at "ev"; exact e3) ?_)
  simp only [List.set_cons_zero, List.set_cons_succ]
  have n4 : newL [.ref M.length, .ref M1.length] M3 = .ok (.ref M3.length) (M3 ++ [.lst [.ref M.length, .ref M1.length]]) := newL_ok (by show 2 ≤ 16777216; decide)
  have p4 : M3 <+: M3 ++ [O.lst [.ref M.length, .ref M1.length]] := pre_app _ _
  have g4 := get_last M3 (.lst [.ref M.length, .ref M1.length])
  generalize hM4 : M3 ++ [O.lst [.ref M.length, .ref M1.length]] = M4 at n4 p4 g4
  have n5 : newL [vs, vt] M4 = .ok (.ref M4.length) (M4 ++ [.lst [vs, vt]]) := newL_ok (by show 2 ≤ 16777216; decide)
  have p5 : M4 <+: M4 ++ [O.lst [vs, vt]] := pre_app _ _
  have g5 := get_last M4 (.lst [vs, vt])
  generalize hM5 : M4 ++ [O.lst [vs, vt]] = M5 at n5 p5 g5
  obtain ⟨as, rfl, has⟩ := hs
  obtain ⟨at', rfl, hat⟩ := ht
  have P25 : M2 <+: M5 := p3.trans (p4.trans p5)
  obtain ⟨b1, q1, hb1⟩ := L1
  obtain ⟨b2, q2, hb2⟩ := L2
  cases q1
  cases q2
  have P5 : M <+: M5 := p1.trans (p2.trans P25)
  obtain ⟨n, hn, hwk⟩ := wk_two (ss := ss) (ts := ts) (pre_get p5 g4) g5 (pre_get (p2.trans P25) hb1) (pre_get P25 hb2) (pre_get P5 has) (pre_get P5 hat)
  obtain ⟨M6, e6, p6⟩ := same_ok M5 _ _ n hwk (by omega)
  refine sat_seq (sat_if (c := false) (M1 := M6) ?_ (fun z => nomatch z) fun _ => ?_)
  · walk_at "ev"
    simp only [n4, n5, sameF, e6, Bool.not_true]
  refine sat_skip ?_
  dsimp only
  have P6 := P5.trans p6
  have G6 := hG.mono P6
  obtain ⟨M7, e7, p7⟩ := filled_ok M6 vG (.ref as) (.ref at') (grps h w) ss ts (h * w) G6 ⟨_, rfl, pre_get P6 has⟩ ⟨_, rfl, pre_get P6 hat⟩ (by rw [s1.len, s2.len]) (by omega) (fun g hg => by rw [s2.len]; exact grp_in hh hw g hg) hs9
  refine sat_seq (sat_set (v := .bl (isF ss ts ss.length && noTw (grps h w) ts (h * w))) (M1 := M7) (by walk_at "ev"; exact e7) ?_)
  simp only [List.set_cons_zero, List.set_cons_succ]
  have ag := agree ss ts (grps h w) (h * w) s1 s2 (fun g hg => by rw [s2.len]; exact (grp_in hh hw g hg).2)
  refine sat_ret (v := .bl true) (M1 := M7) ?_ rfl
  walk_at "ev"
  rw [← ag]
  simp only [eIs, anyKd, isKd, R.bind, eVar, List.getElem?_cons_succ, List.getElem?_cons_zero, eq_bl]
  simp
end K2
end
section
set_option linter.all false
set_option autoImplicit false
set_option maxRecDepth 100000
namespace K2
open VM
local macro_rules | `(tactic| walk_at "ev") => `(tactic| simp only [tB, tAnd, tOr, tNot, tTrue, eOp, eVar, eC, eLst, eTup, aNil, aCons, eCall, eAnd, eOr, eNot, eIf, eIsN, eNotN, eMeth, R.bind, oAdd, oSub, gName, gSub, gTup, gEach, iRng1, iRng2, List.length_cons, List.length_nil, List.map_cons, List.map_nil, List.cons_append, List.nil_append, List.append_nil, List.getElem?_cons_zero, List.getElem?_cons_succ, List.set_cons_zero, List.set_cons_succ, if_true, if_false, Bool.false_eq_true, Nat.reduceAdd, Nat.reduceSub, List.replicate_succ, List.replicate_zero, Nat.zero_add, Nat.add_zero, clr, List.foldl_nil, List.foldl_cons, List.append_assoc])
def st (h w : Nat) (vG vf vs : W) (x6 : Option W) (cell way spot : Int) (vt : W) (other : Int) (vb : W) : St := [some (.ref 0), some (.int h), some (.int w), some (.int (h * w : Nat)), some vG, some vf, x6, some vs, some vt, some (.int cell), some (.int way), some (.int spot), some (.int other), some vb, none, none, none, none]
theorem Sheet.set {s : Nat} {ts : List Int} (h : Sheet s ts) (i : Nat) {x : Int} (h0 : 0 ≤ x) (h1 : x ≤ s) : Sheet s (ts.set i x) where
  len := by rw [List.length_set]; exact h.len
  lo := fun y hy => by
    rcases List.mem_or_eq_of_mem_set hy with q | q
    · exact h.lo y q
    · rw [q]; exact h0
  hi := fun y hy => by
    rcases List.mem_or_eq_of_mem_set hy with q | q
    · exact h.hi y q
    · rw [q]; exact h1
theorem sub_ok {σ : St} {N J : Mem} {ts : List Int} {i x : Int} {o ie : EM} (ho : o σ (N ++ .lst (ts.map .int) :: J) = .ok (.ref N.length) (N ++ .lst (ts.map .int) :: J)) (hi : ie σ (N ++ .lst (ts.map .int) :: J) = .ok (.int i) (N ++ .lst (ts.map .int) :: J)) (h0 : 0 ≤ i) (h1 : i < (ts.length : Int)) : gSub o ie (.int x) σ (N ++ .lst (ts.map .int) :: J) = .ok σ (N ++ .lst ((ts.set i.toNat x).map .int) :: J) := by
  have hx : ixN (ts.map W.int).length i = some i.toNat := by
    unfold ixN
    rw [if_pos h0, List.length_map, if_pos h1]
  unfold gSub
  simp only [ho, hi, R.bind, mutOf_at (own_get N J _), hx, own_set, List.map_set]
section
variable {h w : Nat} (hh : 1 ≤ h ∧ h ≤ 3) (hw : 1 ≤ w ∧ w ≤ 3) {N : Mem} {vG vf vs vb : W} {x6 : Option W} {cell way spot : Int} {fs : List Int}
/-- what holds of the told list -/
def Inv (h w : Nat) (N : Mem) (vG vf vs vb : W) (x6 : Option W) (cell way spot : Int) (σ : St) (M : Mem) : Prop :=
  ∃ N' J ts other, N <+: N' ∧ M = N' ++ .lst (ts.map .int) :: J ∧ Sheet (h * w) ts ∧ 0 ≤ other ∧ other < ((h * w * (h * w) : Nat) : Int) ∧ σ = st h w vG vf vs x6 cell way spot (.ref N'.length) other vb
def InvB (h w : Nat) (N : Mem) (vG vf vs vb : W) (x6 : Option W) (cell way spot : Int) (σ : St) (M : Mem) : Prop :=
  ∃ J ts other k bs b0, M = N ++ .lst (ts.map .int) :: J ∧ J[k]? = some (.lst bs) ∧ vb = .ref (N.length + 1 + k) ∧ bs[0]? = some (.int b0) ∧ 0 ≤ b0 ∧ b0 < ((h * w * (h * w) : Nat) : Int) ∧ Sheet (h * w) ts ∧ 0 ≤ other ∧ other < ((h * w * (h * w) : Nat) : Int) ∧ σ = st h w vG vf vs x6 cell way spot (.ref N.length) other vb
theorem own_far (N J : Mem) (o : O) (k : Nat) : (N ++ o :: J)[N.length + 1 + k]? = J[k]? := by
  rw [List.getElem?_append_right (by omega), show N.length + 1 + k - N.length = k + 1 by omega]
  rfl
theorem sh9 (hh : 1 ≤ h ∧ h ≤ 3) (hw : 1 ≤ w ∧ w ≤ 3) : h * w ≤ 9 ∧ 1 ≤ h * w := ⟨Nat.le_trans (Nat.mul_le_mul hh.2 hw.2) (by decide), Nat.mul_pos hh.1 hw.1⟩
def if1 : SM := sIf (tB (eOp oEq (eVar 10) (eC (.int 1)))) (sAsg (eOp oAdd (eOp oMod (eOp oIx (eVar 8) (eVar 11)) (eVar 3)) (eC (.int 1))) (gSub (eVar 8) (eVar 11))) sSkip
def if2 : SM := sIf (tB (eOp oEq (eVar 10) (eC (.int 2)))) (sAsg (eC (.int 0)) (gSub (eVar 8) (eOp oIx (eVar 13) (eC (.int 0))))) sSkip
def if3 : SM := sIf (tB (eOp oEq (eVar 10) (eC (.int 3)))) (sAsg (eOp oIx (eVar 8) (eVar 12)) (gSub (eVar 8) (eVar 11))) sSkip
def if5 : SM := sIf (tB (eOp oEq (eVar 10) (eC (.int 5)))) (sAsg (eOp oMod (eVar 11) (eVar 3)) (gName 12)) sSkip
def if6 : SM := sIf (tB (eOp oEq (eVar 10) (eC (.int 6)))) (sAsg (eComp 1 [] (iSeq (eVar 5)) (gName 18) (tTrue) (eOp oAdd (eOp oMod (eVar 18) (eVar 3)) (eC (.int 1)))) (gName 8)) sSkip
def if7 : SM := sIf (tOr (tB (eOp oEq (eVar 10) (eC (.int 4)))) (tOr (tB (eOp oEq (eVar 10) (eC (.int 5)))) (tB (eOp oEq (eVar 10) (eC (.int 7)))))) (sSeq (sAsg (eOp oIx (eVar 5) (eVar 12)) (gSub (eVar 8) (eVar 11))) (sAsg (eOp oIx (eVar 5) (eVar 11)) (gSub (eVar 8) (eVar 12)))) sSkip
theorem tw_ok (k : Int) (M : Mem) (vt : W) (other : Int) : tB (eOp oEq (eVar 10) (eC (.int k))) (st h w vG vf vs x6 cell way spot vt other vb) M = .ok (decide (way = k)) M := by
  unfold st
  walk_at "ev"
  simp only [eq_int]
theorem if1_ok (hh : 1 ≤ h ∧ h ≤ 3) (hw : 1 ≤ w ∧ w ≤ 3) (h0 : 0 ≤ spot) (h1 : spot < ((h * w * (h * w) : Nat) : Int)) {σ : St} {M : Mem} (hI : InvB h w N vG vf vs vb x6 cell way spot σ M) : (if1 σ M).Sat { nx := InvB h w N vG vf vs vb x6 cell way spot, rt := fun _ _ => False } := by
  obtain ⟨J, ts, other, k, bs, b0, rfl, hk, rfl, hb, hb0, hb1, sh, o0, o1, rfl⟩ := hI
  obtain ⟨s9, s1⟩ := sh9 hh hw
  refine sat_if (tw_ok 1 _ _ _) (fun _ => ?_) fun _ => ?_
  · have L : IntL (N ++ .lst (ts.map .int) :: J) (.ref N.length) ts := ⟨_, rfl, own_get _ _ _⟩
    have i1 := ix_ok L h0 (by rw [sh.len]; exact h1)
    have m1 := mod_ok (M := N ++ .lst (ts.map .int) :: J) (i := nth ts spot) (j := ((h * w : Nat) : Int)) (by omega)
    have hx0 := Int.emod_nonneg (nth ts spot) (show ((h * w : Nat) : Int) ≠ 0 by omega)
    have hx1 := Int.emod_lt_of_pos (nth ts spot) (show (0 : Int) < ((h * w : Nat) : Int) by omega)
    refine sat_asg (v := .int (nth ts spot % ((h * w : Nat) : Int) + 1)) (M1 := N ++ .lst (ts.map .int) :: J) (by unfold st; walk_at "ev"; simp only [i1, m1]) (sub_ok rfl rfl h0 (by rw [sh.len]; exact h1)) ?_
    exact ⟨J, _, other, k, bs, b0, rfl, hk, rfl, hb, hb0, hb1, sh.set _ (by omega) (by omega), o0, o1, rfl⟩
  · exact ⟨J, ts, other, k, bs, b0, rfl, hk, rfl, hb, hb0, hb1, sh, o0, o1, rfl⟩
theorem if2_ok (hh : 1 ≤ h ∧ h ≤ 3) (hw : 1 ≤ w ∧ w ≤ 3) {σ : St} {M : Mem} (hI : InvB h w N vG vf vs vb x6 cell way spot σ M) : (if2 σ M).Sat { nx := Inv h w N vG vf vs vb x6 cell way spot, rt := fun _ _ => False } := by
  obtain ⟨J, ts, other, k, bs, b0, rfl, hk, rfl, hb, hb0, hb1, sh, o0, o1, rfl⟩ := hI
  obtain ⟨s9, s1⟩ := sh9 hh hw
  refine sat_if (tw_ok 2 _ _ _) (fun _ => ?_) fun _ => ?_
  · have g := (own_far N J (.lst (ts.map .int)) k).trans hk
    have hat : atI bs 0 = some (.int b0) := by
      unfold atI ixN
      have : 0 < bs.length := (List.getElem?_eq_some_iff.mp hb).1
      rw [if_pos (by omega), if_pos (by omega)]
      exact hb
    refine sat_asg (v := .int 0) (M1 := N ++ .lst (ts.map .int) :: J) rfl (sub_ok (i := b0) rfl (by unfold st; walk_at "ev"; simp only [oIx, seqOf_at g, hat]) hb0 (by rw [sh.len]; exact hb1)) ?_
    exact ⟨N, J, _, other, pre_rfl _, rfl, sh.set _ (by omega) (by omega), o0, o1, rfl⟩
  · exact ⟨N, J, ts, other, pre_rfl _, rfl, sh, o0, o1, rfl⟩
theorem if3_ok (h0 : 0 ≤ spot) (h1 : spot < ((h * w * (h * w) : Nat) : Int)) {σ : St} {M : Mem} (hI : Inv h w N vG vf vs vb x6 cell way spot σ M) : (if3 σ M).Sat { nx := Inv h w N vG vf vs vb x6 cell way spot, rt := fun _ _ => False } := by
  obtain ⟨N', J, ts, other, p, rfl, sh, o0, o1, rfl⟩ := hI
  refine sat_if (tw_ok 3 _ _ _) (fun _ => ?_) fun _ => ?_
  · have L : IntL (N' ++ .lst (ts.map .int) :: J) (.ref N'.length) ts := ⟨_, rfl, own_get _ _ _⟩
    have i1 := ix_ok L o0 (by rw [sh.len]; exact o1)
    have hm := nth_mem (fs := ts) o0 (by rw [sh.len]; exact o1)
    refine sat_asg (v := .int (nth ts other)) (M1 := N' ++ .lst (ts.map .int) :: J) (by unfold st; walk_at "ev"; simp only [i1]) (sub_ok rfl rfl h0 (by rw [sh.len]; exact h1)) ?_
    exact ⟨N', J, _, other, p, rfl, sh.set _ (sh.lo _ hm) (sh.hi _ hm), o0, o1, rfl⟩
  · exact ⟨N', J, ts, other, p, rfl, sh, o0, o1, rfl⟩
theorem if5_ok (hh : 1 ≤ h ∧ h ≤ 3) (hw : 1 ≤ w ∧ w ≤ 3) {σ : St} {M : Mem} (hI : Inv h w N vG vf vs vb x6 cell way spot σ M) : (if5 σ M).Sat { nx := Inv h w N vG vf vs vb x6 cell way spot, rt := fun _ _ => False } := by
  obtain ⟨N', J, ts, other, p, rfl, sh, o0, o1, rfl⟩ := hI
  obtain ⟨s9, s1⟩ := sh9 hh hw
  refine sat_if (tw_ok 5 _ _ _) (fun _ => ?_) fun _ => ?_
  · have m1 := mod_ok (M := N' ++ .lst (ts.map .int) :: J) (i := spot) (j := ((h * w : Nat) : Int)) (by omega)
    have hx0 := Int.emod_nonneg spot (show ((h * w : Nat) : Int) ≠ 0 by omega)
    have hx1 := Int.emod_lt_of_pos spot (show (0 : Int) < ((h * w : Nat) : Int) by omega)
    refine sat_set (v := .int (spot % ((h * w : Nat) : Int))) (M1 := N' ++ .lst (ts.map .int) :: J) (by unfold st; walk_at "ev"; simp only [m1]) ?_
    have : h * w ≤ h * w * (h * w) := Nat.le_mul_of_pos_right _ s1
    exact ⟨N', J, ts, _, p, rfl, sh, hx0, by omega, rfl⟩
  · exact ⟨N', J, ts, other, p, rfl, sh, o0, o1, rfl⟩
theorem if6_ok (hh : 1 ≤ h ∧ h ≤ 3) (hw : 1 ≤ w ∧ w ≤ 3) (hf : IntL N vf fs) (fl : fs.length = h * w * (h * w)) {σ : St} {M : Mem} (hI : Inv h w N vG vf vs vb x6 cell way spot σ M) : (if6 σ M).Sat { nx := Inv h w N vG vf vs vb x6 cell way spot, rt := fun _ _ => False } := by
  obtain ⟨N', J, ts, other, p, rfl, sh, o0, o1, rfl⟩ := hI
  obtain ⟨s9, s1⟩ := sh9 hh hw
  have hss : h * w * (h * w) ≤ 9 * 9 := Nat.mul_le_mul s9 s9
  refine sat_if (tw_ok 6 _ _ _) (fun _ => ?_) fun _ => ?_
  · have F := Lst.mono hf (p.trans (own_pre N' J (.lst (ts.map .int))))
    generalize hM2 : N' ++ O.lst (ts.map .int) :: J = M2 at F
    obtain ⟨a, rfl, ha⟩ := F
    have e : eComp 1 [] (iSeq (eVar 5)) (gName 18) tTrue (eOp oAdd (eOp oMod (eVar 18) (eVar 3)) (eC (.int 1))) (st h w vG (.ref a) vs x6 cell way spot (.ref N'.length) other vb) M2 = .ok (.ref M2.length) (M2 ++ .lst ((fs.map fun x => x % ((h * w : Nat) : Int) + 1).map .int) :: []) := by
      unfold eComp
      have hi : iSeq (eVar 5) (st h w vG (.ref a) vs x6 cell way spot (.ref N'.length) other vb) M2 = .ok ((fs.map W.int).map .val, [(a, .lst (fs.map .int))]) M2 := by
        unfold iSeq st
        simp only [eVar, List.getElem?_cons_succ, List.getElem?_cons_zero, R.bind, ha]
      rw [hi]
      simp only [R.bind, clr, List.foldl_nil, List.replicate_succ, List.replicate_zero]
      rw [comp_flat (σ := st h w vG (.ref a) vs x6 cell way spot (.ref N'.length) other vb ++ [none]) (fun _ => true) (fun x => match x with | .int i => .int (i % ((h * w : Nat) : Int) + 1) | _ => .non) _ _ _ (fun _ => rfl) (by simp [Chk.ok, ha]) ?_]
      · simp only [filter_tt, List.nil_append, List.map_map]
        exact newL_ok (by rw [List.length_map]; omega)
      · intro x hx
        obtain ⟨i, hi2, rfl⟩ := List.mem_map.mp hx
        refine ⟨rfl, fun _ => ?_⟩
        have m1 := mod_ok (M := M2) (i := i) (j := ((h * w : Nat) : Int)) (by omega)
        unfold st
        walk_at "ev"
        simp only [m1]
    refine sat_set e ?_
    have p2 : N <+: M2 := by rw [← hM2]; exact p.trans (own_pre _ _ _)
    refine ⟨M2, [], _, other, p2, rfl, ?_, o0, o1, rfl⟩
    refine ⟨by rw [List.length_map]; exact fl, fun x hx => ?_, fun x hx => ?_⟩
    · obtain ⟨y, _, rfl⟩ := List.mem_map.mp hx
      have hx0 := Int.emod_nonneg y (show ((h * w : Nat) : Int) ≠ 0 by omega)
      omega
    · obtain ⟨y, _, rfl⟩ := List.mem_map.mp hx
      have hx1 := Int.emod_lt_of_pos y (show (0 : Int) < ((h * w : Nat) : Int) by omega)
      omega
  · exact ⟨N', J, ts, other, p, rfl, sh, o0, o1, rfl⟩
theorem if7_ok (h0 : 0 ≤ spot) (h1 : spot < ((h * w * (h * w) : Nat) : Int)) (hf : IntL N vf fs) (fl : fs.length = h * w * (h * w)) (fg : Good (h * w) fs) {σ : St} {M : Mem} (hI : Inv h w N vG vf vs vb x6 cell way spot σ M) : (if7 σ M).Sat { nx := Inv h w N vG vf vs vb x6 cell way spot, rt := fun _ _ => False } := by
  obtain ⟨N', J, ts, other, p, rfl, sh, o0, o1, rfl⟩ := hI
  have t7 : tOr (tB (eOp oEq (eVar 10) (eC (.int 4)))) (tOr (tB (eOp oEq (eVar 10) (eC (.int 5)))) (tB (eOp oEq (eVar 10) (eC (.int 7))))) (st h w vG vf vs x6 cell way spot (.ref N'.length) other vb) (N' ++ .lst (ts.map .int) :: J) = .ok (decide (way = 4) || (decide (way = 5) || decide (way = 7))) (N' ++ .lst (ts.map .int) :: J) := by
    unfold tOr
    simp only [tw_ok, R.bind]
    cases decide (way = 4) <;> cases decide (way = 5) <;> rfl
  refine sat_if t7 (fun _ => ?_) fun _ => ?_
  · have g1 := nth_mem (fs := fs) o0 (by rw [fl]; exact o1)
    have g2 := nth_mem (fs := fs) h0 (by rw [fl]; exact h1)
    have i1 := ix_ok (Lst.mono hf (p.trans (own_pre N' J (.lst (ts.map .int))))) o0 (by rw [fl]; exact o1)
    refine sat_seq (sat_asg (v := .int (nth fs other)) (M1 := N' ++ .lst (ts.map .int) :: J) (by unfold st; walk_at "ev"; simp only [i1]) (sub_ok rfl rfl h0 (by rw [sh.len]; exact h1)) ?_)
    have sh2 : Sheet (h * w) (ts.set spot.toNat (nth fs other)) := sh.set _ (by have := (fg _ g1).1; omega) (fg _ g1).2
    have i2 := ix_ok (Lst.mono hf (p.trans (own_pre N' J (.lst ((ts.set spot.toNat (nth fs other)).map .int))))) h0 (by rw [fl]; exact h1)
    dsimp only
    refine sat_asg (v := .int (nth fs spot)) (M1 := N' ++ .lst ((ts.set spot.toNat (nth fs other)).map .int) :: J) (by unfold st; walk_at "ev"; simp only [i2]) (sub_ok rfl rfl o0 (by rw [sh2.len]; exact o1)) ?_
    exact ⟨N', J, _, other, p, rfl, sh2.set _ (by have := (fg _ g2).1; omega) (fg _ g2).2, o0, o1, rfl⟩
  · exact ⟨N', J, ts, other, p, rfl, sh, o0, o1, rfl⟩
end
def lawMid : SM := sSeq if1 (sSeq if2 (sSeq if3 (sSeq if5 (sSeq if6 (sSeq if7 lawTail)))))
theorem mid_ok {h w : Nat} (hh : 1 ≤ h ∧ h ≤ 3) (hw : 1 ≤ w ∧ w ≤ 3) {N : Mem} {vG vf vs vb : W} {x6 : Option W} {cell way spot : Int} {fs ss : List Int} (h0 : 0 ≤ spot) (h1 : spot < ((h * w * (h * w) : Nat) : Int)) (hG : LL N vG (grps h w)) (hs : IntL N vs ss) (s1 : Sheet (h * w) ss)
    (hf : IntL N vf fs) (fl : fs.length = h * w * (h * w)) (fg : Good (h * w) fs) {σ : St} {M : Mem} (hI : InvB h w N vG vf vs vb x6 cell way spot σ M) : (lawMid σ M).Sat { nx := fun _ _ => False, rt := fun v _ => v = .bl true } := by
  refine sat_seq (RS.Sat.mono (if1_ok hh hw h0 h1 hI) (fun σ M hI => ?_) (fun _ _ z => z.elim) (fun _ _ z => z.elim) (fun _ _ z => z.elim))
  refine sat_seq (RS.Sat.mono (if2_ok hh hw hI) (fun σ M hI => ?_) (fun _ _ z => z.elim) (fun _ _ z => z.elim) (fun _ _ z => z.elim))
  refine sat_seq (RS.Sat.mono (if3_ok h0 h1 hI) (fun σ M hI => ?_) (fun _ _ z => z.elim) (fun _ _ z => z.elim) (fun _ _ z => z.elim))
  refine sat_seq (RS.Sat.mono (if5_ok hh hw hI) (fun σ M hI => ?_) (fun _ _ z => z.elim) (fun _ _ z => z.elim) (fun _ _ z => z.elim))
  refine sat_seq (RS.Sat.mono (if6_ok hh hw hf fl hI) (fun σ M hI => ?_) (fun _ _ z => z.elim) (fun _ _ z => z.elim) (fun _ _ z => z.elim))
  refine sat_seq (RS.Sat.mono (if7_ok h0 h1 hf fl fg hI) (fun σ M hI => ?_) (fun _ _ z => z.elim) (fun _ _ z => z.elim) (fun _ _ z => z.elim))
  obtain ⟨N', J, ts, other, p, rfl, sh, o0, o1, rfl⟩ := hI
  have P := p.trans (own_pre N' J (.lst (ts.map .int)))
  exact tail_ok h w hh hw _ vG vf vs (.ref N'.length) (some (.ref 0)) x6 (some (.int cell)) (some (.int way)) (some (.int spot)) (some (.int other)) (some vb) ss ts (hG.mono P) (Lst.mono hs P) ⟨_, rfl, own_get _ _ _⟩ s1 sh
end K2
end
section
set_option linter.all false
set_option autoImplicit false
set_option maxRecDepth 100000
namespace K2
open VM
local macro_rules | `(tactic| walk_at "ev") => `(tactic| simp only [tB, tAnd, tOr, tNot, tTrue, eOp, eVar, eC, eLst, eTup, aNil, aCons, eCall, eAnd, eOr, eNot, eIf, eIsN, eNotN, eMeth, R.bind, oAdd, oSub, gName, gSub, gTup, gEach, iRng1, iRng2, List.length_cons, List.length_nil, List.map_cons, List.map_nil, List.cons_append, List.nil_append, List.append_nil, List.getElem?_cons_zero, List.getElem?_cons_succ, List.set_cons_zero, List.set_cons_succ, if_true, if_false, Bool.false_eq_true, Nat.reduceAdd, Nat.reduceSub, List.replicate_succ, List.replicate_zero, Nat.zero_add, Nat.add_zero, clr, List.foldl_nil, List.foldl_cons, List.append_assoc])
theorem own_of_pre {N J M' : Mem} {o : O} (p : N ++ o :: J <+: M') : ∃ J', M' = N ++ o :: J' := by
  obtain ⟨r, rfl⟩ := p
  exact ⟨J ++ r, by simp⟩
theorem bare_ok {σ : St} {M : Mem} {vs : W} {ss : List Int} {spot : Int} (hs : IntL M vs ss) (hl : ss.length ≤ 81) (h0 : 0 ≤ spot) (h1 : spot < (ss.length : Int)) (e7 : ∀ x : Option W, eVar 7 (σ ++ [x]) = fun M => .ok vs M) (e7' : eVar 7 σ = fun M => .ok vs M) (e11 : eVar 11 σ = fun M => .ok (.int spot) M) (l18 : σ.length = 18) :
    ∃ J bs b0, eOp oAdd (eComp 1 [] (iRng1 (eCall fLen (aCons (eVar 7) aNil))) (gName 18) (tB (eOp oEq (eOp oIx (eVar 7) (eVar 18)) (eC (.int 0)))) (eVar 18)) (eLst (aCons (eVar 11) aNil)) σ M = .ok (.ref (M.length + J.length)) (M ++ (J ++ [.lst bs])) ∧ bs[0]? = some (.int b0) ∧ 0 ≤ b0 ∧ b0 < (ss.length : Int) := by
  have r1 : (ss.length : Int).natAbs < two62 := rng_ok (by omega) (by omega)
  have hi : iRng1 (eCall fLen (aCons (eVar 7) aNil)) σ M = .ok (rng 0 ss.length, []) M := by
    unfold iRng1 eCall aCons aNil
    rw [e7']
    simp only [R.bind, len_ok hs]
    rw [if_pos r1, Int.toNat_natCast]
  have hc : comp [] (gName 18) (tB (eOp oEq (eOp oIx (eVar 7) (eVar 18)) (eC (.int 0)))) (eVar 18) (rng 0 ss.length) (σ ++ [none]) M [] = .ok ((intsW 0 ss.length).filter fun x => match x with | .int i => decide (nth ss i = 0) | _ => false) M := by
    rw [rng_intsW, comp_flat (σ := σ ++ [none]) (fun x => match x with | .int i => decide (nth ss i = 0) | _ => false) (fun x => x) _ _ _ (fun _ => rfl) rfl ?_]
    · simp
    · intro x hx
      obtain ⟨k, hk, rfl⟩ := List.mem_map.mp hx
      rw [List.mem_range] at hk
      have es : (σ ++ [none]).set 18 (some (.int (0 + (k : Int)))) = σ ++ [some (.int (0 + (k : Int)))] := by
        rw [List.set_append_right _ _ (by omega), l18]; rfl
      have e18 : eVar 18 (σ ++ [some (.int (0 + (k : Int)))]) M = .ok (.int (0 + (k : Int))) M := by
        unfold eVar
        rw [List.getElem?_append_right (by omega), l18]
        rfl
      have ez : (0 : Int) + (k : Int) = (k : Int) := by omega
      have i1 := ix_ok hs (i := (k : Int)) (by omega) (by omega)
      rw [es]
      refine ⟨?_, fun _ => e18⟩
      rw [ez] at e18 ⊢
      unfold tB eOp eC
      rw [e7]
      simp only [R.bind, e18, ez, i1, eq_int]
  generalize hF : ((intsW 0 ss.length).filter fun x => match x with | .int i => decide (nth ss i = 0) | _ => false) = F at hc
  have hFl : F.length ≤ 81 := by
    have := List.length_filter_le (fun x => match x with | W.int i => decide (nth ss i = 0) | _ => false) (intsW 0 ss.length)
    rw [hF] at this
    simp [intsW] at this
    omega
  have hFm : ∀ x ∈ F, ∃ i : Int, x = .int i ∧ 0 ≤ i ∧ i < (ss.length : Int) := by
    intro x hx
    rw [← hF] at hx
    obtain ⟨k, hk, rfl⟩ := List.mem_map.mp (List.mem_filter.mp hx).1
    rw [List.mem_range] at hk
    exact ⟨_, rfl, by omega, by omega⟩
  have n1 : newL F M = .ok (.ref M.length) (M ++ [.lst F]) := newL_ok (by omega)
  have n2 : newL [.int spot] (M ++ [.lst F]) = .ok (.ref (M ++ [O.lst F]).length) (M ++ [.lst F] ++ [.lst [.int spot]]) := newL_ok (by show 1 ≤ 16777216; decide)
  have g1 := pre_get (pre_app (M ++ [.lst F]) [.lst [.int spot]]) (get_last M (.lst F))
  have g2 := get_last (M ++ [.lst F]) (.lst [.int spot])
  have n3 : newL (F ++ [.int spot]) (M ++ [O.lst F] ++ [O.lst [W.int spot]]) = .ok (.ref (M ++ [O.lst F] ++ [O.lst [W.int spot]]).length) (M ++ [O.lst F] ++ [O.lst [W.int spot]] ++ [.lst (F ++ [.int spot])]) := newL_ok (by rw [List.length_append]; simp; omega)
  obtain ⟨b0, hb, q0, q1⟩ : ∃ b0 : Int, (F ++ [.int spot])[0]? = some (.int b0) ∧ 0 ≤ b0 ∧ b0 < (ss.length : Int) := by
    cases F with
    | nil => exact ⟨spot, rfl, h0, h1⟩
    | cons x r =>
      obtain ⟨i, rfl, a, b⟩ := hFm x List.mem_cons_self
      exact ⟨i, rfl, a, b⟩
  refine ⟨[.lst F, .lst [.int spot]], F ++ [.int spot], b0, ?_, hb, q0, q1⟩
  have c1 : eComp 1 [] (iRng1 (eCall fLen (aCons (eVar 7) aNil))) (gName 18) (tB (eOp oEq (eOp oIx (eVar 7) (eVar 18)) (eC (.int 0)))) (eVar 18) σ M = .ok (.ref M.length) (M ++ [.lst F]) := by
    unfold eComp
    rw [hi]
    simp only [R.bind, clr, List.foldl_nil, List.replicate_succ, List.replicate_zero, hc, n1]
  show (eComp 1 [] _ _ _ _ σ M).bind _ = _
  rw [c1]
  simp only [R.bind, eLst, aCons, aNil, e11, n2, oAdd, mutOf_at g1, mutOf_at g2, n3]
  simp
theorem idx3 (s : Int) : ∃ i : Int, (if decide ((3 : Int) < s) = true then (1 : Int) else 0) + (if decide ((4 : Int) < s) = true then (1 : Int) else 0) = i ∧ 0 ≤ i ∧ i < 3 ∧ 0 < nth [7, 4, 3] i := by
  refine ⟨_, rfl, ?_⟩
  by_cases a : (3 : Int) < s <;> by_cases b : (4 : Int) < s <;> simp [a, b, nth]
theorem sheet_of {s : Nat} {fs ss : List Int} (fl : fs.length = s * s) (fg : Good s fs) (sl : ss.length = fs.length) (h : ∀ j : Nat, j < fs.length → (nth ss j = 0 ∨ nth ss j = nth fs j)) : Sheet s ss := by
  have key : ∀ x ∈ ss, x = 0 ∨ x ∈ fs := by
    intro x hx
    obtain ⟨j, hj, rfl⟩ := List.getElem_of_mem hx
    have := h j (by omega)
    rw [nth_nat hj, nth_nat (fs := fs) (by omega)] at this
    rcases this with q | q
    · exact .inl q
    · rw [q]; exact .inr (List.getElem_mem _)
  refine ⟨by omega, fun x hx => ?_, fun x hx => ?_⟩
  · rcases key x hx with rfl | q
    · omega
    · have := (fg x q).1; omega
  · rcases key x hx with rfl | q
    · omega
    · exact (fg x q).2
theorem law_ok' (ns : List Int) (hl : ns.length ≤ 63) (M0 : Mem) (hM0 : Scr M0 ns) : ∃ v M, d_law fillsF d_L_at sameF d_L_all_groups d_L_full_sheet d_L_sheet_by filledF (d_L_shape_for d_L_at d_L_shape_of) [.ref 0] M0 = .ok v M ∧ v = .bl true := by
  refine sat_fn rfl ?_
  show (sSeq _ _ [some (.ref 0), none, none, none, none, none, none, none, none, none, none, none, none, none, none, none, none, none] M0).Sat _
  obtain ⟨v1, M1, e1, p1, h, w, T1, hh, hw⟩ := shape_ok M0 ns hM0 hl
  obtain ⟨s9, s1⟩ := sh9 hh hw
  have hss : h * w * (h * w) ≤ 9 * 9 := Nat.mul_le_mul s9 s9
  refine sat_seq (sat_asg (v := v1) (M1 := M1) (M2 := M1) (σ1 := [some (.ref 0), some (.int h), some (.int w), none, none, none, none, none, none, none, none, none, none, none, none, none, none, none]) (by walk_at "ev"; exact e1) (by simp only [gTup, T1.tupOf, gEach, gName, R.bind, List.length_cons, List.length_nil, if_true, List.set_cons_zero, List.set_cons_succ]) ?_)
  dsimp only
  have m1 := mul_ok (M := M1) (i := (h : Int)) (j := (w : Int)) (by omega)
  have es : (h : Int) * (w : Int) = ((h * w : Nat) : Int) := by simp
  refine sat_seq (sat_set (v := .int ((h : Int) * w)) (M1 := M1) (by walk_at "ev"; simp only [m1]) ?_)
  simp only [List.set_cons_zero, List.set_cons_succ, es]
  have S1 := hM0.mono p1
  obtain ⟨vG, M2, e2, p2, G2⟩ := all_groups_ok h w M1 hh hw
  refine sat_seq (sat_set (v := vG) (M1 := M2) (by walk_at "ev"; exact e2) ?_)
  simp only [List.set_cons_zero, List.set_cons_succ]
  have S2 := S1.mono p2
  obtain ⟨c3, M3, e3, p3⟩ := at_ok ns M2 1 S2 hl
  obtain ⟨vf, M4, e4, p4, fs, F4, fl, fg⟩ := full_ok h w c3 M3 hh hw
  refine sat_seq (sat_set (v := vf) (M1 := M4) (by walk_at "ev"; simp only [e3, e4]) ?_)
  simp only [List.set_cons_zero, List.set_cons_succ]
  have S4 := S2.mono (p3.trans p4)
  obtain ⟨c5, M5, e5, p5⟩ := at_ok ns M4 2 S4 hl
  obtain ⟨i6, ei6, i60, i61, i62⟩ := idx3 ((h * w : Nat) : Int)
  have n6 : newL [.int 7, .int 4, .int 3] M5 = .ok (.ref M5.length) (M5 ++ [.lst [.int 7, .int 4, .int 3]]) := newL_ok (by show 3 ≤ 16777216; decide)
  have p6 : M5 <+: M5 ++ [.lst [.int 7, .int 4, .int 3]] := pre_app _ _
  have L6 : IntL (M5 ++ [.lst [.int 7, .int 4, .int 3]]) (.ref M5.length) [7, 4, 3] := Lst.new _ _
  generalize hM6 : M5 ++ [O.lst [.int 7, .int 4, .int 3]] = M6 at n6 p6 L6
  have x6 := ix_ok L6 i60 (by show i6 < ((3 : Nat) : Int); omega)
  have y6 := mod_ok (M := M6) (i := c5) (j := nth [7, 4, 3] i6) i62
  refine sat_seq (sat_set (v := .int (c5 % nth [7, 4, 3] i6)) (M1 := M6) ?_ ?_)
  · walk_at "ev"
    simp only [e5, n6, gt_int, fInt, ei6, x6, y6]
  simp only [List.set_cons_zero, List.set_cons_succ]
  have S6 := S4.mono (p5.trans p6)
  have F6 := Lst.mono F4 (p5.trans p6)
  have n7 := S6.cut hl (some 3) (some 19)
  have p7 : M6 <+: M6 ++ [.lst ((VM.cut ns (some 3) (some 19)).map .int)] := pre_app _ _
  have L7 : IntL (M6 ++ [.lst ((VM.cut ns (some 3) (some 19)).map .int)]) (.ref M6.length) (VM.cut ns (some 3) (some 19)) := Lst.new _ _
  generalize hM7 : M6 ++ [O.lst ((VM.cut ns (some 3) (some 19)).map .int)] = M7 at n7 p7 L7
  have F7 := Lst.mono F6 p7
  obtain ⟨vs, M8, e8, p8, ss, L8, sl, sb⟩ := by_ok M7 vf (.ref M6.length) fs _ (c5 % nth [7, 4, 3] i6) F7 L7 (by omega)
  refine sat_seq (sat_set (v := vs) (M1 := M8) ?_ ?_)
  · walk_at "ev"
    simp only [eSl, pSome, R.bind, eVar, eC, List.getElem?_cons_zero, n7, e8]
  simp only [List.set_cons_zero, List.set_cons_succ]
  have sh : Sheet (h * w) ss := sheet_of fl fg sl sb
  have S8 := S6.mono (p7.trans p8)
  have F8 := Lst.mono F7 p8
  have G8 : LL M8 vG (grps h w) := G2.mono (p3.trans (p4.trans (p5.trans (p6.trans (p7.trans p8)))))
  have n9 := flist_ok F8 (by omega)
  refine sat_seq (sat_set (v := .ref M8.length) (M1 := M8 ++ [.lst (fs.map .int)]) (by walk_at "ev"; exact n9) ?_)
  simp only [List.set_cons_zero, List.set_cons_succ]
  have p9 : M8 <+: M8 ++ [.lst (fs.map .int)] := pre_app _ _
  have T9 : IntL (M8 ++ [.lst (fs.map .int)]) (.ref M8.length) fs := Lst.new _ _
  generalize hM9 : M8 ++ [O.lst (fs.map .int)] = M9 at p9 T9
  obtain ⟨c, M10, e10, p10⟩ := at_ok ns M9 19 (S8.mono p9) hl
  refine sat_seq (sat_set (v := .int c) (M1 := M10) (by walk_at "ev"; exact e10) ?_)
  simp only [List.set_cons_zero, List.set_cons_succ]
  have w10 := mod_ok (M := M10) (i := c) (j := 8) (by decide)
  refine sat_seq (sat_set (v := .int (c % 8)) (M1 := M10) (by walk_at "ev"; simp only [w10]) ?_)
  simp only [List.set_cons_zero, List.set_cons_succ]
  have T10 := Lst.mono T9 p10
  have d11 := div_ok (M := M10) (i := c) (j := 8) (by decide) (by decide)
  have hpos : (0 : Int) < (fs.length : Int) := by
    have : 0 < h * w * (h * w) := Nat.mul_pos s1 s1
    omega
  have w11 := mod_ok (M := M10) (i := c / 8) (j := (fs.length : Int)) hpos
  refine sat_seq (sat_set (v := .int (c / 8 % (fs.length : Int))) (M1 := M10) (by walk_at "ev"; simp only [d11, len_ok T10, w11]) ?_)
  simp only [List.set_cons_zero, List.set_cons_succ]
  have sp0 := Int.emod_nonneg (c / 8) (show (fs.length : Int) ≠ 0 by omega)
  have sp1 := Int.emod_lt_of_pos (c / 8) hpos
  generalize hspot : c / 8 % (fs.length : Int) = spot at sp0 sp1
  obtain ⟨c12, M12, e12, p12⟩ := at_ok ns M10 20 (S8.mono (p9.trans p10)) hl
  have T12 := Lst.mono T10 p12
  have w12 := mod_ok (M := M12) (i := c12) (j := (fs.length : Int)) hpos
  have d12 := div_ok (M := M12) (i := spot) (j := ((h * w : Nat) : Int)) (by omega) (by omega)
  have u12 : oMul (.int (spot / ((h * w : Nat) : Int))) (.int (h * w : Nat)) M12 = .ok (.int (spot / ((h * w : Nat) : Int) * (h * w : Nat))) M12 := if_pos (.inr (by unfold two64; omega))
  have n12 : newL [.int (c12 % (fs.length : Int)), .int (spot / ((h * w : Nat) : Int) * (h * w : Nat))] M12 = .ok (.ref M12.length) (M12 ++ [.lst [.int (c12 % (fs.length : Int)), .int (spot / ((h * w : Nat) : Int) * (h * w : Nat))]]) := newL_ok (by show 2 ≤ 16777216; decide)
  have p13 : M12 <+: M12 ++ [.lst [.int (c12 % (fs.length : Int)), .int (spot / ((h * w : Nat) : Int) * (h * w : Nat))]] := pre_app _ _
  have L13 : IntL (M12 ++ [.lst [.int (c12 % (fs.length : Int)), .int (spot / ((h * w : Nat) : Int) * (h * w : Nat))]]) (.ref M12.length) [c12 % (fs.length : Int), spot / ((h * w : Nat) : Int) * (h * w : Nat)] := Lst.new _ _
  generalize hM13 : M12 ++ [O.lst [.int (c12 % (fs.length : Int)), .int (spot / ((h * w : Nat) : Int) * (h * w : Nat))]] = M13 at n12 p13 L13
  obtain ⟨i13, ei13, i130, i131⟩ : ∃ i : Int, (if decide (c % 8 = 4) = true then (1 : Int) else 0) = i ∧ 0 ≤ i ∧ i < 2 := ⟨_, rfl, by split <;> decide, by split <;> decide⟩
  have x13 := ix_ok L13 i130 (by show i13 < ((2 : Nat) : Int); omega)
  obtain ⟨other, eo, o0, o1⟩ : ∃ other : Int, nth [c12 % (fs.length : Int), spot / ((h * w : Nat) : Int) * (h * w : Nat)] i13 = other ∧ 0 ≤ other ∧ other < (fs.length : Int) := by
    refine ⟨_, rfl, ?_⟩
    have hm := nth_mem (fs := [c12 % (fs.length : Int), spot / ((h * w : Nat) : Int) * (h * w : Nat)]) i130 (by show i13 < ((2 : Nat) : Int); omega)
    simp only [List.mem_cons, List.not_mem_nil, or_false] at hm
    rcases hm with q | q
    · rw [q]; exact ⟨Int.emod_nonneg _ (by omega), Int.emod_lt_of_pos _ hpos⟩
    · rw [q]
      have a := Int.ediv_mul_le spot (show ((h * w : Nat) : Int) ≠ 0 by omega)
      have b := Int.mul_nonneg (Int.ediv_nonneg sp0 (show (0 : Int) ≤ ((h * w : Nat) : Int) by omega)) (show (0 : Int) ≤ ((h * w : Nat) : Int) by omega)
      omega
  refine sat_seq (sat_set (v := .int other) (M1 := M13) ?_ ?_)
  · walk_at "ev"
    simp only [e12, len_ok T12, w12, d12, u12, n12, eq_int, fInt, ei13, x13, eo]
  simp only [List.set_cons_zero, List.set_cons_succ]
  have p813 : M8 <+: M13 := p9.trans (p10.trans (p12.trans p13))
  have L13s := Lst.mono L8 p813
  obtain ⟨J, bs, b0, eb, hb, b00, b01⟩ := bare_ok (σ := [some (.ref 0), some (.int h), some (.int w), some (.int (h * w : Nat)), some vG, some vf, some (.int (c5 % nth [7, 4, 3] i6)), some vs, some (.ref M8.length), some (.int c), some (.int (c % 8)), some (.int spot), some (.int other), none, none, none, none, none]) L13s (by omega) sp0 (by omega) (fun _ => rfl) rfl rfl rfl
  refine sat_seq (sat_set eb ?_)
  simp only [List.set_cons_zero, List.set_cons_succ]
  obtain ⟨J1, hJ1⟩ := own_of_pre (N := M8) (J := []) (o := .lst (fs.map .int)) (M' := M13) (by rw [hM9]; exact p10.trans (p12.trans p13))
  have tail := mid_ok hh hw (N := M8) (vG := vG) (vf := vf) (vs := vs) (vb := .ref (M13.length + J.length)) (x6 := some (.int (c5 % nth [7, 4, 3] i6))) (cell := c) (way := c % 8) (spot := spot) (fs := fs) (ss := ss) sp0 (by rw [← fl]; exact sp1) G8 L8 sh F8 fl fg
    (σ := st h w vG vf vs (some (.int (c5 % nth [7, 4, 3] i6))) c (c % 8) spot (.ref M8.length) other (.ref (M13.length + J.length))) (M := M13 ++ (J ++ [.lst bs]))
    ⟨J1 ++ (J ++ [.lst bs]), fs, other, J1.length + J.length, bs, b0, by rw [hJ1]; simp, by rw [List.getElem?_append_right (by omega), Nat.add_sub_cancel_left, List.getElem?_append_right (Nat.le_refl _)]; simp, by rw [hJ1]; simp; omega, hb, b00, by omega, ⟨fl, fun x hx => by have := (fg x hx).1; omega, fun x hx => (fg x hx).2⟩, o0, by rw [← fl]; exact o1, rfl⟩
  refine RS.Sat.mono tail (fun _ _ z => z.elim) (fun v M z => z) (fun _ _ z => z.elim) (fun _ _ z => z.elim)
theorem math (ns : List Int) (hl : ns.length ≤ 63) : ∃ M, callK tab 9 18 [.ref 0] [.frz (ns.map .int)] = .ok (.bl true) M := by
  obtain ⟨v, M, e, rfl⟩ := law_ok' ns hl [.frz (ns.map .int)] rfl
  exact ⟨M, e⟩
end K2
end
section
set_option Elab.async false
set_option linter.all false
set_option autoImplicit false
set_option maxRecDepth 100000
set_option maxHeartbeats 4000000
/-! The small machine is kept by the layer: what the machine answers, the program does. -/
namespace SV
open PySem L2
abbrev Fg := PySem.W.Frag
def txt (x : List Nat) : Str := ⟨x.toArray⟩
theorem txt_inj {x y : List Nat} (h : txt x = txt y) : x = y := by
  have e : x.toArray = y.toArray := congrArg Str.cps h
  simpa using e
def RV (ι : List Addr) : VM.W → V → Prop
  | .non, v => v = .non
  | .bl b, v => v = .bl b
  | .int i, v => v = .int i
  | .str x, v => v = .str (txt x)
  | .ref a, v => ∃ p, ι[a]? = some p ∧ v = .ref p
abbrev RVs (ι : List Addr) : List VM.W → List V → Prop := Paired (RV ι)
def RO1 (ι : List Addr) : Option VM.W → Option V → Prop
  | none, _ => True
  | some w, q => ∃ v, q = some v ∧ RV ι w v
abbrev RSt (ι : List Addr) : VM.St → L2.St → Prop := Paired (RO1 ι)
/-- a list that is read alone -/
def FzL (K : Fg) (H : Hp) (p : Addr) (vs : List V) : Prop :=
  (∃ o, H p = some (.frz o (.lst vs))) ∨
    ∃ (o : Obj) (its : Array Value) (n : Nat), K.lookup p = some o ∧ o.cls = .type "list" ∧ o.dict = none ∧ o.data = .seq its n ∧ its.size ≤ sizeLine ∧ Vals vs its.toList
theorem FzL.sq {K : Fg} {H : Hp} {p : Addr} {vs : List V} (h : FzL K H p vs) : SqL K H p vs := by
  rcases h with ⟨o, h⟩ | h
  · exact .inl (.inr ⟨o, h⟩)
  · exact .inr h
def RO (K : Fg) (ι : List Addr) (H : Hp) (p : Addr) : VM.O → Prop
  | .lst xs => ∃ vs, H p = some (.lst vs) ∧ RVs ι xs vs
  | .tup xs => ∃ vs, H p = some (.tup vs) ∧ RVs ι xs vs
  | .frz xs => ∃ vs, FzL K H p vs ∧ RVs ι xs vs
def live : VM.O → Bool
  | .lst _ => true
  | .tup _ => true
  | .frz _ => false
structure Rel (K : Fg) (ι : List Addr) (M : VM.Mem) (H : Hp) : Prop where
  len : ι.length = M.length
  obj : ∀ (a : Nat) (p : Addr) (o : VM.O), ι[a]? = some p → M[a]? = some o → RO K ι H p o
  inj : ∀ (a b : Nat) (p : Addr) (oa ob : VM.O), ι[a]? = some p → ι[b]? = some p → M[a]? = some oa → M[b]? = some ob → live oa = true → live ob = true → a = b
/-! ### monotone -/
section
variable {ι ι' : List Addr}
theorem get_pre (h : ι <+: ι') {a : Nat} {p : Addr} (e : ι[a]? = some p) : ι'[a]? = some p := by
  obtain ⟨r, rfl⟩ := h
  have ha : a < ι.length := (List.getElem?_eq_some_iff.mp e).1
  rw [List.getElem?_append_left ha]; exact e
theorem RV.mono (h : ι <+: ι') {w : VM.W} {v : V} (r : RV ι w v) : RV ι' w v := by
  cases w with
  | ref a => obtain ⟨p, e, q⟩ := r; exact ⟨p, get_pre h e, q⟩
  | non => exact r
  | bl _ => exact r
  | int _ => exact r
  | str _ => exact r
theorem Paired.imp2 {α β : Type} {F G : α → β → Prop} (f : ∀ a b, F a b → G a b) : ∀ {l : List α} {m : List β}, Paired F l m → Paired G l m
  | _, _, .nil => .nil
  | _, _, .cons r t => .cons (f _ _ r) (Paired.imp2 f t)
theorem RVs.mono (h : ι <+: ι') {ws : List VM.W} {vs : List V} (r : RVs ι ws vs) : RVs ι' ws vs := Paired.imp2 (fun _ _ q => RV.mono h q) r
theorem RO1.mono (h : ι <+: ι') {o : Option VM.W} {q : Option V} (r : RO1 ι o q) : RO1 ι' o q := by
  cases o with
  | none => exact r
  | some w => obtain ⟨v, e, q⟩ := r; exact ⟨v, e, q.mono h⟩
theorem RSt.mono (h : ι <+: ι') {σ : VM.St} {τ : L2.St} (r : RSt ι σ τ) : RSt ι' σ τ := Paired.imp2 (fun _ _ q => RO1.mono h q) r
theorem pre_refl : ι <+: ι := List.prefix_refl _
end
theorem Paired.len {α β : Type} {F : α → β → Prop} : ∀ {l : List α} {m : List β}, Paired F l m → l.length = m.length
  | _, _, .nil => rfl
  | _, _, .cons _ t => by simp [Paired.len t]
theorem Paired.at {α β : Type} {F : α → β → Prop} : ∀ {l : List α} {m : List β} {i : Nat} {x : α}, Paired F l m → l[i]? = some x → ∃ y, m[i]? = some y ∧ F x y
  | _, _, _, _, .nil, e => by simp at e
  | _, _, 0, _, .cons r _, e => by simp at e; subst e; exact ⟨_, rfl, r⟩
  | _, _, i + 1, x, .cons _ t, e => by
    obtain ⟨y, h1, h2⟩ := Paired.at (i := i) (x := x) t (by simpa using e)
    exact ⟨y, by simpa using h1, h2⟩
theorem Paired.setP {α β : Type} {F : α → β → Prop} {x : α} {y : β} (r : F x y) : ∀ {l : List α} {m : List β} (i : Nat), Paired F l m → Paired F (l.set i x) (m.set i y)
  | _, _, _, .nil => .nil
  | _, _, 0, .cons _ t => .cons r t
  | _, _, i + 1, .cons q t => .cons q (Paired.setP r i t)
theorem Paired.app {α β : Type} {F : α → β → Prop} : ∀ {l l2 : List α} {m m2 : List β}, Paired F l m → Paired F l2 m2 → Paired F (l ++ l2) (m ++ m2)
  | _, _, _, _, .nil, s => s
  | _, _, _, _, .cons r t, s => .cons r (Paired.app t s)
theorem Paired.takeP {α β : Type} {F : α → β → Prop} : ∀ {l : List α} {m : List β} (n : Nat), Paired F l m → Paired F (l.take n) (m.take n)
  | _, _, 0, _ => .nil
  | _, _, _ + 1, .nil => .nil
  | _, _, n + 1, .cons r t => .cons r (Paired.takeP n t)
theorem Paired.dropP {α β : Type} {F : α → β → Prop} : ∀ {l : List α} {m : List β} (n : Nat), Paired F l m → Paired F (l.drop n) (m.drop n)
  | _, _, 0, r => r
  | _, _, _ + 1, .nil => .nil
  | _, _, n + 1, .cons _ t => Paired.dropP n t
theorem Paired.dropLastP {α β : Type} {F : α → β → Prop} {l : List α} {m : List β} (h : Paired F l m) : Paired F l.dropLast m.dropLast := by
  rw [List.dropLast_eq_take, List.dropLast_eq_take, ← Paired.len h]
  exact Paired.takeP _ h
/-! ### the memory -/
section
variable {K : Fg} {ι : List Addr} {M : VM.Mem} {H : Hp}
theorem RO.mono {ι' : List Addr} (h : ι <+: ι') {p : Addr} {o : VM.O} (r : RO K ι H p o) : RO K ι' H p o := by
  cases o with
  | lst xs => obtain ⟨vs, e, q⟩ := r; exact ⟨vs, e, RVs.mono h q⟩
  | tup xs => obtain ⟨vs, e, q⟩ := r; exact ⟨vs, e, RVs.mono h q⟩
  | frz xs => obtain ⟨vs, e, q⟩ := r; exact ⟨vs, e, RVs.mono h q⟩
theorem Rel.addr (R : Rel K ι M H) {a : Nat} {o : VM.O} (e : M[a]? = some o) : ∃ p, ι[a]? = some p := by
  have ha : a < M.length := (List.getElem?_eq_some_iff.mp e).1
  exact ⟨ι[a]'(by rw [R.len]; exact ha), by simp⟩
theorem RO.other {p q : Addr} {o : VM.O} {u : HO} (r : RO K ι H p o) (h : live o = true → p ≠ q) (hq : ∀ ob vs, H q ≠ some (.frz ob (.lst vs))) : RO K ι (upd H q u) p o := by
  cases o with
  | lst xs => obtain ⟨vs, e, z⟩ := r; exact ⟨vs, by rw [upd_ne (h rfl)]; exact e, z⟩
  | tup xs => obtain ⟨vs, e, z⟩ := r; exact ⟨vs, by rw [upd_ne (h rfl)]; exact e, z⟩
  | frz xs =>
    obtain ⟨vs, e, z⟩ := r
    refine ⟨vs, ?_, z⟩
    rcases e with ⟨ob, e⟩ | e
    · refine .inl ⟨ob, ?_⟩
      have hp : p ≠ q := by rintro rfl; exact hq _ _ e
      rw [upd_ne hp]; exact e
    · exact .inr e
/-- a new object -/
theorem Rel.new (R : Rel K ι M H) {p : Addr} (hp : H p = none) {o : VM.O} {u : HO} (hn : ∀ ι', ι <+: ι' → RO K ι' (upd H p u) p o) : Rel K (ι ++ [p]) (M ++ [o]) (upd H p u) := by
  have pre : ι <+: ι ++ [p] := ⟨[p], rfl⟩
  have old : ∀ a q x, ι[a]? = some q → M[a]? = some x → RO K (ι ++ [p]) (upd H p u) q x := fun a q x h1 h2 => by
    have r := R.obj a q x h1 h2
    refine RO.mono pre (RO.other r (fun hl => ?_) fun ob vs e => ?_)
    · rintro rfl
      cases x with
      | lst xs => obtain ⟨vs, e, _⟩ := r; rw [hp] at e; cases e
      | tup xs => obtain ⟨vs, e, _⟩ := r; rw [hp] at e; cases e
      | frz xs => cases hl
    · rw [hp] at e; cases e
  have notp : ∀ a x, ι[a]? = some p → M[a]? = some x → live x = true → False := fun a x h1 h2 hl => by
    have r := R.obj a p x h1 h2
    cases x with
    | lst xs => obtain ⟨vs, e, _⟩ := r; rw [hp] at e; cases e
    | tup xs => obtain ⟨vs, e, _⟩ := r; rw [hp] at e; cases e
    | frz xs => cases hl
  have split : ∀ a q, (ι ++ [p])[a]? = some q → (a < ι.length ∧ ι[a]? = some q) ∨ (a = ι.length ∧ q = p) := fun a q h => by
    by_cases ha : a < ι.length
    · rw [List.getElem?_append_left ha] at h; exact .inl ⟨ha, h⟩
    · rw [List.getElem?_append_right (Nat.le_of_not_lt ha)] at h
      have : a - ι.length = 0 := by
        cases hk : a - ι.length with
        | zero => rfl
        | succ k => rw [hk] at h; simp at h
      rw [this] at h
      simp at h
      exact .inr ⟨by omega, h.symm⟩
  have splitM : ∀ a x, (M ++ [o])[a]? = some x → (a < ι.length → M[a]? = some x) ∧ (a = ι.length → x = o) := fun a x h => by
    refine ⟨fun ha => ?_, fun ha => ?_⟩
    · rw [List.getElem?_append_left (by rw [← R.len]; exact ha)] at h; exact h
    · subst ha
      rw [R.len] at h
      simp at h
      exact h.symm
  refine ⟨by simp [R.len], fun a q x h1 h2 => ?_, fun a b q xa xb h1 h2 h3 h4 l1 l2 => ?_⟩
  · rcases split a q h1 with ⟨ha, h1⟩ | ⟨ha, rfl⟩
    · exact old a q x h1 ((splitM a x h2).1 ha)
    · rw [(splitM a x h2).2 ha]; exact hn _ pre
  · rcases split a q h1 with ⟨ha, g1⟩ | ⟨ha, eq1⟩
    · rcases split b q h2 with ⟨hb, g2⟩ | ⟨hb, eq2⟩
      · exact R.inj a b q xa xb g1 g2 ((splitM a xa h3).1 ha) ((splitM b xb h4).1 hb) l1 l2
      · rw [eq2] at g1; exact (notp a xa g1 ((splitM a xa h3).1 ha) l1).elim
    · rcases split b q h2 with ⟨hb, g2⟩ | ⟨hb, _⟩
      · rw [eq1] at g2; exact (notp b xb g2 ((splitM b xb h4).1 hb) l2).elim
      · rw [ha, hb]
/-- a list is written -/
theorem Rel.set (R : Rel K ι M H) {a : Nat} {p : Addr} {xs ys : List VM.W} {us : List V} (hp : ι[a]? = some p) (ha : M[a]? = some (.lst xs)) (hu : RVs ι ys us) : Rel K ι (M.set a (.lst ys)) (upd H p (.lst us)) := by
  have hlt : a < M.length := (List.getElem?_eq_some_iff.mp ha).1
  obtain ⟨vs, hv, _⟩ := R.obj a p _ hp ha
  have look : ∀ b x, (M.set a (.lst ys))[b]? = some x → (b = a ∧ x = .lst ys) ∨ (b ≠ a ∧ M[b]? = some x) := fun b x h => by
    by_cases hb : b = a
    · subst hb
      rw [List.getElem?_set_self hlt] at h
      exact .inl ⟨rfl, (Option.some.inj h).symm⟩
    · rw [List.getElem?_set_ne (Ne.symm hb)] at h
      exact .inr ⟨hb, h⟩
  have look2 : ∀ b x, (M.set a (.lst ys))[b]? = some x → ∃ y, M[b]? = some y ∧ live y = live x := fun b x h => by
    rcases look b x h with ⟨rfl, rfl⟩ | ⟨_, h⟩
    · exact ⟨_, ha, rfl⟩
    · exact ⟨x, h, rfl⟩
  refine ⟨by simp [R.len], fun b q x h1 h2 => ?_, fun b c q xb xc h1 h2 h3 h4 l1 l2 => ?_⟩
  · rcases look b x h2 with ⟨rfl, rfl⟩ | ⟨hb, h2⟩
    · rw [hp] at h1; cases h1
      exact ⟨us, upd_same, hu⟩
    · refine RO.other (R.obj b q x h1 h2) (fun hl => ?_) fun ob vs' e => ?_
      · rintro rfl
        exact hb (R.inj b a q x _ h1 hp h2 ha hl rfl)
      · rw [hv] at e; cases e
  · obtain ⟨yb, e1, z1⟩ := look2 b xb h3
    obtain ⟨yc, e2, z2⟩ := look2 c xc h4
    exact R.inj b c q yb yc h1 h2 e1 e2 (by rw [z1]; exact l1) (by rw [z2]; exact l2)
theorem Rel.lstOf (R : Rel K ι M H) {w : VM.W} {xs : List VM.W} {v : V} (e : VM.lstOf M w = some xs) (r : RV ι w v) : ∃ p vs, v = .ref p ∧ SqL K H p vs ∧ RVs ι xs vs := by
  cases w with
  | ref a =>
    obtain ⟨p, hp, rfl⟩ := r
    simp only [VM.lstOf] at e
    cases hm : M[a]? with
    | none => rw [hm] at e; cases e
    | some o =>
      rw [hm] at e
      have ro := R.obj a p o hp hm
      cases o with
      | lst ys => cases e; obtain ⟨vs, h1, h2⟩ := ro; exact ⟨p, vs, rfl, SqL.of h1, h2⟩
      | frz ys => cases e; obtain ⟨vs, h1, h2⟩ := ro; exact ⟨p, vs, rfl, h1.sq, h2⟩
      | tup ys => cases e
  | non => cases e
  | bl _ => cases e
  | int _ => cases e
  | str _ => cases e
theorem Rel.tupOf (R : Rel K ι M H) {w : VM.W} {xs : List VM.W} {v : V} (e : VM.tupOf M w = some xs) (r : RV ι w v) : ∃ p vs, v = .ref p ∧ H p = some (.tup vs) ∧ RVs ι xs vs := by
  cases w with
  | ref a =>
    obtain ⟨p, hp, rfl⟩ := r
    simp only [VM.tupOf] at e
    cases hm : M[a]? with
    | none => rw [hm] at e; cases e
    | some o =>
      rw [hm] at e
      have ro := R.obj a p o hp hm
      cases o with
      | tup ys => cases e; obtain ⟨vs, h1, h2⟩ := ro; exact ⟨p, vs, rfl, h1, h2⟩
      | frz ys => cases e
      | lst ys => cases e
  | non => cases e
  | bl _ => cases e
  | int _ => cases e
  | str _ => cases e
theorem Rel.seqOf (R : Rel K ι M H) {w : VM.W} {xs : List VM.W} {v : V} (e : VM.seqOf M w = some xs) (r : RV ι w v) : ∃ p vs, v = .ref p ∧ (SqL K H p vs ∨ SqT K H p vs) ∧ RVs ι xs vs := by
  unfold VM.seqOf at e
  cases h : VM.lstOf M w with
  | some ys =>
    rw [h] at e; cases e
    obtain ⟨p, vs, a, b, c⟩ := R.lstOf h r
    exact ⟨p, vs, a, .inl b, c⟩
  | none =>
    rw [h] at e
    obtain ⟨p, vs, a, b, c⟩ := R.tupOf e r
    exact ⟨p, vs, a, .inr (SqT.of b), c⟩
theorem Rel.mutOf (R : Rel K ι M H) {w : VM.W} {a : Nat} {xs : List VM.W} {v : V} (e : VM.mutOf M w = some (a, xs)) (r : RV ι w v) : ∃ p vs, w = .ref a ∧ ι[a]? = some p ∧ M[a]? = some (.lst xs) ∧ v = .ref p ∧ H p = some (.lst vs) ∧ RVs ι xs vs := by
  cases w with
  | ref b =>
    obtain ⟨p, hp, rfl⟩ := r
    simp only [VM.mutOf] at e
    cases hm : M[b]? with
    | none => rw [hm] at e; cases e
    | some o =>
      rw [hm] at e
      have ro := R.obj b p o hp hm
      cases o with
      | lst ys =>
        cases e
        obtain ⟨vs, h1, h2⟩ := ro
        exact ⟨p, vs, rfl, hp, hm, rfl, h1, h2⟩
      | frz ys => cases e
      | tup ys => cases e
  | non => cases e
  | bl _ => cases e
  | int _ => cases e
  | str _ => cases e
end
/-! ### what is wanted -/
def Post {α β : Type} (rel : List Addr → α → β → Prop) (K : Fg) (ι : List Addr) (r : VM.R α) (Q : β → Hp → Prop) : Prop := match r with
  | .ok a M' => ∀ ι' H' b, ι <+: ι' → Rel K ι' M' H' → rel ι' a b → Q b H'
  | .ex _ _ => False
  | .bad => False
theorem Post.seq {α β γ δ : Type} {rA : List Addr → α → β → Prop} {rC : List Addr → γ → δ → Prop} {K : Fg} {ι : List Addr} {r : VM.R α} {f : α → VM.Mem → VM.R γ} {Q : δ → Hp → Prop} {Q2 : β → Hp → Prop} (h : Post rC K ι (r.bind f) Q)
    (k : ∀ ι' H' a M' b, ι <+: ι' → Rel K ι' M' H' → rA ι' a b → Post rC K ι' (f a M') Q → Q2 b H') : Post rA K ι r Q2 := by
  cases r with
  | ok a M' =>
    intro ι' H' b hp R rr
    refine k ι' H' a M' b hp R rr ?_
    have h' : Post rC K ι (f a M') Q := h
    cases e : f a M' with
    | ok c M2 => rw [e] at h'; exact fun ι2 H2 d p2 R2 r2 => h' ι2 H2 d (List.IsPrefix.trans hp p2) R2 r2
    | ex _ _ => rw [e] at h'; exact h'.elim
    | bad => rw [e] at h'; exact h'.elim
  | ex _ _ => exact (h : False).elim
  | bad => exact (h : False).elim
theorem Post.up {α β : Type} {rel : List Addr → α → β → Prop} {K : Fg} {ι ι' : List Addr} {r : VM.R α} {Q : β → Hp → Prop} (p : ι <+: ι') (h : Post rel K ι r Q) : Post rel K ι' r Q := by
  cases r with
  | ok a M => exact fun ι2 H2 b p2 R2 r2 => h ι2 H2 b (List.IsPrefix.trans p p2) R2 r2
  | ex _ _ => exact h
  | bad => exact h
theorem Post.ok {α β : Type} {rel : List Addr → α → β → Prop} {K : Fg} {ι : List Addr} {a : α} {M : VM.Mem} {Q : β → Hp → Prop} {H : Hp} {b : β} (h : Post rel K ι (.ok a M) Q) (R : Rel K ι M H) (r : rel ι a b) : Q b H := h ι H b pre_refl R r
def PostS (K : Fg) (ι : List Addr) (r : VM.RS) (D : Ends) : Prop := match r with
  | .nx σ' M' => ∀ ι' H' τ', ι <+: ι' → Rel K ι' M' H' → RSt ι' σ' τ' → D.nx τ' H'
  | .rt w M' => ∀ ι' H' v, ι <+: ι' → Rel K ι' M' H' → RV ι' w v → D.rt v H'
  | .bk σ' M' => ∀ ι' H' τ', ι <+: ι' → Rel K ι' M' H' → RSt ι' σ' τ' → D.bk τ' H'
  | .ct σ' M' => ∀ ι' H' τ', ι <+: ι' → Rel K ι' M' H' → RSt ι' σ' τ' → D.ct τ' H'
  | .ex _ _ => False
  | .bad => False
theorem PostS.mono {K : Fg} {ι ι' : List Addr} {r : VM.RS} {D : Ends} (p : ι <+: ι') (h : PostS K ι r D) : PostS K ι' r D := by
  cases r with
  | nx σ M => exact fun ι2 H2 t p2 R2 r2 => h ι2 H2 t (List.IsPrefix.trans p p2) R2 r2
  | rt w M => exact fun ι2 H2 t p2 R2 r2 => h ι2 H2 t (List.IsPrefix.trans p p2) R2 r2
  | bk σ M => exact fun ι2 H2 t p2 R2 r2 => h ι2 H2 t (List.IsPrefix.trans p p2) R2 r2
  | ct σ M => exact fun ι2 H2 t p2 R2 r2 => h ι2 H2 t (List.IsPrefix.trans p p2) R2 r2
  | ex _ _ => exact h
  | bad => exact h
theorem PostS.seq {α β : Type} {rA : List Addr → α → β → Prop} {K : Fg} {ι : List Addr} {r : VM.R α} {f : α → VM.Mem → VM.RS} {D : Ends} {Q2 : β → Hp → Prop} (h : PostS K ι (r.bindS f) D)
    (k : ∀ ι' H' a M' b, ι <+: ι' → Rel K ι' M' H' → rA ι' a b → PostS K ι' (f a M') D → Q2 b H') : Post rA K ι r Q2 := by
  cases r with
  | ok a M' => exact fun ι' H' b hp R rr => k ι' H' a M' b hp R rr (PostS.mono hp h)
  | ex _ _ => exact (h : False).elim
  | bad => exact (h : False).elim
/-! ### the judgements -/
def SE (X : Cx) (e : Expr) (m : VM.EM) : Prop := ∃ te, PE X e te ∧ ∀ ι M H σ τ Q, Rel X.K ι M H → RSt ι σ τ → Post RV X.K ι (m σ M) Q → te τ H Q
abbrev rB : List Addr → Bool → Bool → Prop := fun _ a b => a = b
def STt (X : Cx) (e : Expr) (m : VM.TM) : Prop := ∃ te, PT X e te ∧ ∀ ι M H σ τ Q, Rel X.K ι M H → RSt ι σ τ → Post rB X.K ι (m σ M) Q → te τ H Q
def SW (X : Cx) (e : Expr) (m : VM.TM) : Prop := ∃ te, PW X e te ∧ ∀ ι M H σ τ Q, Rel X.K ι M H → RSt ι σ τ → Post rB X.K ι (m σ M) Q → te τ H Q
def SA (X : Cx) (es : List Expr) (m : VM.AM) : Prop := ∃ te, PA X es te ∧ ∀ ι M H σ τ Q, Rel X.K ι M H → RSt ι σ τ → Post RVs X.K ι (m σ M) Q → te τ H Q
def SG (X : Cx) (tg : Expr) (m : VM.GM) : Prop := ∃ g, PG X tg g ∧ ∀ ι M H σ τ w v Q, Rel X.K ι M H → RSt ι σ τ → RV ι w v → Post RSt X.K ι (m w σ M) Q → g v τ H Q
def SGs (X : Cx) (ts : List Expr) (ms : List VM.GM) : Prop := ts.length = ms.length ∧ ∃ g, PGs X ts g ∧ ∀ ι M H σ τ ws vs Q, Rel X.K ι M H → RSt ι σ τ → RVs ι ws vs → Post RSt X.K ι (VM.gEach ms ws σ M) Q → g vs τ H Q
def SS (X : Cx) (st : Stmt) (m : VM.SM) : Prop := ∃ t, PS X st t ∧ ∀ ι M H σ τ D, Rel X.K ι M H → RSt ι σ τ → PostS X.K ι (m σ M) D → t D τ H
def SSs (X : Cx) (st : List Stmt) (m : VM.SM) : Prop := ∃ t, PSs X st t ∧ ∀ ι M H σ τ D, Rel X.K ι M H → RSt ι σ τ → PostS X.K ι (m σ M) D → t D τ H
def SOp (X : Cx) (f : Value → Value → Sem Value) (m : VM.OpM) : Prop := ∃ r, OpR X f r ∧ ∀ ι M H x y v u Q, Rel X.K ι M H → RV ι x v → RV ι y u → Post RV X.K ι (m x y M) Q → r v u H Q
def SC (X : Cx) (f : Value) (m : VM.CM) : Prop := ∃ r, CallR X f r ∧ ∀ ι M H ws vs Q, Rel X.K ι M H → RVs ι ws vs → Post RV X.K ι (m ws M) Q → r vs H Q
/-! ### names, constants, displays -/
section
variable {X : Cx}
theorem se_var (i : Nat) {x : Str} {pos : Pos} (hN : X.N[i]? = some x := by rfl) (hv : Vis X.env.scope x := by first | exact Or.inl rfl | exact Or.inr (Or.inl rfl) | exact Or.inr (Or.inr rfl)) (hd : (x == ("__debug__" : Str)) = false := by decide +kernel)
    (hcd : (x == ("__classdict__" : Str)) = false := by decide +kernel) : SE X (.Name x pos) (VM.eVar i) := by
  refine ⟨tVar i, pe_var hN hv hd hcd, fun ι M H σ τ Q R S h => ?_⟩
  unfold VM.eVar at h
  cases e : σ[i]? with
  | none => rw [e] at h; exact (h : False).elim
  | some o =>
    cases o with
    | none => rw [e] at h; exact (h : False).elim
    | some w =>
      rw [e] at h
      obtain ⟨q, hq, v, rfl, rv⟩ := Paired.at S e
      exact ⟨v, hq, Post.ok h R rv⟩
theorem se_int {i : Int} {j pos} : SE X (.Constant (.int i) j pos) (VM.eC (.int i)) := ⟨_, pe_int, fun ι M H σ τ Q R S h => Post.ok (b := V.int i) h R rfl⟩
theorem se_bl {b : Bool} {j pos} : SE X (.Constant (.bool b) j pos) (VM.eC (.bl b)) := ⟨_, pe_bl, fun ι M H σ τ Q R S h => Post.ok (b := V.bl b) h R rfl⟩
theorem se_non {j pos} : SE X (.Constant .none j pos) (VM.eC .non) := ⟨_, pe_non, fun ι M H σ τ Q R S h => Post.ok (b := V.non) h R rfl⟩
theorem se_str {x : Str} (cs : List Nat) {j pos} (hx : x = txt cs := by first | rfl | decide +kernel) : SE X (.Constant (.str x) j pos) (VM.eC (.str cs)) := by
  subst hx
  exact ⟨_, pe_str, fun ι M H σ τ Q R S h => Post.ok (b := V.str (txt cs)) h R rfl⟩
theorem sa_nil : SA X [] VM.aNil := ⟨_, pa_nil, fun ι M H σ τ Q R S h => Post.ok (b := []) h R .nil⟩
theorem sa_cons {e : Expr} {es : List Expr} {m : VM.EM} {n : VM.AM} (ha : SE X e m) (hr : SA X es n) (hs : starEach (e :: es) X.env = (false, eval e X.env) :: starEach es X.env := by rfl) : SA X (e :: es) (VM.aCons m n) := by
  obtain ⟨te, pe, ke⟩ := ha
  obtain ⟨ta, pa, ka⟩ := hr
  refine ⟨_, pa_cons pe pa hs, fun ι M H σ τ Q R S h => ?_⟩
  refine ke ι M H σ τ _ R S (Post.seq h fun ι1 H1 x M1 u p1 R1 r1 h1 => ?_)
  refine ka ι1 M1 H1 σ τ _ R1 (S.mono p1) (Post.seq h1 fun ι2 H2 xs M2 us p2 R2 r2 h2 => ?_)
  exact Post.ok h2 R2 (.cons (r1.mono p2) r2)
theorem lim_eq : VM.lim = sizeLine := rfl
theorem newL_post {K : Fg} {ι : List Addr} {M : VM.Mem} {H : Hp} {ws : List VM.W} {vs : List V} {Q : V → Hp → Prop} (R : Rel K ι M H) (r : RVs ι ws vs) (h : Post RV K ι (VM.newL ws M) Q) :
    vs.length ≤ sizeLine ∧ ∀ p, H p = none → Q (.ref p) (upd H p (.lst vs)) := by
  unfold VM.newL at h
  by_cases hl : ws.length ≤ VM.lim
  · rw [if_pos hl] at h
    refine ⟨by rw [← Paired.len r]; exact hl, fun p hp => ?_⟩
    refine h (ι ++ [p]) _ _ ⟨[p], rfl⟩ (R.new hp fun ι' pre => ⟨vs, upd_same, r.mono pre⟩) ⟨p, ?_, rfl⟩
    rw [← R.len]; simp
  · rw [if_neg hl] at h; exact (h : False).elim
theorem newT_post {K : Fg} {ι : List Addr} {M : VM.Mem} {H : Hp} {ws : List VM.W} {vs : List V} {Q : V → Hp → Prop} (R : Rel K ι M H) (r : RVs ι ws vs) (h : Post RV K ι (VM.newT ws M) Q) :
    vs.length ≤ sizeLine ∧ ∀ p, H p = none → Q (.ref p) (upd H p (.tup vs)) := by
  unfold VM.newT at h
  by_cases hl : ws.length ≤ VM.lim
  · rw [if_pos hl] at h
    refine ⟨by rw [← Paired.len r]; exact hl, fun p hp => ?_⟩
    refine h (ι ++ [p]) _ _ ⟨[p], rfl⟩ (R.new hp fun ι' pre => ⟨vs, upd_same, r.mono pre⟩) ⟨p, ?_, rfl⟩
    rw [← R.len]; simp
  · rw [if_neg hl] at h; exact (h : False).elim
theorem se_lst {es : List Expr} {n : VM.AM} {pos} (ha : SA X es n) : SE X (.List es pos) (VM.eLst n) := by
  obtain ⟨ta, pa, ka⟩ := ha
  refine ⟨_, pe_lst pa, fun ι M H σ τ Q R S h => ?_⟩
  exact ka ι M H σ τ _ R S (Post.seq h fun ι1 H1 x M1 u p1 R1 r1 h1 => newL_post R1 r1 h1)
theorem se_tup {es : List Expr} {n : VM.AM} {x1 pos} (ha : SA X es n) : SE X (.Tuple es x1 pos) (VM.eTup n) := by
  obtain ⟨ta, pa, ka⟩ := ha
  refine ⟨_, pe_tup pa, fun ι M H σ τ Q R S h => ?_⟩
  exact ka ι M H σ τ _ R S (Post.seq h fun ι1 H1 x M1 u p1 R1 r1 h1 => newT_post R1 r1 h1)
/-! ### operations -/
theorem se_op {op : Operator} {a b : Expr} {f : VM.OpM} {m n : VM.EM} {pos} (ho : SOp X (binaryOp op) f) (ha : SE X a m) (hb : SE X b n) : SE X (.BinOp a op b pos) (VM.eOp f m n) := by
  obtain ⟨r, po, ko⟩ := ho
  obtain ⟨ta, pa, ka⟩ := ha
  obtain ⟨tb, pb, kb⟩ := hb
  refine ⟨_, pe_op po pa pb, fun ι M H σ τ Q R S h => ?_⟩
  refine ka ι M H σ τ _ R S (Post.seq h fun ι1 H1 x M1 u p1 R1 r1 h1 => ?_)
  refine kb ι1 M1 H1 σ τ _ R1 (S.mono p1) (Post.seq h1 fun ι2 H2 y M2 v p2 R2 r2 h2 => ?_)
  exact ko ι2 M2 H2 x y u v Q R2 (r1.mono p2) r2 h2
theorem se_cmp {op : CmpOp} {a b : Expr} {f : VM.OpM} {m n : VM.EM} {pos} (ho : SOp X (compareOp op) f) (ha : SE X a m) (hb : SE X b n) (hm : behindInMarks op b = false) : SE X (.Compare a [op] [b] pos) (VM.eOp f m n) := by
  obtain ⟨r, po, ko⟩ := ho
  obtain ⟨ta, pa, ka⟩ := ha
  obtain ⟨tb, pb, kb⟩ := hb
  refine ⟨_, pe_cmpR po pa pb hm, fun ι M H σ τ Q R S h => ?_⟩
  refine ka ι M H σ τ _ R S (Post.seq h fun ι1 H1 x M1 u p1 R1 r1 h1 => ?_)
  refine kb ι1 M1 H1 σ τ _ R1 (S.mono p1) (Post.seq h1 fun ι2 H2 y M2 v p2 R2 r2 h2 => ?_)
  exact ko ι2 M2 H2 x y u v Q R2 (r1.mono p2) r2 h2
theorem st_cmp {op : CmpOp} {a b : Expr} {f : VM.OpM} {m n : VM.EM} {pos} (ho : SOp X (compareOp op) f) (ha : SE X a m) (hb : SE X b n) (hm : behindInMarks op b = false) : STt X (.Compare a [op] [b] pos) (VM.tB (VM.eOp f m n)) := by
  obtain ⟨r, po, ko⟩ := ho
  obtain ⟨ta, pa, ka⟩ := ha
  obtain ⟨tb, pb, kb⟩ := hb
  refine ⟨_, pt_cmpR po pa pb hm, fun ι M H σ τ Q R S h => ?_⟩
  have h0 : Post rB X.K ι ((m σ M).bind fun x M1 => (n σ M1).bind fun y M2 => (f x y M2).bind fun z M3 => match z with | .bl b => .ok b M3 | _ => .bad) Q := by
    unfold VM.tB VM.eOp at h
    revert h
    cases m σ M with
    | ok x M1 =>
      show Post rB X.K ι (((n σ M1).bind fun y M2 => f x y M2).bind _) Q → Post rB X.K ι ((n σ M1).bind _) Q
      cases n σ M1 with
      | ok y M2 => exact fun h => h
      | ex _ _ => exact fun h => h
      | bad => exact fun h => h
    | ex _ _ => exact fun h => h
    | bad => exact fun h => h
  refine ka ι M H σ τ _ R S (Post.seq h0 fun ι1 H1 x M1 u p1 R1 r1 h1 => ?_)
  refine kb ι1 M1 H1 σ τ _ R1 (S.mono p1) (Post.seq h1 fun ι2 H2 y M2 v p2 R2 r2 h2 => ?_)
  refine ko ι2 M2 H2 x y u v _ R2 (r1.mono p2) r2 (Post.seq h2 fun ι3 H3 z M3 t p3 R3 r3 h3 => ?_)
  cases z with
  | bl b => cases r3; exact ⟨b, rfl, Post.ok h3 R3 rfl⟩
  | non => exact (h3 : False).elim
  | int _ => exact (h3 : False).elim
  | str _ => exact (h3 : False).elim
  | ref _ => exact (h3 : False).elim
end
end SV
end
section
set_option Elab.async false
set_option linter.all false
set_option autoImplicit false
set_option maxRecDepth 100000
set_option maxHeartbeats 4000000
namespace SV
open PySem L2
section
variable {X : Cx}
/-! ### the operations one by one -/
theorem so_int {f : Value → Value → Sem Value} {g : Int → Int → V} {m : VM.OpM} {gw : Int → Int → VM.W} (h : OpR X f (rI0 g)) (hr : ∀ ι i j, RV ι (gw i j) (g i j)) (hm : ∀ x y M, (∃ i j, x = VM.W.int i ∧ y = VM.W.int j ∧ m x y M = .ok (gw i j) M) ∨ m x y M = .bad) : SOp X f m := by
  refine ⟨_, h, fun ι M H x y v u Q R rx ry q => ?_⟩
  rcases hm x y M with ⟨i, j, rfl, rfl, e⟩ | e
  · rw [e] at q
    exact ⟨i, j, rx, ry, Post.ok q R (hr ι i j)⟩
  · rw [e] at q; exact (q : False).elim
theorem so_sub : SOp X (binaryOp .Sub) VM.oSub := so_int op_sub (gw := fun i j => .int (i - j)) (fun _ _ _ => rfl) fun x y M => by
  cases x <;> cases y <;> first | exact .inl ⟨_, _, rfl, rfl, rfl⟩ | exact .inr rfl
theorem so_lt : SOp X (compareOp .Lt) VM.oLt := so_int op_lt (gw := fun i j => .bl (decide (i < j))) (fun _ _ _ => rfl) fun x y M => by
  cases x <;> cases y <;> first | exact .inl ⟨_, _, rfl, rfl, rfl⟩ | exact .inr rfl
theorem so_le : SOp X (compareOp .LtE) VM.oLe := so_int op_le (gw := fun i j => .bl (decide (i ≤ j))) (fun _ _ _ => rfl) fun x y M => by
  cases x <;> cases y <;> first | exact .inl ⟨_, _, rfl, rfl, rfl⟩ | exact .inr rfl
theorem so_gt : SOp X (compareOp .Gt) VM.oGt := so_int op_gt (gw := fun i j => .bl (decide (j < i))) (fun _ _ _ => rfl) fun x y M => by
  cases x <;> cases y <;> first | exact .inl ⟨_, _, rfl, rfl, rfl⟩ | exact .inr rfl
theorem so_ge : SOp X (compareOp .GtE) VM.oGe := so_int op_ge (gw := fun i j => .bl (decide (j ≤ i))) (fun _ _ _ => rfl) fun x y M => by
  cases x <;> cases y <;> first | exact .inl ⟨_, _, rfl, rfl, rfl⟩ | exact .inr rfl
theorem so_intC {f : Value → Value → Sem Value} {C : Int → Int → Prop} {g : Int → Int → V} {m : VM.OpM} {gw : Int → Int → VM.W} (h : OpR X f (rI C g)) (hr : ∀ ι i j, RV ι (gw i j) (g i j)) (hm : ∀ x y M, (∃ i j, x = VM.W.int i ∧ y = VM.W.int j ∧ C i j ∧ m x y M = .ok (gw i j) M) ∨ m x y M = .bad) : SOp X f m := by
  refine ⟨_, h, fun ι M H x y v u Q R rx ry q => ?_⟩
  rcases hm x y M with ⟨i, j, rfl, rfl, c, e⟩ | e
  · rw [e] at q
    exact ⟨i, j, rx, ry, c, Post.ok q R (hr ι i j)⟩
  · rw [e] at q; exact (q : False).elim
theorem so_mul : SOp X (binaryOp .Mult) VM.oMul := so_intC op_mul (gw := fun i j => .int (i * j)) (fun _ _ _ => rfl) fun x y M => by
  cases x <;> cases y <;> first
    | exact .inr rfl
    | (rename_i i j
       by_cases c : i.natAbs < VM.two64 ∨ j.natAbs < VM.two64
       · exact .inl ⟨i, j, rfl, rfl, by unfold CMul; unfold VM.two64 at c; omega, if_pos c⟩
       · exact .inr (if_neg c))
theorem so_div : SOp X (binaryOp .FloorDiv) VM.oDiv := so_intC op_fdiv (gw := fun i j => .int (i / j)) (fun _ _ _ => rfl) fun x y M => by
  cases x <;> cases y <;> first
    | exact .inr rfl
    | (rename_i i j
       by_cases c : 0 < j ∧ j.natAbs < 1073741824
       · exact .inl ⟨i, j, rfl, rfl, by unfold CDiv; omega, if_pos c⟩
       · exact .inr (if_neg c))
theorem so_mod : SOp X (binaryOp .Mod) VM.oMod := so_intC op_mod (gw := fun i j => .int (i % j)) (fun _ _ _ => rfl) fun x y M => by
  cases x <;> cases y <;> first
    | exact .inr rfl
    | (rename_i i j
       by_cases c : 0 < j
       · exact .inl ⟨i, j, rfl, rfl, c, if_pos c⟩
       · exact .inr (if_neg c))
theorem so_add : SOp X (binaryOp .Add) VM.oAdd := by
  refine ⟨_, OpR.or op_add op_cat, fun ι M H x y v u Q R rx ry q => ?_⟩
  cases x with
  | int i =>
    cases y with
    | int j => cases rx; cases ry; exact .inl ⟨i, j, rfl, rfl, Post.ok (b := V.int (i + j)) q R rfl⟩
    | _ => exact (q : False).elim
  | ref a =>
    cases y with
    | ref b =>
      have q' : Post RV X.K ι (match VM.mutOf M (.ref a), VM.mutOf M (.ref b) with | some (_, xs), some (_, ys) => VM.newL (xs ++ ys) M | _, _ => .bad) Q := q
      cases ea : VM.mutOf M (.ref a) with
      | none => rw [ea] at q'; exact (q' : False).elim
      | some pa =>
        cases eb : VM.mutOf M (.ref b) with
        | none => rw [ea, eb] at q'; exact (q' : False).elim
        | some pb =>
          obtain ⟨a', xs⟩ := pa
          obtain ⟨b', ys⟩ := pb
          rw [ea, eb] at q'
          obtain ⟨p, vs, _, _, _, rfl, h1, r1⟩ := R.mutOf ea rx
          obtain ⟨p2, us, _, _, _, rfl, h2, r2⟩ := R.mutOf eb ry
          have r := Paired.app r1 r2
          obtain ⟨z, k⟩ := newL_post R r q'
          exact .inr ⟨p, p2, vs, us, rfl, rfl, h1, h2, by rw [List.length_append] at z; exact z, k⟩
    | _ => exact (q : False).elim
  | _ => exact (q : False).elim
/-! ### == and != -/
theorem RV.scal {ι : List Addr} {x y : VM.W} {v u : V} (rx : RV ι x v) (ry : RV ι y u) (h : VM.scal x y = true) : L2.scal v u = true ∧ decide (v = u) = decide (x = y) := by
  cases x with
  | ref a => cases y <;> exact absurd h Bool.false_ne_true
  | non =>
    cases rx
    cases y with
    | ref a => exact absurd h Bool.false_ne_true
    | non => cases ry; exact ⟨rfl, rfl⟩
    | bl j => cases ry; exact ⟨rfl, rfl⟩
    | int j => cases ry; exact ⟨rfl, rfl⟩
    | str j => cases ry; exact ⟨rfl, rfl⟩
  | bl i =>
    cases rx
    cases y with
    | ref a => exact absurd h Bool.false_ne_true
    | non => cases ry; exact ⟨rfl, rfl⟩
    | bl j => cases ry; exact ⟨rfl, by simp⟩
    | int j => exact absurd h Bool.false_ne_true
    | str j => cases ry; exact ⟨rfl, rfl⟩
  | int i =>
    cases rx
    cases y with
    | ref a => exact absurd h Bool.false_ne_true
    | non => cases ry; exact ⟨rfl, rfl⟩
    | bl j => exact absurd h Bool.false_ne_true
    | int j => cases ry; exact ⟨rfl, by simp⟩
    | str j => cases ry; exact ⟨rfl, rfl⟩
  | str i =>
    cases rx
    cases y with
    | ref a => exact absurd h Bool.false_ne_true
    | non => cases ry; exact ⟨rfl, rfl⟩
    | bl j => cases ry; exact ⟨rfl, rfl⟩
    | int j => cases ry; exact ⟨rfl, rfl⟩
    | str j =>
      cases ry
      refine ⟨rfl, ?_⟩
      by_cases e : i = j
      · subst e; simp
      · have h1 : ¬ (V.str (txt i) = V.str (txt j)) := fun z => e (txt_inj (by injection z))
        have h2 : ¬ (VM.W.str i = VM.W.str j) := fun z => e (by injection z)
        rw [decide_eq_false h1, decide_eq_false h2]
theorem RV.flat {ι : List Addr} {x : VM.W} {v : V} (r : RV ι x v) (h : VM.flat x = true) : flatV v = true := by
  cases x <;> first | exact absurd h Bool.false_ne_true | (cases r; rfl)
theorem txt_beq (i j : List Nat) : (txt i == txt j) = (i == j) := by
  by_cases e : i = j
  · subst e; simp
  · have h : ¬ txt i = txt j := fun z => e (txt_inj z)
    rw [beq_eq_false_iff_ne.mpr h, beq_eq_false_iff_ne.mpr e]
theorem RV.eqW {ι : List Addr} {x y : VM.W} {v u : V} (rx : RV ι x v) (ry : RV ι y u) (hx : VM.flat x = true) (hy : VM.flat y = true) : eqV v u = VM.eqW x y := by
  cases x <;> cases y <;> first
    | exact absurd hx Bool.false_ne_true
    | exact absurd hy Bool.false_ne_true
    | (cases rx; cases ry; first | rfl | exact txt_beq _ _)
theorem RVs.flat {ι : List Addr} : ∀ {xs : List VM.W} {vs : List V}, RVs ι xs vs → xs.all VM.flat = true → vs.all flatV = true
  | _, _, .nil, _ => rfl
  | _, _, .cons r t, h => by
    rw [List.all_cons, Bool.and_eq_true] at h ⊢
    exact ⟨r.flat h.1, RVs.flat t h.2⟩
def eqVs : List V → List V → Bool
  | [], [] => true
  | x :: xs, y :: ys => eqV x y && eqVs xs ys
  | _, _ => false
theorem RVs.eqWs {ι : List Addr} : ∀ {xs ys : List VM.W} {vs us : List V}, RVs ι xs vs → RVs ι ys us → xs.all VM.flat = true → ys.all VM.flat = true → eqVs vs us = VM.eqWs xs ys
  | _, _, _, _, .nil, .nil, _, _ => rfl
  | _, _, _, _, .nil, .cons _ _, _, _ => rfl
  | _, _, _, _, .cons _ _, .nil, _, _ => rfl
  | _, _, _, _, .cons r t, .cons r' t', h, h' => by
    rw [List.all_cons, Bool.and_eq_true] at h h'
    show (eqV _ _ && eqVs _ _) = (VM.eqW _ _ && VM.eqWs _ _)
    rw [RV.eqW r r' h.1 h'.1, RVs.eqWs t t' h.2 h'.2]
theorem eqVs_range : ∀ {vs us : List V}, vs.length = us.length → ((List.range vs.length).all fun j => eqV (vs.getD j .non) (us.getD j .non)) = eqVs vs us
  | [], [], _ => rfl
  | [], _ :: _, h => by simp at h
  | _ :: _, [], h => by simp at h
  | x :: xs, y :: ys, h => by
    have ih := @eqVs_range xs ys (by simpa using h)
    rw [List.length_cons, List.range_succ_eq_map, List.all_cons, List.all_map]
    show (eqV x y && _) = (eqV x y && eqVs xs ys)
    rw [← ih]
    rfl
/-- two lists, by their lengths or item by item (flat) -/
def rEqL (K : Fg) (neg : Bool) : R2 := fun x y H Q => ∃ p q xs ys, x = .ref p ∧ y = .ref q ∧ SqL K H p xs ∧ SqL K H q ys ∧
  ((xs.length ≠ ys.length ∧ Q (.bl (if neg then true else false)) H) ∨ (xs.length = ys.length ∧ xs.all flatV = true ∧ ys.all flatV = true ∧ Q (.bl (if neg then !eqVs xs ys else eqVs xs ys)) H))
theorem vals_getD {xs : List V} {its : List Value} (r : Vals xs its) {j : Nat} (h : j < its.length) : RelV (xs.getD j .non) its[j] := by
  have hx : j < xs.length := by rw [r.length]; exact h
  obtain ⟨u, e1, e2⟩ := r.get (i := j) (x := xs[j]) (by simp [hx])
  have e3 : its[j] = u := by rw [List.getElem?_eq_getElem h] at e1; exact Option.some.inj e1
  have e4 : xs.getD j .non = xs[j] := by simp [List.getD, hx]
  rw [e3, e4]; exact e2
theorem all_getD {xs : List V} {j : Nat} (h : xs.all flatV = true) (hj : j < xs.length) : flatV (xs.getD j .non) = true := by
  have e4 : xs.getD j .non = xs[j] := by simp [List.getD, hj]
  rw [e4]
  exact List.all_eq_true.mp h _ (List.getElem_mem hj)
theorem op_eq_list (hu : X.A.units < cLine) : OpR X (compareOp .Eq) (rEqL X.K false) := by
  intro pins s σ H x y v u Q I rx ry h
  obtain ⟨p, q, xs, ys, rfl, rfl, h1, h2, hq⟩ := h
  cases rx; cases ry
  obtain ⟨its, r, pl, hz⟩ := I.list h1
  obtain ⟨its2, r2, pl2, hz2⟩ := I.list h2
  have l1 := r.length
  have l2 := r2.length
  rcases hq with ⟨hl, q⟩ | ⟨hl, f1, f2, q⟩
  · exact SeqAt.eq_list_lengthsAt pl.isList pl2.isList (by simp only [List.size_toArray, bne_iff_ne]; omega) hu ⟨.bl false, H, I, rfl, q⟩
  · refine SeqAt.eq_listAt (e := fun j => eqV (xs.getD j .non) (ys.getD j .non)) pl.isList pl2.isList (by simp only [List.size_toArray]; omega) hu (fun j h1 h2 => ?_) ⟨.bl (eqVs xs ys), H, I, ?_, q⟩
    · have h1' : j < its.length := by simpa using h1
      have h2' : j < its2.length := by simpa using h2
      have e1 : its.toArray[j] = its[j] := by simp
      have e2 : its2.toArray[j] = its2[j] := by simp
      rw [e1, e2]
      exact eqAt_V (vals_getD r h1') (vals_getD r2 h2') (all_getD f1 (by omega)) (all_getD f2 (by omega))
    · show Value.bool _ = Value.bool _
      rw [List.size_toArray, ← l1, eqVs_range hl]
theorem op_ne_list (hu : X.A.units < cLine) : OpR X (compareOp .NotEq) (rEqL X.K true) := by
  intro pins s σ H x y v u Q I rx ry h
  obtain ⟨p, q, xs, ys, rfl, rfl, h1, h2, hq⟩ := h
  cases rx; cases ry
  obtain ⟨its, r, pl, hz⟩ := I.list h1
  obtain ⟨its2, r2, pl2, hz2⟩ := I.list h2
  have l1 := r.length
  have l2 := r2.length
  rcases hq with ⟨hl, q⟩ | ⟨hl, f1, f2, q⟩
  · exact SeqAt.RcNeAt.lists_lengths pl.isList pl2.isList (by simp only [List.size_toArray, bne_iff_ne]; omega) hu _ _ _ _ ⟨.bl true, H, I, rfl, q⟩
  · refine SeqAt.RcNeAt.lists (e := fun j => eqV (xs.getD j .non) (ys.getD j .non)) pl.isList pl2.isList (by simp only [List.size_toArray]; omega) hu (fun j h1 h2 => ?_) _ _ _ _ ⟨.bl (!eqVs xs ys), H, I, ?_, q⟩
    · have h1' : j < its.length := by simpa using h1
      have h2' : j < its2.length := by simpa using h2
      have e1 : its.toArray[j] = its[j] := by simp
      have e2 : its2.toArray[j] = its2[j] := by simp
      rw [e1, e2]
      exact eqAt_V (vals_getD r h1') (vals_getD r2 h2') (all_getD f1 (by omega)) (all_getD f2 (by omega))
    · show Value.bool _ = Value.bool _
      rw [List.size_toArray, ← l1, eqVs_range hl]
theorem eqO_post {ι : List Addr} {M : VM.Mem} {H : Hp} {x y : VM.W} {v u : V} {b : Bool} {neg : Bool} {Q : VK} (R : Rel X.K ι M H) (rx : RV ι x v) (ry : RV ι y u) (e : VM.eqO M x y = some b) (q : Q (.bl (if neg then !b else b)) H) :
    (if neg then L2.rNe v u H Q else L2.rEq v u H Q) ∨ rEqL X.K neg v u H Q := by
  unfold VM.eqO at e
  by_cases hs : VM.scal x y = true
  · rw [if_pos hs] at e
    obtain ⟨s1, s2⟩ := RV.scal rx ry hs
    have e' : decide (x = y) = b := Option.some.inj e
    left
    cases neg with
    | true => exact ⟨s1, by rw [s2, e']; exact q⟩
    | false => exact ⟨s1, by rw [s2, e']; exact q⟩
  · rw [if_neg hs] at e
    right
    cases ea : VM.lstOf M x with
    | none => rw [ea] at e; cases e
    | some xs =>
      cases eb : VM.lstOf M y with
      | none => rw [ea, eb] at e; cases e
      | some ys =>
        rw [ea, eb] at e
        obtain ⟨p, vs, rfl, h1, r1⟩ := R.lstOf ea rx
        obtain ⟨p2, us, rfl, h2, r2⟩ := R.lstOf eb ry
        have l1 := Paired.len r1
        have l2 := Paired.len r2
        have e' : (if xs.length ≠ ys.length then some false else if (xs.all VM.flat && ys.all VM.flat) = true then some (VM.eqWs xs ys) else none) = some b := e
        by_cases hl : xs.length ≠ ys.length
        · rw [if_pos hl] at e'
          have e2 : false = b := Option.some.inj e'
          subst e2
          refine ⟨p, p2, vs, us, rfl, rfl, h1, h2, .inl ⟨by omega, ?_⟩⟩
          cases neg <;> exact q
        · rw [if_neg hl] at e'
          by_cases hf : (xs.all VM.flat && ys.all VM.flat) = true
          · rw [if_pos hf] at e'
            rw [Bool.and_eq_true] at hf
            have e2 : VM.eqWs xs ys = b := Option.some.inj e'
            refine ⟨p, p2, vs, us, rfl, rfl, h1, h2, .inr ⟨by omega, RVs.flat r1 hf.1, RVs.flat r2 hf.2, ?_⟩⟩
            rw [RVs.eqWs r1 r2 hf.1 hf.2, e2]
            exact q
          · rw [if_neg hf] at e'; cases e'
theorem so_eq (hu : X.A.units < cLine) : SOp X (compareOp .Eq) VM.oEq := by
  refine ⟨_, OpR.or op_eq (op_eq_list hu), fun ι M H x y v u Q R rx ry q => ?_⟩
  unfold VM.oEq at q
  cases e : VM.eqO M x y with
  | none => rw [e] at q; exact (q : False).elim
  | some b =>
    rw [e] at q
    exact eqO_post (neg := false) R rx ry e (Post.ok (b := V.bl b) q R rfl)
theorem so_ne (hu : X.A.units < cLine) : SOp X (compareOp .NotEq) VM.oNe := by
  refine ⟨_, OpR.or op_ne (op_ne_list hu), fun ι M H x y v u Q R rx ry q => ?_⟩
  unfold VM.oNe at q
  cases e : VM.eqO M x y with
  | none => rw [e] at q; exact (q : False).elim
  | some b =>
    rw [e] at q
    exact eqO_post (neg := true) R rx ry e (Post.ok (b := V.bl (!b)) q R rfl)
/-! ### in -/
theorem inW_of {ι : List Addr} {x : VM.W} {v : V} (rx : RV ι x v) (hx : VM.flat x = true) : ∀ {xs : List VM.W} {vs : List V}, RVs ι xs vs → xs.all VM.flat = true → inV v vs = VM.inW x xs
  | _, _, .nil, _ => rfl
  | _, _, .cons r t, h => by
    rw [List.all_cons, Bool.and_eq_true] at h
    have ih := inW_of rx hx t h.2
    show (eqV _ v || inV v _) = (VM.eqW _ x || VM.inW x _)
    rw [RV.eqW r rx h.1 hx, ih]
theorem so_in : SOp X (compareOp .In) VM.oIn := by
  refine ⟨_, op_in_seq, fun ι M H x y v u Q R rx ry q => ?_⟩
  unfold VM.oIn at q
  cases e : VM.seqOf M y with
  | none => rw [e] at q; exact (q : False).elim
  | some xs =>
    rw [e] at q
    have q' : Post RV X.K ι (if (VM.flat x && xs.all VM.flat) = true then .ok (.bl (VM.inW x xs)) M else .bad) Q := q
    by_cases hf : (VM.flat x && xs.all VM.flat) = true
    · rw [if_pos hf] at q'
      rw [Bool.and_eq_true] at hf
      obtain ⟨p, vs, rfl, h1, r1⟩ := R.seqOf e ry
      refine ⟨p, vs, rfl, h1, rx.flat hf.1, RVs.flat r1 hf.2, ?_⟩
      show Q (.bl (inV v vs)) H
      rw [inW_of rx hf.1 r1 hf.2]
      exact Post.ok (b := V.bl _) q' R rfl
    · rw [if_neg hf] at q'; exact (q' : False).elim
theorem so_notin : SOp X (compareOp .NotIn) VM.oNotIn := by
  refine ⟨_, op_notIn_seq, fun ι M H x y v u Q R rx ry q => ?_⟩
  unfold VM.oNotIn at q
  cases e : VM.seqOf M y with
  | none => rw [e] at q; exact (q : False).elim
  | some xs =>
    rw [e] at q
    have q' : Post RV X.K ι (if (VM.flat x && xs.all VM.flat) = true then .ok (.bl (!VM.inW x xs)) M else .bad) Q := q
    by_cases hf : (VM.flat x && xs.all VM.flat) = true
    · rw [if_pos hf] at q'
      rw [Bool.and_eq_true] at hf
      obtain ⟨p, vs, rfl, h1, r1⟩ := R.seqOf e ry
      refine ⟨p, vs, rfl, h1, rx.flat hf.1, RVs.flat r1 hf.2, ?_⟩
      show Q (.bl (!inV v vs)) H
      rw [inW_of rx hf.1 r1 hf.2]
      exact Post.ok (b := V.bl _) q' R rfl
    · rw [if_neg hf] at q'; exact (q' : False).elim
/-! ### places -/
theorem atI_eq {α : Type} (xs : List α) (i : Int) : VM.atI xs i = L2.atI xs i := rfl
theorem atI_rel {ι : List Addr} {xs : List VM.W} {vs : List V} (r : RVs ι xs vs) {i : Int} {w : VM.W} (e : VM.atI xs i = some w) : ∃ v, L2.atI vs i = some v ∧ RV ι w v := by
  have hl := Paired.len r
  unfold VM.atI at e
  unfold L2.atI
  have e0 : L2.ixN vs.length i = VM.ixN xs.length i := by rw [← hl]; rfl
  rw [e0]
  cases h : VM.ixN xs.length i with
  | none => rw [h] at e; cases e
  | some j =>
    rw [h] at e
    obtain ⟨v, h1, h2⟩ := Paired.at r (show xs[j]? = some w from e)
    exact ⟨v, h1, h2⟩
theorem se_ix {a b : Expr} {m n : VM.EM} {pos} (ha : SE X a m) (hb : SE X b n) (hs : PlainIx b := by intro _ _; rfl) : SE X (.Subscript a b pos) (VM.eOp VM.oIx m n) := by
  obtain ⟨ta, pa, ka⟩ := ha
  obtain ⟨tb, pb, kb⟩ := hb
  refine ⟨_, pe_ix (ix_list.or ix_tup) pa pb hs, fun ι M H σ τ Q R S h => ?_⟩
  refine ka ι M H σ τ _ R S (Post.seq h fun ι1 H1 x M1 u p1 R1 r1 h1 => ?_)
  refine kb ι1 M1 H1 σ τ _ R1 (S.mono p1) (Post.seq h1 fun ι2 H2 y M2 v p2 R2 r2 h2 => ?_)
  have rx := r1.mono p2
  cases y with
  | int i =>
    cases r2
    have q' : Post RV X.K ι2 (match VM.seqOf M2 x with | some xs => (match VM.atI xs i with | some v => VM.R.ok v M2 | none => .bad) | none => .bad) Q := h2
    cases e : VM.seqOf M2 x with
    | none => rw [e] at q'; exact (q' : False).elim
    | some xs =>
      rw [e] at q'
      have q2 : Post RV X.K ι2 (match VM.atI xs i with | some v => VM.R.ok v M2 | none => .bad) Q := q'
      cases e2 : VM.atI xs i with
      | none => rw [e2] at q2; exact (q2 : False).elim
      | some w =>
        rw [e2] at q2
        obtain ⟨p, vs, rfl, hs', r3⟩ := R2.seqOf e rx
        obtain ⟨v, hv, rv⟩ := atI_rel r3 e2
        rcases hs' with hs' | hs'
        · exact .inl ⟨p, vs, i, v, rfl, rfl, hs', hv, Post.ok q2 R2 rv⟩
        · exact .inr ⟨p, vs, i, v, rfl, rfl, hs', hv, Post.ok q2 R2 rv⟩
  | _ => cases x <;> exact (h2 : False).elim
/-! ### slices -/
def SO (X : Cx) (e : Option Expr) (m : VM.PM) : Prop := ∃ t, PO X e t ∧ ∀ ι M H σ τ Q, Rel X.K ι M H → RSt ι σ τ → Post (fun _ (a b : Option Int) => a = b) X.K ι (m σ M) Q → t τ H Q
theorem so_none : SO X none VM.pNone := ⟨_, po_none, fun ι M H σ τ Q R S h => Post.ok (b := Option.none) h R rfl⟩
theorem so_some {e : Expr} {m : VM.EM} (ha : SE X e m) : SO X (some e) (VM.pSome m) := by
  obtain ⟨ta, pa, ka⟩ := ha
  refine ⟨_, po_some pa, fun ι M H σ τ Q R S h => ?_⟩
  refine ka ι M H σ τ _ R S (Post.seq h fun ι1 H1 x M1 u p1 R1 r1 h1 => ?_)
  cases x with
  | int i => cases r1; exact ⟨i, rfl, Post.ok (b := some i) h1 R1 rfl⟩
  | _ => exact (h1 : False).elim
theorem cut_rel {ι : List Addr} {xs : List VM.W} {vs : List V} (r : RVs ι xs vs) (lo hi : Option Int) : RVs ι (VM.cut xs lo hi) (cutV vs lo hi) := by
  have hl := Paired.len r
  unfold VM.cut cutV
  have e : ∀ n d o, HT.sIx n d o = VM.sIx n d o := fun n d o => by cases o <;> rfl
  rw [e, e, ← hl]
  exact Paired.takeP _ (Paired.dropP _ r)
theorem se_sl {a : Expr} {lo hi : Option Expr} {m : VM.EM} {l h : VM.PM} {p2 pos} (ha : SE X a m) (hl : SO X lo l) (hh : SO X hi h) : SE X (.Subscript a (.Slice lo hi none p2) pos) (VM.eSl m l h) := by
  obtain ⟨ta, pa, ka⟩ := ha
  obtain ⟨tl, pl, kl⟩ := hl
  obtain ⟨th, ph, kh⟩ := hh
  refine ⟨_, pe_slice (SlR.or sl_list sl_tup) pa pl ph, fun ι M H σ τ Q R S q => ?_⟩
  refine ka ι M H σ τ _ R S (Post.seq q fun ι1 H1 x M1 u p1 R1 r1 h1 => ?_)
  refine kl ι1 M1 H1 σ τ _ R1 (S.mono p1) (Post.seq h1 fun ι2 H2 lo' M2 lo'' p2 R2 r2 h2 => ?_)
  refine kh ι2 M2 H2 σ τ _ R2 (S.mono (List.IsPrefix.trans p1 p2)) (Post.seq h2 fun ι3 H3 hi' M3 hi'' p3 R3 r3 h3 => ?_)
  cases r2
  cases r3
  have rx := (r1.mono p2).mono p3
  have q' : Post RV X.K ι3 (match VM.lstOf M3 x with | some xs => VM.newL (VM.cut xs lo' hi') M3 | none => (match VM.tupOf M3 x with | some xs => (if VM.sIx xs.length 0 lo' = 0 ∧ VM.sIx xs.length xs.length hi' = xs.length then .bad else VM.newT (VM.cut xs lo' hi') M3) | none => .bad)) Q := h3
  cases e : VM.lstOf M3 x with
  | some xs =>
    rw [e] at q'
    obtain ⟨p, vs, rfl, hs, r⟩ := R3.lstOf e rx
    exact .inl ⟨p, vs, rfl, hs, (newL_post R3 (cut_rel r lo' hi') q').2⟩
  | none =>
    rw [e] at q'
    have q2 : Post RV X.K ι3 (match VM.tupOf M3 x with | some xs => (if VM.sIx xs.length 0 lo' = 0 ∧ VM.sIx xs.length xs.length hi' = xs.length then .bad else VM.newT (VM.cut xs lo' hi') M3) | none => .bad) Q := q'
    cases e2 : VM.tupOf M3 x with
    | none => rw [e2] at q2; exact (q2 : False).elim
    | some xs =>
      rw [e2] at q2
      obtain ⟨p, vs, rfl, hs, r⟩ := R3.tupOf e2 rx
      have q3 : Post RV X.K ι3 (if VM.sIx xs.length 0 lo' = 0 ∧ VM.sIx xs.length xs.length hi' = xs.length then .bad else VM.newT (VM.cut xs lo' hi') M3) Q := q2
      by_cases hw : VM.sIx xs.length 0 lo' = 0 ∧ VM.sIx xs.length xs.length hi' = xs.length
      · rw [if_pos hw] at q3; exact (q3 : False).elim
      · rw [if_neg hw] at q3
        have hl := Paired.len r
        refine .inr ⟨p, vs, rfl, SqT.of hs, ?_, (newT_post R3 (cut_rel r lo' hi') q3).2⟩
        have e3 : ∀ n d o, HT.sIx n d o = VM.sIx n d o := fun n d o => by cases o <;> rfl
        rw [e3, e3, ← hl]; exact hw
end
end SV
end
section
set_option Elab.async false
set_option linter.all false
set_option autoImplicit false
set_option maxRecDepth 100000
set_option maxHeartbeats 4000000
namespace SV
open PySem L2
section
variable {X : Cx}
/-! ### None -/
theorem RV.isNon {ι : List Addr} {x : VM.W} {v : V} (r : RV ι x v) : decide (v = .non) = VM.isNon x := by
  cases x with
  | ref a => obtain ⟨p, _, rfl⟩ := r; rfl
  | non => cases r; rfl
  | bl _ => cases r; rfl
  | int _ => cases r; rfl
  | str _ => cases r; rfl
theorem se_isN {a : Expr} {m : VM.EM} {j p pos} (ha : SE X a m) : SE X (.Compare a [.Is] [.Constant .none j p] pos) (VM.eIsN m) := by
  obtain ⟨ta, pa, ka⟩ := ha
  refine ⟨_, pe_cmp (pc_isN pa), fun ι M H σ τ Q R S h => ?_⟩
  refine ka ι M H σ τ _ R S (Post.seq h fun ι1 H1 x M1 u p1 R1 r1 h1 => ?_)
  show Q (.bl (decide (u = .non))) H1
  rw [r1.isNon]
  exact Post.ok (b := V.bl _) h1 R1 rfl
theorem se_notN {a : Expr} {m : VM.EM} {j p pos} (ha : SE X a m) : SE X (.Compare a [.IsNot] [.Constant .none j p] pos) (VM.eNotN m) := by
  obtain ⟨ta, pa, ka⟩ := ha
  refine ⟨_, pe_cmp (pc_notN pa), fun ι M H σ τ Q R S h => ?_⟩
  refine ka ι M H σ τ _ R S (Post.seq h fun ι1 H1 x M1 u p1 R1 r1 h1 => ?_)
  show Q (.bl (!decide (u = .non))) H1
  rw [r1.isNon]
  exact Post.ok (b := V.bl _) h1 R1 rfl
theorem tB_post {m : VM.EM} {ta : TE} {ι : List Addr} {M : VM.Mem} {H : Hp} {σ : VM.St} {τ : L2.St} {Q : Bool → Hp → Prop} (ka : ∀ ι M H σ τ Q, Rel X.K ι M H → RSt ι σ τ → Post RV X.K ι (m σ M) Q → ta τ H Q) (R : Rel X.K ι M H) (S : RSt ι σ τ) (h : Post rB X.K ι (VM.tB m σ M) Q) : L2.tB ta τ H Q := by
  refine ka ι M H σ τ _ R S (Post.seq h fun ι1 H1 x M1 u p1 R1 r1 h1 => ?_)
  cases x with
  | bl b => cases r1; exact ⟨b, rfl, Post.ok h1 R1 rfl⟩
  | _ => exact (h1 : False).elim
theorem st_isN {a : Expr} {m : VM.EM} {j p pos} (ha : SE X a m) : STt X (.Compare a [.Is] [.Constant .none j p] pos) (VM.tB (VM.eIsN m)) := by
  obtain ⟨ta, pa, ka⟩ := ha
  refine ⟨_, pt_cmp (pc_isN pa), fun ι M H σ τ Q R S h => tB_post (fun ι M H σ τ Q R S h => ?_) R S h⟩
  refine ka ι M H σ τ _ R S (Post.seq h fun ι1 H1 x M1 u p1 R1 r1 h1 => ?_)
  show Q (.bl (decide (u = .non))) H1
  rw [r1.isNon]
  exact Post.ok (b := V.bl _) h1 R1 rfl
theorem st_notN {a : Expr} {m : VM.EM} {j p pos} (ha : SE X a m) : STt X (.Compare a [.IsNot] [.Constant .none j p] pos) (VM.tB (VM.eNotN m)) := by
  obtain ⟨ta, pa, ka⟩ := ha
  refine ⟨_, pt_cmp (pc_notN pa), fun ι M H σ τ Q R S h => tB_post (fun ι M H σ τ Q R S h => ?_) R S h⟩
  refine ka ι M H σ τ _ R S (Post.seq h fun ι1 H1 x M1 u p1 R1 r1 h1 => ?_)
  show Q (.bl (!decide (u = .non))) H1
  rw [r1.isNon]
  exact Post.ok (b := V.bl _) h1 R1 rfl
/-- a value that is a bool, as a test -/
theorem st_val {e : Expr} {m : VM.EM} (ha : SE X e m) (he : ∀ whole, isTrue e X.env whole = (do let v ← whole; standAt e.pos; holding [v] (truthy v)) := by intro _; rfl) : STt X e (VM.tB m) := by
  obtain ⟨ta, pa, ka⟩ := ha
  exact ⟨_, pt_val pa he, fun ι M H σ τ Q R S h => tB_post ka R S h⟩
/-! ### and, or, not -/
theorem ste_post {a b : VM.TM} {t u : TT} (op : VM.TM → VM.TM → VM.TM) : True := trivial
theorem sw_and1 {a : Expr} {m : VM.TM} {pos} (ha : STt X a m) : SW X (.BoolOp .And [a] pos) m := by
  obtain ⟨ta, pa, ka⟩ := ha
  exact ⟨_, pw_and1 pa, ka⟩
theorem sw_or1 {a : Expr} {m : VM.TM} {pos} (ha : STt X a m) : SW X (.BoolOp .Or [a] pos) m := by
  obtain ⟨ta, pa, ka⟩ := ha
  exact ⟨_, pw_or1 pa, ka⟩
theorem sw_and {a b : Expr} {rest : List Expr} {m n : VM.TM} {pos} (ha : STt X a m) (hb : SW X (.BoolOp .And (b :: rest) pos) n) : SW X (.BoolOp .And (a :: b :: rest) pos) (VM.tAnd m n) := by
  obtain ⟨ta, pa, ka⟩ := ha
  obtain ⟨tb, pb, kb⟩ := hb
  refine ⟨_, pw_and pa pb, fun ι M H σ τ Q R S h => ?_⟩
  refine ka ι M H σ τ _ R S (Post.seq h fun ι1 H1 x M1 u p1 R1 r1 h1 => ?_)
  cases r1
  cases x with
  | true => exact kb ι1 M1 H1 σ τ Q R1 (S.mono p1) h1
  | false => exact Post.ok (b := false) h1 R1 rfl
theorem sw_or {a b : Expr} {rest : List Expr} {m n : VM.TM} {pos} (ha : STt X a m) (hb : SW X (.BoolOp .Or (b :: rest) pos) n) : SW X (.BoolOp .Or (a :: b :: rest) pos) (VM.tOr m n) := by
  obtain ⟨ta, pa, ka⟩ := ha
  obtain ⟨tb, pb, kb⟩ := hb
  refine ⟨_, pw_or pa pb, fun ι M H σ τ Q R S h => ?_⟩
  refine ka ι M H σ τ _ R S (Post.seq h fun ι1 H1 x M1 u p1 R1 r1 h1 => ?_)
  cases r1
  cases x with
  | true => exact Post.ok (b := true) h1 R1 rfl
  | false => exact kb ι1 M1 H1 σ τ Q R1 (S.mono p1) h1
theorem st_bool {e : Expr} {m : VM.TM} (h : SW X e m) : STt X e m := by
  obtain ⟨t, p, k⟩ := h
  exact ⟨t, p.pt, k⟩
theorem st_not {a : Expr} {m : VM.TM} {pos} (ha : STt X a m) : STt X (.UnaryOp .Not a pos) (VM.tNot m) := by
  obtain ⟨ta, pa, ka⟩ := ha
  refine ⟨_, pt_not pa, fun ι M H σ τ Q R S h => ?_⟩
  refine ka ι M H σ τ _ R S (Post.seq h fun ι1 H1 x M1 u p1 R1 r1 h1 => ?_)
  cases r1
  exact Post.ok (b := !x) h1 R1 rfl
theorem se_one {op} {a : Expr} {m : VM.EM} {pos} (ha : SE X a m) : SE X (.BoolOp op [a] pos) m := by
  obtain ⟨ta, pa, ka⟩ := ha
  exact ⟨_, pe_one pa, ka⟩
theorem se_and {a b : Expr} {rest : List Expr} {m n : VM.EM} {pos} (ha : SE X a m) (hb : SE X (.BoolOp .And (b :: rest) pos) n) : SE X (.BoolOp .And (a :: b :: rest) pos) (VM.eAnd m n) := by
  obtain ⟨ta, pa, ka⟩ := ha
  obtain ⟨tb, pb, kb⟩ := hb
  refine ⟨_, pe_and pa pb, fun ι M H σ τ Q R S h => ?_⟩
  refine ka ι M H σ τ _ R S (Post.seq h fun ι1 H1 x M1 u p1 R1 r1 h1 => ?_)
  cases x with
  | bl c =>
    cases r1
    refine ⟨c, rfl, ?_⟩
    cases c with
    | true => rw [if_pos rfl]; exact kb ι1 M1 H1 σ τ Q R1 (S.mono p1) h1
    | false => rw [if_neg Bool.false_ne_true]; exact Post.ok (b := V.bl false) h1 R1 rfl
  | _ => exact (h1 : False).elim
theorem se_or {a b : Expr} {rest : List Expr} {m n : VM.EM} {pos} (ha : SE X a m) (hb : SE X (.BoolOp .Or (b :: rest) pos) n) : SE X (.BoolOp .Or (a :: b :: rest) pos) (VM.eOr m n) := by
  obtain ⟨ta, pa, ka⟩ := ha
  obtain ⟨tb, pb, kb⟩ := hb
  refine ⟨_, pe_or pa pb, fun ι M H σ τ Q R S h => ?_⟩
  refine ka ι M H σ τ _ R S (Post.seq h fun ι1 H1 x M1 u p1 R1 r1 h1 => ?_)
  cases x with
  | bl c =>
    cases r1
    refine ⟨c, rfl, ?_⟩
    cases c with
    | true => rw [if_pos rfl]; exact Post.ok (b := V.bl true) h1 R1 rfl
    | false => rw [if_neg Bool.false_ne_true]; exact kb ι1 M1 H1 σ τ Q R1 (S.mono p1) h1
  | _ => exact (h1 : False).elim
theorem se_not {a : Expr} {m : VM.EM} {pos} (ha : SE X a m) : SE X (.UnaryOp .Not a pos) (VM.eNot m) := by
  obtain ⟨ta, pa, ka⟩ := ha
  refine ⟨_, pe_not pa, fun ι M H σ τ Q R S h => ?_⟩
  refine ka ι M H σ τ _ R S (Post.seq h fun ι1 H1 x M1 u p1 R1 r1 h1 => ?_)
  cases x with
  | bl c => cases r1; exact ⟨c, rfl, Post.ok (b := V.bl (!c)) h1 R1 rfl⟩
  | _ => exact (h1 : False).elim
theorem se_if {c a b : Expr} {t : VM.TM} {m n : VM.EM} {pos} (hc : STt X c t) (ha : SE X a m) (hb : SE X b n) : SE X (.IfExp c a b pos) (VM.eIf t m n) := by
  obtain ⟨tc, pc, kc⟩ := hc
  obtain ⟨ta, pa, ka⟩ := ha
  obtain ⟨tb, pb, kb⟩ := hb
  refine ⟨_, pe_ifExp pc pa pb, fun ι M H σ τ Q R S h => ?_⟩
  refine kc ι M H σ τ _ R S (Post.seq h fun ι1 H1 x M1 u p1 R1 r1 h1 => ?_)
  cases r1
  cases x with
  | true => rw [if_pos rfl]; exact ka ι1 M1 H1 σ τ Q R1 (S.mono p1) h1
  | false => rw [if_neg Bool.false_ne_true]; exact kb ι1 M1 H1 σ τ Q R1 (S.mono p1) h1
/-! ### calls of built-ins -/
theorem sc_len : SC X (.builtin "len") VM.fLen := by
  refine ⟨_, call_len_seq, fun ι M H ws vs Q R r h => ?_⟩
  cases r with
  | nil => exact (h : False).elim
  | cons r1 t =>
    cases t with
    | cons _ _ => exact (h : False).elim
    | nil =>
      rename_i x v
      have q : Post RV X.K ι (match VM.seqOf M x with | some xs => VM.R.ok (.int xs.length) M | none => .bad) Q := h
      cases e : VM.seqOf M x with
      | none => rw [e] at q; exact (q : False).elim
      | some xs =>
        rw [e] at q
        obtain ⟨p, us, rfl, hs, r2⟩ := R.seqOf e r1
        exact ⟨p, us, rfl, hs, by rw [← Paired.len r2]; exact Post.ok (b := V.int _) q R rfl⟩
theorem sc_list : SC X (.type "list") VM.fList := by
  refine ⟨_, call_list_of, fun ι M H ws vs Q R r h => ?_⟩
  cases r with
  | nil => exact (h : False).elim
  | cons r1 t =>
    cases t with
    | cons _ _ => exact (h : False).elim
    | nil =>
      rename_i x v
      have q : Post RV X.K ι (match VM.seqOf M x with | some xs => VM.newL xs M | none => .bad) Q := h
      cases e : VM.seqOf M x with
      | none => rw [e] at q; exact (q : False).elim
      | some xs =>
        rw [e] at q
        obtain ⟨p, us, rfl, hs, r2⟩ := R.seqOf e r1
        exact ⟨p, us, rfl, hs, (newL_post R r2 q).2⟩
theorem sc_tuple : SC X (.type "tuple") VM.fTuple := by
  refine ⟨_, call_tuple_of, fun ι M H ws vs Q R r h => ?_⟩
  cases r with
  | nil => exact (h : False).elim
  | cons r1 t =>
    cases t with
    | cons _ _ => exact (h : False).elim
    | nil =>
      rename_i x v
      have q : Post RV X.K ι (match VM.lstOf M x with | some xs => VM.newT xs M | none => (match VM.tupOf M x with | some _ => .ok x M | none => .bad)) Q := h
      cases e : VM.lstOf M x with
      | some xs =>
        rw [e] at q
        obtain ⟨p, us, rfl, hs, r2⟩ := R.lstOf e r1
        exact ⟨p, us, rfl, .inl ⟨hs, (newT_post R r2 q).2⟩⟩
      | none =>
        rw [e] at q
        have q2 : Post RV X.K ι (match VM.tupOf M x with | some _ => .ok x M | none => .bad) Q := q
        cases e2 : VM.tupOf M x with
        | none => rw [e2] at q2; exact (q2 : False).elim
        | some xs =>
          rw [e2] at q2
          obtain ⟨p, us, rfl, hs, r2⟩ := R.tupOf e2 r1
          exact ⟨p, us, rfl, .inr ⟨SqT.of hs, Post.ok q2 R r1⟩⟩
theorem sc_int : SC X (.type "int") VM.fInt := by
  refine ⟨_, call_int1, fun ι M H ws vs Q R r h => ?_⟩
  cases r with
  | nil => exact (h : False).elim
  | cons r1 t =>
    cases t with
    | cons _ _ => rename_i x _ _ _ _ _ _ _; cases x <;> exact (h : False).elim
    | nil =>
      rename_i x v
      cases x with
      | int i => cases r1; exact .inl ⟨i, rfl, Post.ok (b := V.int i) h R rfl⟩
      | bl b => cases r1; exact .inr ⟨b, rfl, Post.ok (b := V.int _) h R rfl⟩
      | _ => exact (h : False).elim
theorem se_callB {x : Str} {id : String} {f : VM.CM} {e : Expr} {es : List Expr} {a : VM.AM} {p pos : Pos} (hc : SC X (.builtin id) f) (hm : X.mg x = none) (ha : SA X (e :: es) a) (hg : Gl X x := by rfl) (hv : bootBuiltins x = some (.builtin id) := by rfl) (hn : x ≠ "__name__" := by decide +kernel) (hdb : (x == ("__debug__" : Str)) = false := by decide +kernel)
    (he : starEach (e :: es) X.env = (false, eval e X.env) :: starEach es X.env := by rfl) (hpl : (backTo pos (starEach es X.env)).any (·.1) = false := by rfl) : SE X (.Call (.Name x p) (e :: es) [] pos) (VM.eCall f a) := by
  obtain ⟨r, pc, kc⟩ := hc
  obtain ⟨ta, pa, ka⟩ := ha
  refine ⟨_, pe_callB pc hg hm hv pa hn hdb he hpl, fun ι M H σ τ Q R S h => ?_⟩
  exact ka ι M H σ τ _ R S (Post.seq h fun ι1 H1 x M1 u p1 R1 r1 h1 => kc ι1 M1 H1 x u Q R1 r1 h1)
theorem se_callTy {x : Str} {T : String} {f : VM.CM} {e : Expr} {es : List Expr} {a : VM.AM} {p pos : Pos} (hc : SC X (.type T) f) (hm : X.mg x = none) (ha : SA X (e :: es) a) (hg : Gl X x := by rfl) (hv : bootBuiltins x = some (.type T) := by rfl) (hn : x ≠ "__name__" := by decide +kernel) (hdb : (x == ("__debug__" : Str)) = false := by decide +kernel)
    (he : starEach (e :: es) X.env = (false, eval e X.env) :: starEach es X.env := by rfl) (hpl : (backTo pos (starEach es X.env)).any (·.1) = false := by rfl) : SE X (.Call (.Name x p) (e :: es) [] pos) (VM.eCall f a) := by
  obtain ⟨r, pc, kc⟩ := hc
  obtain ⟨ta, pa, ka⟩ := ha
  refine ⟨_, pe_callTy pc hg hm hv pa hn hdb he hpl, fun ι M H σ τ Q R S h => ?_⟩
  exact ka ι M H σ τ _ R S (Post.seq h fun ι1 H1 x M1 u p1 R1 r1 h1 => kc ι1 M1 H1 x u Q R1 r1 h1)
/-! ### calls of the program's defs -/
def spV (K : Fg) (n : Nat) (f : VM.CM) : Sp := fun vs H Q _ => vs.length = n ∧ ∃ ι M ws, Rel K ι M H ∧ RVs ι ws vs ∧ Post RV K ι (f ws M) Q
/-- a def of the program that keeps to the machine's c, k calls deep -/
structure FnV (P : Program) (w : World) (K : Fg) (mg : Str → Option Value) (base : Heap) (k : Nat) (x : Str) (f : Addr) (fd : FuncData) (ps : List Str) (c : VM.CM) : Prop where
  ok : FnOk P w K mg base CX0 k f fd ps (spV K ps.length c)
  mg : mg x = some (.ref f)
  kp : PySem.W.keepIn K (.ref f) = true
  bi : Binds K fd ps []
  ln : ∀ ws M, ws.length ≠ ps.length → c ws M = .bad
theorem se_call {x : Str} {k : Nat} {f : Addr} {fd : FuncData} {ps : List Str} {c : VM.CM} {e : Expr} {es : List Expr} {a : VM.AM} {p pos : Pos} (F : FnV X.prog X.w X.K X.mg X.base k x f fd ps c) (hr : Room k X.A)
    (ha : SA X (e :: es) a) (hg : Gl X x := by rfl) (hdb : (x == ("__debug__" : Str)) = false := by decide +kernel) (he : starEach (e :: es) X.env = (false, eval e X.env) :: starEach es X.env := by rfl) (hpl : (backTo pos (starEach es X.env)).any (·.1) = false := by rfl) :
    SE X (.Call (.Name x p) (e :: es) [] pos) (VM.eCall c a) := by
  obtain ⟨ta, pa, ka⟩ := ha
  refine ⟨_, pe_call F.ok hr hg F.mg F.kp F.bi .nil pass0 pa hdb he hpl, fun ι M H σ τ Q R S h => ?_⟩
  refine ka ι M H σ τ _ R S (Post.seq h fun ι1 H1 ws M1 vs p1 R1 r1 h1 => ?_)
  show spV X.K ps.length c (vs ++ []) H1 Q E0
  rw [List.append_nil]
  by_cases hw : ws.length = ps.length
  · exact ⟨by rw [← Paired.len r1]; exact hw, ι1, M1, ws, R1, r1, h1⟩
  · rw [F.ln ws M1 hw] at h1; exact (h1 : False).elim
end
end SV
end
section
set_option Elab.async false
set_option linter.all false
set_option autoImplicit false
set_option maxRecDepth 100000
set_option maxHeartbeats 4000000
namespace SV
open PySem L2
section
variable {X : Cx}
/-! ### methods of lists -/
def SM (X : Cx) (id : String) (f : VM.W → VM.CM) : Prop := ∃ r, MtR X id r ∧ ∀ ι M H x v ws vs Q, Rel X.K ι M H → RV ι x v → RVs ι ws vs → Post RV X.K ι (f x ws M) Q → (∃ p xs, v = .ref p ∧ SqL X.K H p xs) ∧ r v vs H Q
theorem sm_append : SM X "list.append" VM.mAppend := by
  refine ⟨_, mt_append, fun ι M H x v ws vs Q R rx r h => ?_⟩
  cases r with
  | nil => exact (h : False).elim
  | cons r1 t =>
    cases t with
    | cons _ _ => exact (h : False).elim
    | nil =>
      rename_i y u
      have q : Post RV X.K ι (match VM.mutOf M x with | some (a, xs) => (if xs.length < VM.lim then .ok .non (M.set a (.lst (xs ++ [y]))) else .bad) | none => .bad) Q := by
        unfold VM.mAppend at h
        cases e : VM.mutOf M x with
        | none => rw [e] at h; exact h
        | some z => rw [e] at h; exact h
      cases e : VM.mutOf M x with
      | none => rw [e] at q; exact (q : False).elim
      | some z =>
        obtain ⟨a, xs⟩ := z
        rw [e] at q
        have q2 : Post RV X.K ι (if xs.length < VM.lim then .ok .non (M.set a (.lst (xs ++ [y]))) else .bad) Q := q
        obtain ⟨p, us, rfl, hp, hm, rfl, h1, r2⟩ := R.mutOf e rx
        by_cases hl : xs.length < VM.lim
        · rw [if_pos hl] at q2
          refine ⟨⟨p, us, rfl, SqL.of h1⟩, p, us, u, rfl, rfl, h1, by rw [← Paired.len r2]; exact hl, ?_⟩
          exact Post.ok (b := V.non) q2 (R.set hp hm (Paired.app r2 (.cons r1 .nil))) rfl
        · rw [if_neg hl] at q2; exact (q2 : False).elim
theorem sm_extend : SM X "list.extend" VM.mExtend := by
  refine ⟨_, mt_extend, fun ι M H x v ws vs Q R rx r h => ?_⟩
  cases r with
  | nil => exact (h : False).elim
  | cons r1 t =>
    cases t with
    | cons _ _ => exact (h : False).elim
    | nil =>
      rename_i y u
      have q : Post RV X.K ι (match VM.mutOf M x, VM.mutOf M y with | some (a, xs), some (_, ys) => (if xs.length + ys.length ≤ VM.lim then .ok .non (M.set a (.lst (xs ++ ys))) else .bad) | _, _ => .bad) Q := h
      cases e : VM.mutOf M x with
      | none => rw [e] at q; exact (q : False).elim
      | some z =>
        cases e2 : VM.mutOf M y with
        | none => rw [e, e2] at q; exact (q : False).elim
        | some z2 =>
          obtain ⟨a, xs⟩ := z
          obtain ⟨a2, ys⟩ := z2
          rw [e, e2] at q
          have q2 : Post RV X.K ι (if xs.length + ys.length ≤ VM.lim then .ok .non (M.set a (.lst (xs ++ ys))) else .bad) Q := q
          obtain ⟨p, us, rfl, hp, hm, rfl, h1, r2⟩ := R.mutOf e rx
          obtain ⟨p2, us2, rfl, hp2, hm2, rfl, h12, r22⟩ := R.mutOf e2 r1
          by_cases hl : xs.length + ys.length ≤ VM.lim
          · rw [if_pos hl] at q2
            refine ⟨⟨p, us, rfl, SqL.of h1⟩, p, p2, us, us2, rfl, rfl, h1, h12, by rw [← Paired.len r2, ← Paired.len r22]; exact hl, ?_⟩
            exact Post.ok (b := V.non) q2 (R.set hp hm (Paired.app r2 r22)) rfl
          · rw [if_neg hl] at q2; exact (q2 : False).elim
theorem sm_pop : SM X "list.pop" VM.mPop := by
  refine ⟨_, mt_pop, fun ι M H x v ws vs Q R rx r h => ?_⟩
  cases r with
  | cons _ _ => exact (h : False).elim
  | nil =>
    have q : Post RV X.K ι (match VM.mutOf M x with | some (a, xs) => (match xs[xs.length - 1]? with | some y => .ok y (M.set a (.lst xs.dropLast)) | none => .bad) | none => .bad) Q := by
      unfold VM.mPop at h
      cases e : VM.mutOf M x with
      | none => rw [e] at h; exact h
      | some z => rw [e] at h; exact h
    cases e : VM.mutOf M x with
    | none => rw [e] at q; exact (q : False).elim
    | some z =>
      obtain ⟨a, xs⟩ := z
      rw [e] at q
      have q2 : Post RV X.K ι (match xs[xs.length - 1]? with | some y => .ok y (M.set a (.lst xs.dropLast)) | none => .bad) Q := q
      obtain ⟨p, us, rfl, hp, hm, rfl, h1, r2⟩ := R.mutOf e rx
      cases e3 : xs[xs.length - 1]? with
      | none => rw [e3] at q2; exact (q2 : False).elim
      | some y =>
        rw [e3] at q2
        obtain ⟨v, hv, rv⟩ := Paired.at r2 e3
        refine ⟨⟨p, us, rfl, SqL.of h1⟩, p, us, v, rfl, rfl, h1, by rw [← Paired.len r2]; exact hv, ?_⟩
        exact Post.ok q2 (R.set hp hm (Paired.dropLastP r2)) rv
theorem se_meth0 {o : Expr} {name : Str} {id : String} {f : VM.W → VM.CM} {m : VM.EM} {apos cpos : Pos} (slot : Slot "list" name id) (hty : typeOf (.builtin id) = pure (.type "method_descriptor")) (hm : SM X id f) (ho : SE X o m)
    (hbase : attributeBase o name X.env (eval o X.env) = eval o X.env := by rfl) (hline : (apos.endLine == cpos.line) = true := by rfl) : SE X (.Call (.Attribute o name apos) [] [] cpos) (VM.eMeth f m VM.aNil) := by
  obtain ⟨r, pm, km⟩ := hm
  obtain ⟨ta, pa, ka⟩ := ho
  refine ⟨_, pe_bm0 PySem.F.plainAttrs_list slot hty pm pa hbase hline, fun ι M H σ τ Q R S h => ?_⟩
  refine ka ι M H σ τ _ R S (Post.seq h fun ι1 H1 x M1 u p1 R1 r1 h1 => ?_)
  have h1' : Post RV X.K ι1 (match VM.lstOf M1 x with | some _ => f x [] M1 | none => .bad) Q := by
    cases el : VM.lstOf M1 x with
    | none => rw [el] at h1; exact h1
    | some xs => rw [el] at h1; exact h1
  cases el : VM.lstOf M1 x with
  | none => rw [el] at h1'; exact (h1' : False).elim
  | some xs =>
    rw [el] at h1'
    obtain ⟨⟨p, xs, e, hs⟩, q⟩ := km ι1 M1 H1 x u [] [] Q R1 r1 .nil h1'
    subst e
    exact ⟨.inl ⟨rfl, xs, hs⟩, q⟩
theorem se_meth {o e : Expr} {es : List Expr} {name : Str} {id : String} {f : VM.W → VM.CM} {m : VM.EM} {a : VM.AM} {apos cpos : Pos} (slot : Slot "list" name id) (hty : typeOf (.builtin id) = pure (.type "method_descriptor")) (hm : SM X id f) (ho : SE X o m) (ha : SA X (e :: es) a)
    (hbase : attributeBase o name X.env (eval o X.env) = eval o X.env := by rfl)
    (hfew : ((backTo cpos (starEach (e :: es) X.env)).all (fun x => !x.1) && (backToKw cpos (keywordEach [] X.env)).all (fun x => x.1.isSome)
      && decide ((e :: es).length + ([] : List Keyword).length + (if ([] : List Keyword).isEmpty then 0 else 1) < 30)) = true := by rfl)
    (hline : (apos.endLine == cpos.line) = true := by rfl) (hs : starEach (e :: es) X.env = (false, eval e X.env) :: starEach es X.env := by rfl) (hplain : (backTo cpos (starEach es X.env)).any (·.1) = false := by rfl) :
    SE X (.Call (.Attribute o name apos) (e :: es) [] cpos) (VM.eMeth f m a) := by
  obtain ⟨r, pm, km⟩ := hm
  obtain ⟨ta, pa, ka⟩ := ho
  obtain ⟨tb, pb, kb⟩ := ha
  refine ⟨_, pe_bm PySem.F.plainAttrs_list slot hty pm pa pb hbase hfew hline hs hplain, fun ι M H σ τ Q R S h => ?_⟩
  refine ka ι M H σ τ _ R S (Post.seq h fun ι1 H1 x M1 u p1 R1 r1 h1 => ?_)
  have h1' : Post RV X.K ι1 (match VM.lstOf M1 x with | some _ => (a σ M1).bind fun vs M2 => f x vs M2 | none => .bad) Q := h1
  cases el : VM.lstOf M1 x with
  | none => rw [el] at h1'; exact (h1' : False).elim
  | some xs =>
    rw [el] at h1'
    obtain ⟨p, us, e0, hsq, _⟩ := R1.lstOf el r1
    subst e0
    refine ⟨.inl ⟨rfl, us, hsq⟩, kb ι1 M1 H1 σ τ _ R1 (S.mono p1) (Post.seq h1' fun ι2 H2 ws M2 vs p2 R2 r2 h2 => ?_)⟩
    exact (km ι2 M2 H2 x _ ws vs Q R2 (r1.mono p2) r2 h2).2
/-! ### targets -/
theorem sg_name {i : Nat} {x : Str} {pos} (hN : X.N.Nodup) (hi : X.N[i]? = some x := by rfl) (hx : Loc X.env.scope x := by first | exact Or.inl rfl | exact Or.inr rfl) (hf : X.fn x = true ∨ X.env.scope.names.lookup x = some .local := by first | exact .inl rfl | exact .inr rfl | assumption) : SG X (.Name x pos) (VM.gName i) := by
  refine ⟨_, pg_name hN hi hx hf, fun ι M H σ τ w v Q R S r h => ?_⟩
  exact Post.ok h R (Paired.setP (F := RO1 ι) (x := some w) (y := some v) ⟨v, rfl, r⟩ i S)
theorem sgs_nil : SGs X [] [] := by
  refine ⟨rfl, _, pgs_nil, fun ι M H σ τ ws vs Q R S r h => ?_⟩
  cases r with
  | nil => exact ⟨rfl, Post.ok h R S⟩
  | cons _ _ => exact (h : False).elim
theorem sgs_cons {t : Expr} {ts : List Expr} {g : VM.GM} {gs : List VM.GM} (h1 : SG X t g) (h2 : SGs X ts gs) (hs : (assignEach (t :: ts) X.env).map (·.2) = assign t X.env :: (assignEach ts X.env).map (·.2) := by rfl) : SGs X (t :: ts) (g :: gs) := by
  obtain ⟨t1, p1, k1⟩ := h1
  obtain ⟨hl, t2, p2, k2⟩ := h2
  refine ⟨by simp [hl], _, pgs_cons p1 p2 hs, fun ι M H σ τ ws vs Q R S r h => ?_⟩
  cases r with
  | nil => exact (h : False).elim
  | cons r1 r2 =>
    rename_i w v ws vs
    refine ⟨v, vs, rfl, k1 ι M H σ τ w v _ R S r1 (Post.seq h fun ι1 H1 σ1 M1 τ1 q1 R1 S1 h1 => ?_)⟩
    exact k2 ι1 M1 H1 σ1 τ1 ws vs Q R1 S1 (RVs.mono q1 r2) h1
theorem sg_tup {es : List Expr} {k : Nat} {gs : List VM.GM} {pos} (hc : X.calm = true) (h : SGs X es gs) (hn : (assignEach es X.env).length = es.length := by rfl) (hst : (assignEach es X.env).findIdx? (·.1) = none := by rfl) : SG X (.Tuple es k pos) (VM.gTup gs) := by
  obtain ⟨hl, t2, p2, k2⟩ := h
  refine ⟨_, pg_tup hc p2 hn hst, fun ι M H σ τ w v Q R S r h => ?_⟩
  unfold VM.gTup at h
  cases e : VM.tupOf M w with
  | none => rw [e] at h; exact (h : False).elim
  | some xs =>
    rw [e] at h
    have h' : Post RSt X.K ι (if xs.length = gs.length then VM.gEach gs xs σ M else .bad) Q := h
    by_cases hx : xs.length = gs.length
    · rw [if_pos hx] at h'
      obtain ⟨p, vs, rfl, hs, r2⟩ := R.tupOf e r
      exact ⟨p, vs, rfl, SqT.of hs, by rw [← Paired.len r2, hx, hl], k2 ι M H σ τ xs vs Q R S r2 h'⟩
    · rw [if_neg hx] at h'; exact (h' : False).elim
theorem sg_sub {o i : Expr} {m n : VM.EM} {pos} (ho : SE X o m) (hi : SE X i n)
    (ha : ∀ v, assign (.Subscript o i pos) X.env v = (do
      let ov ← holding [v] (eval o X.env)
      let iv ← holding [v, ov] (eval i X.env)
      standAt pos
      holding [v, ov, iv] (setItem ov iv v)
      release [v, ov, iv] []) := by intro _; rfl) : SG X (.Subscript o i pos) (VM.gSub m n) := by
  obtain ⟨t1, p1, k1⟩ := ho
  obtain ⟨t2, p2, k2⟩ := hi
  refine ⟨_, pg_sub p1 p2 set_list ha, fun ι M H σ τ w v Q R S r h => ?_⟩
  refine k1 ι M H σ τ _ R S (Post.seq h fun ι1 H1 x M1 u q1 R1 r1 h1 => ?_)
  refine k2 ι1 M1 H1 σ τ _ R1 (S.mono q1) (Post.seq h1 fun ι2 H2 y M2 u2 q2 R2 r2 h2 => ?_)
  cases y with
  | int k =>
    cases r2
    have h3 : Post RSt X.K ι2 (match VM.mutOf M2 x with | some (a, xs) => (match VM.ixN xs.length k with | some j => .ok σ (M2.set a (.lst (xs.set j w))) | none => .bad) | none => .bad) Q := by
      cases e : VM.mutOf M2 x with
      | none => rw [e] at h2; exact h2
      | some z => rw [e] at h2; exact h2
    cases e : VM.mutOf M2 x with
    | none => rw [e] at h3; exact (h3 : False).elim
    | some z =>
      obtain ⟨a, xs⟩ := z
      rw [e] at h3
      have h4 : Post RSt X.K ι2 (match VM.ixN xs.length k with | some j => .ok σ (M2.set a (.lst (xs.set j w))) | none => .bad) Q := h3
      obtain ⟨p, us, rfl, hp, hm, rfl, h5, r5⟩ := R2.mutOf e (r1.mono q2)
      cases ej : VM.ixN xs.length k with
      | none => rw [ej] at h4; exact (h4 : False).elim
      | some j =>
        rw [ej] at h4
        refine ⟨p, us, k, j, rfl, rfl, h5, by rw [← Paired.len r5]; exact ej, ?_⟩
        exact Post.ok h4 (R2.set hp hm (Paired.setP (RV.mono q2 (RV.mono q1 r)) j r5)) (S.mono (List.IsPrefix.trans q1 q2))
  | _ => exact (h2 : False).elim
/-! ### statements -/
theorem PostS.seqS {K : Fg} {ι : List Addr} {r : VM.RS} {f : VM.St → VM.Mem → VM.RS} {D : Ends} {N : L2.St → Hp → Prop} (h : PostS K ι (r.andThen f) D)
    (k : ∀ ι' H' σ' M' τ', ι <+: ι' → Rel K ι' M' H' → RSt ι' σ' τ' → PostS K ι' (f σ' M') D → N τ' H') : PostS K ι r { D with nx := N } := by
  cases r with
  | nx σ M => exact fun ι' H' τ' p R S => k ι' H' σ M τ' p R S (PostS.mono p h)
  | rt w M => exact h
  | bk σ M => exact h
  | ct σ M => exact h
  | ex _ _ => exact h
  | bad => exact h
theorem sss_nil : SSs X [] VM.sSkip := ⟨_, pss_nil, fun ι M H σ τ D R S h => h ι H τ pre_refl R S⟩
theorem sss_one {st : Stmt} {m : VM.SM} (h : SS X st m) : SSs X [st] m := by
  obtain ⟨t, p, k⟩ := h
  exact ⟨t, pss_one p, k⟩
theorem sss_cons {st : Stmt} {rest : List Stmt} {m n : VM.SM} (h : SS X st m) (hr : SSs X rest n) : SSs X (st :: rest) (VM.sSeq m n) := by
  obtain ⟨t, p, k⟩ := h
  obtain ⟨u, q, l⟩ := hr
  refine ⟨_, pss_cons p q, fun ι M H σ τ D R S h => ?_⟩
  exact k ι M H σ τ _ R S (PostS.seqS h fun ι1 H1 σ1 M1 τ1 p1 R1 S1 h1 => l ι1 M1 H1 σ1 τ1 D R1 S1 h1)
theorem ss_asg {tg e : Expr} {m : VM.EM} {g : VM.GM} {pos} (he : SE X e m) (hg : SG X tg g) (hs : swapsWithSole [tg] e pos.line X.env = pure false := by rfl) (hw : swappedStores [tg] e X.env = pure none := by rfl)
    (h1 : (assignEach [tg] X.env).map (·.2) = [assign tg X.env] := by rfl) : SS X (.Assign [tg] e pos) (VM.sAsg m g) := by
  obtain ⟨t, p, k⟩ := he
  obtain ⟨u, q, l⟩ := hg
  refine ⟨_, ps_asg p q hs hw h1, fun ι M H σ τ D R S h => ?_⟩
  refine k ι M H σ τ _ R S (PostS.seq h fun ι1 H1 x M1 v p1 R1 r1 h1 => ?_)
  exact l ι1 M1 H1 σ τ x v D.nx R1 (S.mono p1) r1 (PostS.seq h1 fun ι2 H2 σ2 M2 τ2 p2 R2 S2 h2 => h2 ι2 H2 τ2 pre_refl R2 S2)
theorem ss_set {i : Nat} {x : Str} {e : Expr} {m : VM.EM} {pos pos'} (hN : X.N.Nodup) (he : SE X e m) (hi : X.N[i]? = some x := by rfl) (hx : Loc X.env.scope x := by first | exact Or.inl rfl | exact Or.inr rfl) (hs : swapsWith e (some (.Name x pos')) pos.line X.env = pure false := by rfl)
    (hf : X.fn x = true ∨ X.env.scope.names.lookup x = some .local := by first | exact .inl rfl | exact .inr rfl | assumption) : SS X (.Assign [.Name x pos'] e pos) (VM.sAsg m (VM.gName i)) := by
  obtain ⟨t, p, k⟩ := he
  refine ⟨_, ps_set hN hi hx p hs hf, fun ι M H σ τ D R S h => ?_⟩
  refine k ι M H σ τ _ R S (PostS.seq h fun ι1 H1 w M1 v p1 R1 r1 h1 => ?_)
  exact h1 ι1 H1 _ pre_refl R1 (Paired.setP (F := RO1 ι1) (x := some w) (y := some v) ⟨v, rfl, r1⟩ i (S.mono p1))
theorem ss_expr {e : Expr} {m : VM.EM} {pos} (he : SE X e m) (hs : swapsWith e none pos.line X.env = pure false := by rfl) : SS X (.Expr e pos) (VM.sExpr m) := by
  obtain ⟨t, p, k⟩ := he
  refine ⟨_, ps_expr p hs, fun ι M H σ τ D R S h => ?_⟩
  exact k ι M H σ τ _ R S (PostS.seq h fun ι1 H1 x M1 v p1 R1 r1 h1 => h1 ι1 H1 τ pre_refl R1 (S.mono p1))
theorem ss_ret {e : Expr} {m : VM.EM} {pos} (he : SE X e m) : SS X (.Return (some e) pos) (VM.sRet m) := by
  obtain ⟨t, p, k⟩ := he
  refine ⟨_, ps_ret p, fun ι M H σ τ D R S h => ?_⟩
  exact k ι M H σ τ _ R S (PostS.seq h fun ι1 H1 x M1 v p1 R1 r1 h1 => h1 ι1 H1 v pre_refl R1 r1)
theorem ss_retN {pos} : SS X (.Return none pos) VM.sRetN := ⟨_, ps_retN, fun ι M H σ τ D R S h => h ι H .non pre_refl R rfl⟩
theorem ss_pass {pos} : SS X (.Pass pos) VM.sSkip := ⟨_, ps_pass, fun ι M H σ τ D R S h => h ι H τ pre_refl R S⟩
theorem ss_break {pos} : SS X (.Break pos) VM.sBk := ⟨_, ps_break, fun ι M H σ τ D R S h => h ι H τ pre_refl R S⟩
theorem ss_continue {pos} : SS X (.Continue pos) VM.sCt := ⟨_, ps_continue, fun ι M H σ τ D R S h => h ι H τ pre_refl R S⟩
theorem ss_never {st : Stmt} : SS X st VM.sBad := ⟨_, ps_never, fun ι M H σ τ D R S h => h⟩
theorem ss_if {c : Expr} {a b : List Stmt} {t : VM.TM} {m n : VM.SM} {pos} (hc : STt X c t) (ha : SSs X a m) (hb : SSs X b n) : SS X (.If c a b pos) (VM.sIf t m n) := by
  obtain ⟨tc, pc, kc⟩ := hc
  obtain ⟨ta, pa, ka⟩ := ha
  obtain ⟨tb, pb, kb⟩ := hb
  refine ⟨_, ps_if pc pa pb, fun ι M H σ τ D R S h => ?_⟩
  refine kc ι M H σ τ _ R S (PostS.seq h fun ι1 H1 x M1 u p1 R1 r1 h1 => ?_)
  cases r1
  cases x with
  | true => rw [if_pos rfl]; exact ka ι1 M1 H1 σ τ D R1 (S.mono p1) h1
  | false => rw [if_neg Bool.false_ne_true]; exact kb ι1 M1 H1 σ τ D R1 (S.mono p1) h1
/-! ### while -/
theorem ss_while {n : Nat} {c : Expr} {body : List Stmt} {t : VM.TM} {m : VM.SM} {pos} (hp : PassesOwn (model X.prog X.w) X.A X.env X.xe) (hc : STt X c t) (hb : SSs X body m) : SS X (.While c body [] pos) (VM.sWhile n t m) := by
  obtain ⟨tc, pc, kc⟩ := hc
  obtain ⟨tb, pb, kb⟩ := hb
  refine ⟨_, ps_while hp pc pb, fun ι M H σ τ D R S h => ?_⟩
  refine ⟨fun k τ H => ∃ ι M σ, Rel X.K ι M H ∧ RSt ι σ τ ∧ PostS X.K ι (VM.whileN t m k σ M) D, ⟨n, ι, M, σ, R, S, h⟩, ?_⟩
  rintro k τ H ⟨ι, M, σ, R, S, h⟩
  cases k with
  | zero => exact (h : False).elim
  | succ k =>
    refine kc ι M H σ τ _ R S (PostS.seq h fun ι1 H1 x M1 u p1 R1 r1 h1 => ?_)
    cases r1
    cases x with
    | false => rw [if_neg Bool.false_ne_true]; exact h1 ι1 H1 τ pre_refl R1 (S.mono p1)
    | true =>
      rw [if_pos rfl]
      refine ⟨fun τ' H' => ∃ ι M σ, Rel X.K ι M H' ∧ RSt ι σ τ' ∧ PostS X.K ι (VM.whileN t m k σ M) D, fun τ' H' q => ⟨k, Nat.lt_succ_self _, q⟩, ?_⟩
      refine kb ι1 M1 H1 σ τ _ R1 (S.mono p1) ?_
      have h2 : PostS X.K ι1 (match m σ M1 with
        | .nx σ2 M3 => VM.whileN t m k σ2 M3
        | .ct σ2 M3 => VM.whileN t m k σ2 M3
        | .bk σ2 M3 => .nx σ2 M3
        | .rt v M3 => .rt v M3
        | .ex v M3 => .ex v M3
        | .bad => .bad) D := h1
      cases e : m σ M1 with
      | nx σ2 M3 => rw [e] at h2; exact fun ι2 H2 τ2 p2 R2 S2 => ⟨ι2, M3, σ2, R2, S2, PostS.mono p2 h2⟩
      | ct σ2 M3 => rw [e] at h2; exact fun ι2 H2 τ2 p2 R2 S2 => ⟨ι2, M3, σ2, R2, S2, PostS.mono p2 h2⟩
      | bk σ2 M3 => rw [e] at h2; exact h2
      | rt v M3 => rw [e] at h2; exact h2
      | ex v M3 => rw [e] at h2; exact h2
      | bad => rw [e] at h2; exact h2
end
end SV
end
section
set_option Elab.async false
set_option linter.all false
set_option autoImplicit false
set_option maxRecDepth 100000
set_option maxHeartbeats 4000000
namespace SV
open PySem L2
/-! ### what a loop walks -/
structure ItOk (K : Fg) (ι : List Addr) (J : It) (srcs : List VM.Src) (chk : VM.Chk) : Prop where
  go : ∀ i ι' M H x, ι <+: ι' → Rel K ι' M H → chk.ok M = true → srcs[i]? = some x → J.go i H
  yld : ∀ i ι' M H x v H', ι <+: ι' → Rel K ι' M H → chk.ok M = true → srcs[i]? = some x → J.yld i H v H' → ∃ ι2 w M2, ι' <+: ι2 ∧ x.get M = .ok w M2 ∧ Rel K ι2 M2 H' ∧ RV ι2 w v
  stop : ∀ i ι' M H, ι <+: ι' → Rel K ι' M H → chk.ok M = true → srcs.length ≤ i → J.stop i H
theorem ItOk.mono {K : Fg} {ι ι' : List Addr} {J : It} {srcs : List VM.Src} {chk : VM.Chk} (p : ι <+: ι') (h : ItOk K ι J srcs chk) : ItOk K ι' J srcs chk :=
  ⟨fun i ι2 M H x q => h.go i ι2 M H x (List.IsPrefix.trans p q), fun i ι2 M H x v H' q => h.yld i ι2 M H x v H' (List.IsPrefix.trans p q), fun i ι2 M H q => h.stop i ι2 M H (List.IsPrefix.trans p q)⟩
abbrev rI (K : Fg) : List Addr → (List VM.Src × VM.Chk) → It → Prop := fun ι a J => ItOk K ι J a.1 a.2
def SI (X : Cx) (tg iter : Expr) (m : VM.IM) : Prop := ∃ wi, PI X tg iter wi ∧ ∀ ι M H σ τ Q, Rel X.K ι M H → RSt ι σ τ → Post (rI X.K) X.K ι (m σ M) Q → wi τ H Q
section
variable {X : Cx} {tg : Expr}
theorem chk1 {a : Nat} {o : VM.O} {M : VM.Mem} (h : VM.Chk.ok [(a, o)] M = true) : M[a]? = some o := by
  simpa [VM.Chk.ok] using h
theorem map_val {xs : List VM.W} {i : Nat} {x : VM.Src} (h : (xs.map VM.Src.val)[i]? = some x) : ∃ w, xs[i]? = some w ∧ x = .val w := by
  rw [List.getElem?_map] at h
  cases e : xs[i]? with
  | none => rw [e] at h; cases h
  | some w => rw [e] at h; exact ⟨w, rfl, (Option.some.inj h).symm⟩
theorem itl_ok {K : Fg} {ι : List Addr} {a : Nat} {p : Addr} {o : VM.O} {xs : List VM.W} (hp : ι[a]? = some p) (ho : o = .lst xs ∨ o = .frz xs) : ItOk K ι (Itl K p) (xs.map .val) [(a, o)] := by
  have look : ∀ {ι' M H}, ι <+: ι' → Rel K ι' M H → VM.Chk.ok [(a, o)] M = true → ∃ vs, SqL K H p vs ∧ RVs ι' xs vs := fun {ι' M H} q R hc => by
    have hm := chk1 hc
    have ro := R.obj a p o (get_pre q hp) hm
    rcases ho with rfl | rfl
    · obtain ⟨vs, h1, h2⟩ := ro; exact ⟨vs, SqL.of h1, h2⟩
    · obtain ⟨vs, h1, h2⟩ := ro; exact ⟨vs, h1.sq, h2⟩
  refine ⟨fun i ι' M H x q R hc hx => ?_, fun i ι' M H x v H' q R hc hx y => ?_, fun i ι' M H q R hc hi => ?_⟩
  · obtain ⟨vs, h1, h2⟩ := look q R hc
    obtain ⟨w, hw, rfl⟩ := map_val hx
    obtain ⟨v, hv, _⟩ := Paired.at h2 hw
    exact ⟨vs, v, h1, hv⟩
  · obtain ⟨vs, h1, h2⟩ := look q R hc
    obtain ⟨w, hw, rfl⟩ := map_val hx
    obtain ⟨rfl, y⟩ := y
    obtain ⟨v', hv, rv⟩ := Paired.at h2 hw
    have e := y vs h1
    rw [hv] at e
    cases e
    exact ⟨ι', w, M, pre_refl, rfl, R, rv⟩
  · obtain ⟨vs, h1, h2⟩ := look q R hc
    exact ⟨vs, h1, by rw [← Paired.len h2]; simpa using hi⟩
theorem itt_ok {K : Fg} {ι : List Addr} {a : Nat} {p : Addr} {xs : List VM.W} (hp : ι[a]? = some p) : ItOk K ι (Itt K p) (xs.map .val) [(a, .tup xs)] := by
  have look : ∀ {ι' M H}, ι <+: ι' → Rel K ι' M H → VM.Chk.ok [(a, .tup xs)] M = true → ∃ vs, SqT K H p vs ∧ RVs ι' xs vs := fun {ι' M H} q R hc => by
    have hm := chk1 hc
    obtain ⟨vs, h1, h2⟩ := R.obj a p _ (get_pre q hp) hm
    exact ⟨vs, SqT.of h1, h2⟩
  refine ⟨fun i ι' M H x q R hc hx => ?_, fun i ι' M H x v H' q R hc hx y => ?_, fun i ι' M H q R hc hi => ?_⟩
  · obtain ⟨vs, h1, h2⟩ := look q R hc
    obtain ⟨w, hw, rfl⟩ := map_val hx
    obtain ⟨v, hv, _⟩ := Paired.at h2 hw
    exact ⟨vs, v, h1, hv⟩
  · obtain ⟨vs, h1, h2⟩ := look q R hc
    obtain ⟨w, hw, rfl⟩ := map_val hx
    obtain ⟨rfl, y⟩ := y
    obtain ⟨v', hv, rv⟩ := Paired.at h2 hw
    have e := y vs h1
    rw [hv] at e
    cases e
    exact ⟨ι', w, M, pre_refl, rfl, R, rv⟩
  · obtain ⟨vs, h1, h2⟩ := look q R hc
    exact ⟨vs, h1, by rw [← Paired.len h2]; simpa using hi⟩
theorem itr_ok {K : Fg} {ι : List Addr} (lo : Int) (n : Nat) : ItOk K ι (Itr lo n) (VM.rng lo n) [] := by
  have hl : (VM.rng lo n).length = n := by simp [VM.rng]
  have look : ∀ {i : Nat} {x : VM.Src}, (VM.rng lo n)[i]? = some x → i < n ∧ x = .val (.int (lo + (i : Int))) := fun {i x} h => by
    have hi : i < n := by rw [← hl]; exact (List.getElem?_eq_some_iff.mp h).1
    unfold VM.rng at h
    rw [List.getElem?_map, List.getElem?_range hi] at h
    exact ⟨hi, (Option.some.inj h).symm⟩
  refine ⟨fun i ι' M H x q R hc hx => (look hx).1, fun i ι' M H x v H' q R hc hx y => ?_, fun i ι' M H q R hc hi => by rw [hl] at hi; exact hi⟩
  obtain ⟨rfl, rfl⟩ := y
  obtain ⟨_, rfl⟩ := look hx
  exact ⟨ι', .int (lo + i), M, pre_refl, rfl, R, rfl⟩
/-- the rule's union: a list or a tuple -/
theorem pi_or {iter : Expr} {w1 w2 : TI} (h1 : PI X tg iter w1) (h2 : PI X tg iter w2) : PI X tg iter (fun σ H R => w1 σ H R ∨ w2 σ H R) := by
  intro pins s σ H R I q
  rcases q with q | q
  · exact h1 pins s σ H R I q
  · exact h2 pins s σ H R I q
end
section
variable {X : Cx} {tg : Expr}
theorem si_seq {e : Expr} {m : VM.EM} (he : SE X e m) : SI X tg e (VM.iSeq m) := by
  obtain ⟨t, p, k⟩ := he
  refine ⟨_, pi_or (pi_list p) (pi_tup p), fun ι M H σ τ Q R S h => ?_⟩
  unfold VM.iSeq at h
  cases em : m σ M with
  | ok x M1 =>
    rw [em] at h
    cases x with
    | ref a =>
      have h2 : Post (rI X.K) X.K ι (match M1[a]? with | some (.lst xs) => .ok (xs.map .val, [(a, .lst xs)]) M1 | some (.frz xs) => .ok (xs.map .val, [(a, .frz xs)]) M1 | some (.tup xs) => .ok (xs.map .val, [(a, .tup xs)]) M1 | none => .bad) Q := h
      cases e : M1[a]? with
      | none => rw [e] at h2; exact (h2 : False).elim
      | some o =>
        rw [e] at h2
        cases o with
        | lst xs =>
          refine .inl (k ι M H σ τ _ R S ?_)
          rw [em]
          intro ι1 H1 u p1 R1 r1
          obtain ⟨q, hq, rfl⟩ := r1
          obtain ⟨vs, hv, rv⟩ := R1.obj a q _ hq e
          exact ⟨q, rfl, ⟨vs, SqL.of hv⟩, h2 ι1 H1 _ p1 R1 (itl_ok hq (.inl rfl))⟩
        | frz xs =>
          refine .inl (k ι M H σ τ _ R S ?_)
          rw [em]
          intro ι1 H1 u p1 R1 r1
          obtain ⟨q, hq, rfl⟩ := r1
          obtain ⟨vs, hv, rv⟩ := R1.obj a q _ hq e
          exact ⟨q, rfl, ⟨vs, hv.sq⟩, h2 ι1 H1 _ p1 R1 (itl_ok hq (.inr rfl))⟩
        | tup xs =>
          refine .inr (k ι M H σ τ _ R S ?_)
          rw [em]
          intro ι1 H1 u p1 R1 r1
          obtain ⟨q, hq, rfl⟩ := r1
          obtain ⟨vs, hv, rv⟩ := R1.obj a q _ hq e
          exact ⟨q, rfl, ⟨vs, SqT.of hv⟩, h2 ι1 H1 _ p1 R1 (itt_ok hq)⟩
    | _ => exact (h : False).elim
  | ex _ _ => rw [em] at h; exact (h : False).elim
  | bad => rw [em] at h; exact (h : False).elim
theorem si_rng1 {e : Expr} {m : VM.EM} {p pos : Pos} (hm : X.mg "range" = none) (he : SE X e m) (hg : Gl X "range" := by rfl) (hs : starEach [e] X.env = [(false, eval e X.env)] := by rfl) : SI X tg (.Call (.Name "range" p) [e] [] pos) (VM.iRng1 m) := by
  obtain ⟨t, pe, k⟩ := he
  refine ⟨_, pi_range1 hg hm (pa_cons pe pa_nil hs) hs, fun ι M H σ τ Q R S h => ?_⟩
  refine k ι M H σ τ _ R S (Post.seq h fun ι1 H1 x M1 u p1 R1 r1 h1 => ?_)
  cases x with
  | int j =>
    cases r1
    have h2 : Post (rI X.K) X.K ι1 (if j.natAbs < VM.two62 then .ok (VM.rng 0 j.toNat, []) M1 else .bad) Q := h1
    by_cases hc : j.natAbs < VM.two62
    · rw [if_pos hc] at h2
      exact ⟨j, rfl, by unfold VM.two62 at hc; omega, by unfold VM.two62 at hc; omega, Post.ok h2 R1 (itr_ok 0 j.toNat)⟩
    · rw [if_neg hc] at h2; exact (h2 : False).elim
  | _ => exact (h1 : False).elim
theorem si_rng2 {e f : Expr} {m n : VM.EM} {p pos : Pos} (hm : X.mg "range" = none) (he : SE X e m) (hf : SE X f n) (hg : Gl X "range" := by rfl) (hs : starEach [e, f] X.env = [(false, eval e X.env), (false, eval f X.env)] := by rfl) (hs2 : starEach [f] X.env = [(false, eval f X.env)] := by rfl) : SI X tg (.Call (.Name "range" p) [e, f] [] pos) (VM.iRng2 m n) := by
  obtain ⟨t, pe, k⟩ := he
  obtain ⟨u, pf, l⟩ := hf
  refine ⟨_, pi_range2 hg hm (pa_cons pe (pa_cons pf pa_nil hs2) (hs.trans (by rw [hs2]))) hs hs2, fun ι M H σ τ Q R S h => ?_⟩
  refine k ι M H σ τ _ R S (Post.seq h fun ι1 H1 x M1 u p1 R1 r1 h1 => ?_)
  refine l ι1 M1 H1 σ τ _ R1 (S.mono p1) (Post.seq h1 fun ι2 H2 y M2 v p2 R2 r2 h2 => ?_)
  have rx := r1.mono p2
  cases x with
  | int i =>
    cases y with
    | int j =>
      cases rx
      cases r2
      have h3 : Post (rI X.K) X.K ι2 (if i.natAbs < VM.two62 ∧ j.natAbs < VM.two62 then .ok (VM.rng i (j - i).toNat, []) M2 else .bad) Q := h2
      by_cases hc : i.natAbs < VM.two62 ∧ j.natAbs < VM.two62
      · rw [if_pos hc] at h3
        exact ⟨i, j, rfl, by unfold VM.two62 at hc; omega, Post.ok h3 R2 (itr_ok i (j - i).toNat)⟩
      · rw [if_neg hc] at h3; exact (h3 : False).elim
    | _ => exact (h2 : False).elim
  | _ => cases y <;> exact (h2 : False).elim
/-! ### for -/
theorem ss_for {iter : Expr} {body : List Stmt} {mi : VM.IM} {g : VM.GM} {m : VM.SM} {pos} (hp : PassesOwn (model X.prog X.w) X.A X.env X.xe) (hc : X.calm = true) (hi : SI X tg iter mi) (hg : SG X tg g) (hb : SSs X body m)
    (hs : ∀ x, foldedSetIterable iter X.env x = pure x := by intro _; rfl) : SS X (.For tg iter body [] pos) (VM.sFor mi g m) := by
  obtain ⟨wi, pi, ki⟩ := hi
  obtain ⟨tgt, pg, kg⟩ := hg
  obtain ⟨tb, pb, kb⟩ := hb
  refine ⟨_, ps_for hp hc pi pg pb hs, fun ι M H σ τ D R S h => ?_⟩
  refine ki ι M H σ τ _ R S (PostS.seq h fun ι1 H1 pr M1 J p1 R1 J1 h1 => ?_)
  obtain ⟨srcs, chk⟩ := pr
  have J1 : ItOk X.K ι1 J srcs chk := J1
  have h1 : PostS X.K ι1 (VM.loop chk g m srcs σ M1) D := h1
  refine ⟨fun i k τ H => i ≤ srcs.length ∧ k = srcs.length - i ∧ ∃ ι' M σ, ι1 <+: ι' ∧ Rel X.K ι' M H ∧ RSt ι' σ τ ∧ PostS X.K ι' (VM.loop chk g m (srcs.drop i) σ M) D,
    ⟨srcs.length, Nat.zero_le _, rfl, ι1, M1, σ, pre_refl, R1, S.mono p1, h1⟩, ?_⟩
  rintro i k τ H ⟨hi, rfl, ι', M, σ, q, R, S, h⟩
  by_cases hlt : i < srcs.length
  · have ex : srcs[i]? = some srcs[i] := by simp [hlt]
    rw [List.drop_eq_getElem_cons hlt] at h
    have h' : PostS X.K ι' (if chk.ok M = true then
      (srcs[i].get M).bindS fun v M1 => (g v σ M1).bindS fun σ1 M2 => match m σ1 M2 with
        | .nx σ2 M3 => VM.loop chk g m (srcs.drop (i + 1)) σ2 M3
        | .ct σ2 M3 => VM.loop chk g m (srcs.drop (i + 1)) σ2 M3
        | .bk σ2 M3 => .nx σ2 M3
        | .rt v M3 => .rt v M3
        | .ex v M3 => .ex v M3
        | .bad => .bad
      else .bad) D := h
    by_cases hck : chk.ok M = true
    · rw [if_pos hck] at h'
      refine .inr ⟨J1.go i ι' M H _ q R hck ex, fun τ' H' => ∃ ι2 M σ, ι1 <+: ι2 ∧ Rel X.K ι2 M H' ∧ RSt ι2 σ τ' ∧ PostS X.K ι2 (VM.loop chk g m (srcs.drop (i + 1)) σ M) D, fun τ' H' z => ⟨srcs.length - (i + 1), by omega, hlt, rfl, z⟩, fun v H' y => ?_⟩
      obtain ⟨ι2, w, M2, q2, eg, R2, rv⟩ := J1.yld i ι' M H _ v H' q R hck ex y
      rw [eg] at h'
      have h2 : PostS X.K ι2 ((g w σ M2).bindS fun σ1 M2 => match m σ1 M2 with
        | .nx σ2 M3 => VM.loop chk g m (srcs.drop (i + 1)) σ2 M3
        | .ct σ2 M3 => VM.loop chk g m (srcs.drop (i + 1)) σ2 M3
        | .bk σ2 M3 => .nx σ2 M3
        | .rt v M3 => .rt v M3
        | .ex v M3 => .ex v M3
        | .bad => .bad) D := PostS.mono q2 h'
      refine kg ι2 M2 H' σ τ w v _ R2 (S.mono q2) rv (PostS.seq h2 fun ι3 H3 σ3 M3 τ3 q3 R3 S3 h3 => ?_)
      refine kb ι3 M3 H3 σ3 τ3 _ R3 S3 ?_
      have q13 : ι1 <+: ι3 := List.IsPrefix.trans q (List.IsPrefix.trans q2 q3)
      cases e : m σ3 M3 with
      | nx σ4 M4 =>
        rw [e] at h3
        have h3' : PostS X.K ι3 (VM.loop chk g m (srcs.drop (i + 1)) σ4 M4) D := h3
        exact fun ι4 H4 τ4 q4 R4 S4 => ⟨ι4, M4, σ4, List.IsPrefix.trans q13 q4, R4, S4, PostS.mono q4 h3'⟩
      | ct σ4 M4 =>
        rw [e] at h3
        have h3' : PostS X.K ι3 (VM.loop chk g m (srcs.drop (i + 1)) σ4 M4) D := h3
        exact fun ι4 H4 τ4 q4 R4 S4 => ⟨ι4, M4, σ4, List.IsPrefix.trans q13 q4, R4, S4, PostS.mono q4 h3'⟩
      | bk σ4 M4 => rw [e] at h3; exact h3
      | rt v M4 => rw [e] at h3; exact h3
      | ex v M4 => rw [e] at h3; exact h3
      | bad => rw [e] at h3; exact h3
    · rw [if_neg hck] at h'; exact (h' : False).elim
  · have hz : i = srcs.length := by omega
    subst hz
    rw [List.drop_length] at h
    have h' : PostS X.K ι' (if chk.ok M = true then .nx σ M else .bad) D := h
    by_cases hck : chk.ok M = true
    · rw [if_pos hck] at h'
      exact .inl ⟨J1.stop _ ι' M H q R hck (Nat.le_refl _), h' ι' H τ pre_refl R S⟩
    · rw [if_neg hck] at h'; exact (h' : False).elim
end
end SV
end
section
set_option Elab.async false
set_option linter.all false
set_option autoImplicit false
set_option maxRecDepth 100000
set_option maxHeartbeats 4000000
namespace SV
open PySem PySem.Spec PyProof.Rows L2
/-! ### comprehensions -/
/-- the loop, whatever its target -/
theorem compLoop_any {prog : Program} {w : World} {A : Around} {R : Result → Shared → Prop} {s : Shared} {elt target iter : Expr} {ifs : List Expr} {scope : Scope} {pos : Pos} {it acc : Value} {env : Env} (I : Nat → Shared → Prop)
    (turn : ∀ n s, I n s → wpAny (model prog w) A (pyNext it) (fun r s₁ => match r with
      | none => R (.ok .next) s₁
      | some v => wpAny (model prog w) A (letOwnedTupleGo target it v) (fun _ s₁' => wpAny (model prog w) A (assign target env v) (fun _ s₂ =>
          wpAny (model prog w) A (forIn ifs true fun c r => if r = true then do let ok ← isTrue c env (eval c env); pure (ForInStep.yield ok) else pure (ForInStep.yield r)) (fun ok s₃ =>
            if ok = true then wpAny (model prog w) A (eval elt env) (fun x s₄ =>
              wpAny (model prog w) A (call (.builtin "list.append") [acc, x]) (fun _ s₅ => ∃ m, m < n ∧ I m s₅) (notedBy (model prog w) A env fun e s' => R (.error e) s') s₄) (notedBy (model prog w) A env fun e s' => R (.error e) s') s₃
            else ∃ m, m < n ∧ I m s₃) (notedBy (model prog w) A env fun e s' => R (.error e) s') s₂) (notedBy (model prog w) A env fun e s' => R (.error e) s') s₁') (notedBy (model prog w) A env fun e s' => R (.error e) s') s₁) (notedBy (model prog w) A env fun e s' => R (.error e) s') s)
    (n : Nat) (h : I n s) :
    codeAny (model prog w) A (.compLoop (.ListComp elt [⟨target, iter, ifs, 0⟩] scope pos) 0 it acc env) R s := by
  refine codeAny_loop rfl I (fun n s hI => ?_) n h
  show wpAny _ A ((compTurn (.ListComp elt [⟨target, iter, ifs, 0⟩] scope pos) 0 it acc env).onRaise (fun x => do noteFrame x env; theTreesLotGoes x)) _ _ s
  refine wpAny_noted ?_
  rw [compTurn_list]
  refine wpAny_bind (wpAny_standAt (wpAny_bind (wpAny_mono (turn n s hI) (fun r s₁ h₁ => ?_) fun _ _ h' => h')))
  cases r with
  | none => exact wpAny_pure h₁
  | some v =>
    refine wpAny_bind (wpAny_mono h₁ (fun _ s₁' h₁' => ?_) fun _ _ h' => h')
    refine wpAny_bind (wpAny_mono h₁' (fun _ s₂ h₂ => wpAny_bind (wpAny_mono h₂ (fun ok s₃ h₃ => ?_) fun _ _ h' => h')) fun _ _ h' => h')
    cases ok with
    | false => exact wpAny_pure ⟨rfl, h₃⟩
    | true =>
      exact wpAny_bind (wpAny_bind (wpAny_mono h₃ (fun x s₄ h₄ => wpAny_bind (wpAny_mono h₄ (fun _ s₅ h₅ => wpAny_pure (wpAny_pure ⟨rfl, h₅⟩)) fun _ _ h' => h')) fun _ _ h' => h'))
/-- the tests of a comprehension: none, or one -/
def tIfs (ifs : List Expr) (env : Env) : Sem Bool := forIn ifs true fun c r => if r = true then do let ok ← isTrue c env (eval c env); pure (ForInStep.yield ok) else pure (ForInStep.yield r)
def SIfs (X : Cx) (ifs : List Expr) (m : VM.TM) : Prop := ∃ te : TT, (∀ (pins : List (Addr × Obj)) (s : Shared) (σ : L2.St) (H : Hp) (Q : Bool → Hp → Prop), Inv X pins σ H s → te σ H Q → wpAny (model X.prog X.w) X.A (tIfs ifs X.env) (TP X pins σ Q) X.xe s) ∧
  ∀ ι M H σ τ Q, Rel X.K ι M H → RSt ι σ τ → Post rB X.K ι (m σ M) Q → te τ H Q
theorem sifs_nil {X : Cx} : SIfs X [] VM.tTrue := by
  refine ⟨fun _ H Q => Q true H, fun pins s σ H Q I h => ?_, fun ι M H σ τ Q R S h => Post.ok (b := true) h R rfl⟩
  exact wpAny_pure ⟨H, I, h⟩
theorem sifs_one {X : Cx} {c : Expr} {m : VM.TM} (h : STt X c m) : SIfs X [c] m := by
  obtain ⟨t, p, k⟩ := h
  exact ⟨t, fun pins s σ H Q I h => wpAny_tests_one (p pins s σ H Q I h), k⟩
/-- the context of a comprehension's block: its names N; s₂, H₂: where it begins; fp: the iterator's records -/
def cxB (X : Cx) (N : List Str) (scope : Scope) (cl : List (Str × Addr)) (C : Addr) (s₂ : Shared) (H₂ : Hp) (fp : List Addr) : Cx :=
  { X with N := N, s₀ := s₂, H₀ := H₂, env := compEnvC scope cl C X.env, outer := X.stack, stack := X.stack, ex := fp, fn := fun _ => false, pn := [], xe := fun _ _ => False }
/-- the cells that the block sees -/
def clOf (cells : List (Str × Addr)) : List (Str × NameKind) → List (Str × Addr) → List (Str × Addr)
  | [], acc => acc
  | (n, k) :: r, acc => if k == .free then (match cells.lookup n with | some c => clOf cells r ((n, c) :: acc) | none => clOf cells r acc) else clOf cells r acc
/-- every free name of the block has a cell -/
def freeOk (env : Env) : List (Str × NameKind) → Bool
  | [] => true
  | (n, k) :: r => (!(k == .free) || ((env.cells.lookup n).isSome && (env.kindOf n == some .cell || env.kindOf n == some .free))) && freeOk env r
theorem clOf_cons (cells : List (Str × Addr)) (n : Str) (k : NameKind) (r : List (Str × NameKind)) (acc : List (Str × Addr)) : clOf cells ((n, k) :: r) acc = if k == .free then (match cells.lookup n with | some c => clOf cells r ((n, c) :: acc) | none => clOf cells r acc) else clOf cells r acc := rfl
theorem closure_of {env : Env} : ∀ (names : List (Str × NameKind)) (acc : List (Str × Addr)), freeOk env names = true →
    (forIn (m := Sem) names acc fun (x : Str × NameKind) (cs : List (Str × Addr)) => if x.2 == .free then do let a ← cellOf env x.1; pure (ForInStep.yield ((x.1, a) :: cs)) else pure (ForInStep.yield cs)) = pure (clOf env.cells names acc)
  | [], acc, _ => by simp [clOf]
  | (n, k) :: r, acc, h => by
    unfold freeOk at h
    rw [Bool.and_eq_true] at h
    rw [List.forIn_cons]
    by_cases hk : (k == NameKind.free) = true
    · have hc := h.1
      rw [hk] at hc
      simp only [Bool.not_true, Bool.false_or, Bool.and_eq_true] at hc
      cases e : env.cells.lookup n with
      | none => rw [e] at hc; exact absurd hc.1 (by simp)
      | some c =>
        have ih := closure_of r ((n, c) :: acc) h.2
        simp only [hk, if_true]
        have ec : cellOf env n = pure c := by unfold cellOf; rw [e]
        rw [ec]
        show (forIn (m := Sem) r ((n, c) :: acc) _) = _
        rw [ih]
        rw [clOf_cons, if_pos hk, e]
    · have ih := closure_of r acc h.2
      have hk' : (k == NameKind.free) = false := by simpa using hk
      simp only [hk', Bool.false_eq_true, if_false]
      show (forIn (m := Sem) r acc _) = _
      rw [ih]
      rw [clOf_cons, if_neg hk]
theorem closureFor_of {scope : Scope} {env : Env} (h : freeOk env scope.names = true) : closureFor scope env = pure (clOf env.cells scope.names []) := by
  unfold closureFor
  have e := closure_of (env := env) scope.names [] h
  simp only [bind_pure]
  exact e
theorem clOf_sub {cells : List (Str × Addr)} : ∀ (names : List (Str × NameKind)) (acc : List (Str × Addr)) {x : Str} {c : Addr}, (∀ y d, (y, d) ∈ acc → cells.lookup y = some d) → (x, c) ∈ clOf cells names acc → cells.lookup x = some c
  | [], acc, x, c, h, e => h x c e
  | (n, k) :: r, acc, x, c, h, e => by
    unfold clOf at e
    by_cases hk : (k == NameKind.free) = true
    · rw [if_pos hk] at e
      cases q : cells.lookup n with
      | none => rw [q] at e; exact clOf_sub r acc h e
      | some d =>
        rw [q] at e
        refine clOf_sub r ((n, d) :: acc) (fun y d' hy => ?_) e
        rcases List.mem_cons.mp hy with z | z
        · cases z; exact q
        · exact h y d' z
    · rw [if_neg hk] at e; exact clOf_sub r acc h e
theorem clOf_keeps {cells : List (Str × Addr)} : ∀ (names : List (Str × NameKind)) (acc : List (Str × Addr)) {p : Str × Addr}, p ∈ acc → p ∈ clOf cells names acc
  | [], acc, p, h => h
  | (n, k) :: r, acc, p, h => by
    unfold clOf
    split
    · split
      · exact clOf_keeps r _ (List.mem_cons_of_mem _ h)
      · exact clOf_keeps r _ h
    · exact clOf_keeps r _ h
theorem clOf_has {cells : List (Str × Addr)} : ∀ (names : List (Str × NameKind)) (acc : List (Str × Addr)) {x : Str} {c : Addr}, (x, NameKind.free) ∈ names → cells.lookup x = some c → (x, c) ∈ clOf cells names acc
  | [], acc, x, c, h, e => by simp at h
  | (n, k) :: r, acc, x, c, h, e => by
    unfold clOf
    rcases List.mem_cons.mp h with z | z
    · cases z
      rw [if_pos (by rfl), e]
      exact clOf_keeps r _ List.mem_cons_self
    · split
      · split
        · exact clOf_has r _ z e
        · exact clOf_has r _ z e
      · exact clOf_has r _ z e
theorem lookup_some_of_mem {α : Type} : ∀ {l : List (Str × α)} {x : Str} {c : α}, (x, c) ∈ l → ∃ d, l.lookup x = some d
  | [], x, c, h => by simp at h
  | (n, d) :: r, x, c, h => by
    rw [List.lookup_cons]
    cases hx : x == n with
    | true => exact ⟨d, rfl⟩
    | false =>
      rcases List.mem_cons.mp h with z | z
      · cases z; simp at hx
      · exact lookup_some_of_mem z

theorem relabel_free {env : Env} : ∀ {names : List (Str × NameKind)} {x : Str} {k : NameKind}, (∀ y ∈ names, y.2 ≠ .cell) →
    (names.map fun (n, k) => if (k == NameKind.free && env.scope.kind == .function && env.kindOf n == some .cell) then (n, NameKind.cell) else (n, k)).lookup x = some k → k = .cell ∨ k = .free → (x, NameKind.free) ∈ names
  | [], x, k, _, h, _ => by simp at h
  | (n, k0) :: r, x, k, hc, h, hk => by
    have ih := @relabel_free env r x k (fun y hy => hc y (List.mem_cons_of_mem _ hy))
    rw [List.map_cons] at h
    by_cases hb : (k0 == NameKind.free && env.scope.kind == .function && env.kindOf n == some .cell) = true
    · have e0 : k0 = .free := by
        rw [Bool.and_eq_true, Bool.and_eq_true] at hb
        exact beq_iff_eq.mp hb.1.1
      subst e0
      have e1 : (match ((n, NameKind.free) : Str × NameKind) with | (n, k) => if (k == NameKind.free && env.scope.kind == .function && env.kindOf n == some .cell) then (n, NameKind.cell) else (n, k)) = (n, NameKind.cell) := if_pos hb
      rw [e1, List.lookup_cons] at h
      cases hx : x == n with
      | true => rw [beq_iff_eq.mp hx]; exact List.mem_cons_self
      | false => rw [hx] at h; exact List.mem_cons_of_mem _ (ih h hk)
    · have e1 : (match ((n, k0) : Str × NameKind) with | (n, k) => if (k == NameKind.free && env.scope.kind == .function && env.kindOf n == some .cell) then (n, NameKind.cell) else (n, k)) = (n, k0) := if_neg hb
      rw [e1, List.lookup_cons] at h
      cases hx : x == n with
      | true =>
        rw [hx] at h
        have e2 : k0 = k := Option.some.inj h
        subst e2
        rcases hk with z | z
        · exact absurd z (hc (n, k0) List.mem_cons_self)
        · subst z; rw [beq_iff_eq.mp hx]; exact List.mem_cons_self
      | false => rw [hx] at h; exact List.mem_cons_of_mem _ (ih h hk)
theorem freeOk_mem {env : Env} : ∀ {names : List (Str × NameKind)} {x : Str}, freeOk env names = true → (x, NameKind.free) ∈ names → (∃ c, env.cells.lookup x = some c) ∧ (env.kindOf x = some .cell ∨ env.kindOf x = some .free)
  | [], x, _, h => by simp at h
  | (n, k) :: r, x, h, hm => by
    unfold freeOk at h
    rw [Bool.and_eq_true] at h
    rcases List.mem_cons.mp hm with z | z
    · cases z
      have h1 := h.1
      simp only [beq_self_eq_true, Bool.not_true, Bool.false_or, Bool.and_eq_true, Bool.or_eq_true] at h1
      obtain ⟨a, b⟩ := h1
      refine ⟨Option.isSome_iff_exists.mp a, ?_⟩
      rcases b with b | b
      · exact .inl (beq_iff_eq.mp b)
      · exact .inr (beq_iff_eq.mp b)
    · exact freeOk_mem h.2 z
/-! the slots of the block -/
def clrV (cl : List Nat) (τ : L2.St) : L2.St := cl.foldl (fun τ j => τ.set j none) τ
theorem clr_rst {ι : List Addr} : ∀ (cl : List Nat) {σ : VM.St} {τ : L2.St}, RSt ι σ τ → RSt ι (VM.clr cl σ) (clrV cl τ)
  | [], _, _, h => h
  | j :: r, _, _, h => clr_rst r (Paired.setP (F := RO1 ι) (x := none) (y := none) trivial j h)
theorem clrV_len : ∀ (cl : List Nat) (τ : L2.St), (clrV cl τ).length = τ.length
  | [], _ => rfl
  | j :: r, τ => by
    show (clrV r (τ.set j none)).length = _
    rw [clrV_len r, List.length_set]
theorem clrV_get : ∀ (cl : List Nat) (τ : L2.St) {i : Nat} {v : V}, (clrV cl τ)[i]? = some (some v) → i ∉ cl ∧ τ[i]? = some (some v)
  | [], _, i, v, h => ⟨by simp, h⟩
  | j :: r, τ, i, v, h => by
    obtain ⟨h1, h2⟩ := clrV_get r (τ.set j none) h
    by_cases hj : i = j
    · subst hj
      by_cases hl : i < τ.length
      · rw [List.getElem?_set_self hl] at h2; cases h2
      · rw [List.getElem?_eq_none (by rw [List.length_set]; omega)] at h2; cases h2
    · rw [List.getElem?_set_ne (Ne.symm hj)] at h2
      exact ⟨by simp [h1, hj], h2⟩
theorem rep_rst {ι : List Addr} : ∀ k : Nat, RSt ι (List.replicate k none) (List.replicate k none)
  | 0 => .nil
  | k + 1 => .cons trivial (rep_rst k)
/-- what the block's names must be: those of X, then others; its own are hidden or new -/
structure Blk (X : Cx) (N : List Str) (k : Nat) (cl : List Nat) (scope : Scope) : Prop where
  len : N.length = X.N.length + k
  pre : ∀ i, i < X.N.length → N[i]? = X.N[i]?
  free : freeOk X.env scope.names = true
  cell : ∀ y ∈ scope.names, y.2 ≠ .cell
  kind : scope.kind = .function
  names : ∀ y ∈ scope.names, y.2 = .local → scope.names.lookup y.1 = some .local
  own : ∀ i x, N[i]? = some x → (relabel scope X.env).names.lookup x = some .local → i ∈ cl ∨ X.N.length ≤ i
/-- the block begins -/
theorem blk_start {X : Cx} {N : List Str} {k : Nat} {cl : List Nat} {scope : Scope} {pins : List (Addr × Obj)} {τ : L2.St} {H : Hp} {s s4 : Shared} {fp : List Addr} {C D : Addr} {oD : Obj} {mC : Str → Option Value} (B : Blk X N k cl scope)
    (I : Inv X pins τ H s) (hfp : ∀ b ∈ fp, FpOk X pins H b) (hfo : ∀ b ∈ fp, b < s.heap.objs.size) (old : ∀ b o, s.heap.get? b = some o → s4.heap.get? b = some o) (hos : s4.os = s.os) (hbare : AllBare s4.gens)
    (hC : s.heap.objs.size ≤ C) (hD : s.heap.objs.size ≤ D) (hDC : D ≠ C) (hn : s4.heap.Ns C mC) (hDo : s4.heap.get? D = some oD) (hDd : ∀ v, oD.data ≠ .cell v) :
    Inv (cxB X N scope (clOf X.env.cells scope.names []) C s H fp) [(D, oD)] (clrV cl (τ ++ List.replicate k none)) H s4 := by
  have sub : ∀ x c, (clOf X.env.cells scope.names []).lookup x = some c → X.env.cells.lookup x = some c := fun x c e => clOf_sub scope.names [] (fun y d hy => by simp at hy) (PySem.mem_of_lookup e)
  have hfr : ∀ x kk, (relabel scope X.env).names.lookup x = some kk → kk = .cell ∨ kk = .free → (x, NameKind.free) ∈ scope.names := fun x kk h hk => relabel_free B.cell h hk
  have stkb : ∀ b ∈ frs X.stack, b < s.heap.objs.size := fun b hb => by
    obtain ⟨_, o, ho, _⟩ := I.stack.mem hb
    exact Heap.lt_size ho
  refine ⟨⟨I.ok.mod, B.kind, I.ok.glob, I.ok.blt, hC, fun x y c h1 h2 => I.ok.inj x y c (sub x c h1) (sub y c h2), fun x hx => ?_, fun x c h _ => absurd (show false = true from h) (by decide), I.ok.hd, I.ok.frames, .inl rfl, fun b hb => ⟨?_, fun x c h => ?_⟩, I.bs, Nat.le_trans I.ok.bsz I.sz, fun b o e hb => ?_, fun b hb hb2 => ?_, I.stack, I.stkFree⟩,
    hos, hbare, Un.kept old, ⟨mC, hn, fun i x v h1 h2 h3 => ?_⟩, fun x c h => ?_, I.hok.fresh hC, fun x c h => I.freeC x c (sub x c h), fun p hp => ?_, I.hok.kept old, ?_⟩
  · have hx' : (relabel scope X.env).names.lookup x = some .cell ∨ (relabel scope X.env).names.lookup x = some .free := hx
    have hm : (x, NameKind.free) ∈ scope.names := by
      rcases hx' with z | z
      · exact hfr x _ z (.inl rfl)
      · exact hfr x _ z (.inr rfl)
    obtain ⟨⟨c, hc⟩, _⟩ := freeOk_mem B.free hm
    exact lookup_some_of_mem (clOf_has scope.names [] hm hc)
  · exact Nat.ne_of_lt (Nat.lt_of_lt_of_le (hfo b hb) hC)
  · exact (hfp b hb).2.2.2.2.1 x c (sub x c h)
  · rcases (hfp b hb).2.2.2.1 with z | z
    · exact I.ok.noex b o e z
    · exact absurd (Nat.lt_of_lt_of_le (Heap.lt_size (I.ok.bs b o e).1) z) (Nat.lt_irrefl _)
  · rcases List.mem_cons.mp (I.stkSub b hb2) with z | z
    · exact (hfp b hb).2.1 z
    · exact (hfp b hb).2.2.1 z
  · obtain ⟨hncl, h2⟩ := clrV_get cl _ h2
    have hi : i < τ.length := by
      by_cases hi : i < τ.length
      · exact hi
      · rw [List.getElem?_append_right (Nat.le_of_not_lt hi), List.getElem?_replicate] at h2
        split at h2 <;> cases h2
    rw [List.getElem?_append_left hi] at h2
    have hiN : i < X.N.length := by rw [← I.len]; exact hi
    have h1' : X.N[i]? = some x := by rw [← B.pre i hiN]; exact h1
    have h3' : (relabel scope X.env).names.lookup x = some .local ∨ (relabel scope X.env).names.lookup x = some .cell ∨ (relabel scope X.env).names.lookup x = some .free := h3
    have hkk : ∃ kk, (relabel scope X.env).names.lookup x = some kk ∧ (kk = .cell ∨ kk = .free) := by
      rcases h3' with z | z | z
      · rcases B.own i x h1 z with q | q
        · exact absurd q hncl
        · omega
      · exact ⟨_, z, .inl rfl⟩
      · exact ⟨_, z, .inr rfl⟩
    obtain ⟨kk, hk1, hk2⟩ := hkk
    have hm := hfr x kk hk1 hk2
    obtain ⟨⟨c, hc⟩, hkind⟩ := freeOk_mem B.free hm
    obtain ⟨m, _, hl⟩ := I.loc
    obtain ⟨u, ru, lk⟩ := hl i x v h1' h2 (by rcases hkind with z | z; exact .inr (.inl z); exact .inr (.inr z))
    refine ⟨u, ru, .inr ⟨by rcases hk2 with z | z <;> subst z; exact .inl hk1; exact .inr hk1, ?_⟩⟩
    obtain ⟨d, hd⟩ := lookup_some_of_mem (clOf_has scope.names [] hm hc)
    have ed := sub x d hd
    rcases lk with ⟨q, _⟩ | ⟨_, c', hc', hcell⟩
    · rcases hkind with z | z
      · rw [z] at q; cases q
      · rw [z] at q; cases q
    · rw [hc'] at ed; cases ed
      refine ⟨d, hd, ?_⟩
      obtain ⟨o, ho, hod⟩ := hcell
      exact ⟨o, old _ o ho, hod⟩
  · obtain ⟨v, o, ho, hod⟩ := I.cell x c (sub x c h)
    exact ⟨v, o, old _ o ho, hod⟩
  · have hp' : p ∈ ([] : List (Addr × Obj)) ++ [(D, oD)] := hp
    have e : p = (D, oD) := by simpa using hp'
    subst e
    refine ⟨hDo, I.hok.fresh hD, hDC, fun hb => ?_, hDd⟩
    exact absurd (Nat.lt_of_lt_of_le (stkb D hb) hD) (Nat.lt_irrefl _)
  · show (clrV cl (τ ++ List.replicate k none)).length = N.length
    rw [clrV_len, List.length_append, List.length_replicate, I.len, B.len]

/-- the block ends: the list at D is a tracked one from now on -/
theorem blk_end {X : Cx} {N : List Str} {scope : Scope} {cells : List (Str × Addr)} {pins pinsB : List (Addr × Obj)} {τ τc : L2.St} {H2 H : Hp} {s2 s' : Shared} {fp : List Addr} {C D : Addr} {oC : Obj} {its : List Value} {vs : List V} {n : Nat}
    (I2 : Inv X pins τ H2 s2) (hfp : ∀ b ∈ fp, FpOk X pins H2 b) (Ic : Inv (cxB X N scope cells C s2 H2 fp) pinsB τc H s') (hC : s2.heap.objs.size ≤ C) (hD : s2.heap.objs.size ≤ D) (hDC : D ≠ C) (hDn : H D = none)
    (hDo : s'.heap.get? D = some { cls := .type "list", data := .seq its.toArray n }) (r : Vals vs its) (hz : vs.length ≤ sizeLine) (hCo : s'.heap.get? C = some oC) (hCd : ∀ v, oC.data ≠ .cell v) :
    Inv X (pins ++ [(C, oC)]) τ (upd H D (.lst vs)) s' := by
  have neD : ∀ {b : Addr} {u : HO}, H b = some u → b ≠ D := fun e => ne_of_none e hDn
  have u0 : Un (frs X.stack) fp H2 H s2.heap s'.heap := Ic.base
  have hCn : H C = none := Ic.free
  have u : Un (frs X.stack) fp H2 (upd H D (.lst vs)) s2.heap s'.heap := ⟨u0.keep, u0.slot, fun b o e n' hx => by rw [upd_ne (Nat.ne_of_lt (Nat.lt_of_lt_of_le (Heap.lt_size e) hD))]; exact u0.free b o e n' hx, u0.there,
    fun b xs e => by have e' := u0.tups b xs e; rw [upd_ne (neD e')]; exact e', fun b o w e => by have e' := u0.frzs b o w e; rw [upd_ne (neD e')]; exact e', fun b ps e => by obtain ⟨m, e'⟩ := u0.tbls b ps e; exact ⟨m, by rw [upd_ne (neD e')]; exact e'⟩⟩
  have hok : HOk X.prog X.w (upd H D (.lst vs)) s'.heap := fun a o e => by
    by_cases ha : a = D
    · subst ha
      rw [upd_same] at e
      cases e
      exact ⟨hz, its, n, r, hDo⟩
    · rw [upd_ne ha] at e
      exact (Ic.hok a o e).stay (fun b w _ q => q) (fun b q => by rw [upd_ne (neD q)]; exact q) fun b xs q => by rw [upd_ne (neD q)]; exact q
  have I' : Inv X pins τ (upd H D (.lst vs)) s' := I2.call' (ch := fp) Ic.os u hok Ic.bare fun b hb => ⟨(hfp b hb).2.2.2.1, (hfp b hb).2.1, (hfp b hb).2.2.2.2.1, (hfp b hb).2.2.2.2.2⟩
  refine I'.pins_of fun p hp => ?_
  rcases List.mem_append.mp hp with z | z
  · exact I'.pin p (List.mem_append_right _ z)
  · have e : p = (C, oC) := by simpa using z
    subst e
    exact ⟨hCo, by rw [upd_ne (Ne.symm hDC)]; exact hCn, Nat.ne_of_gt (Nat.lt_of_lt_of_le I2.lt hC), I2.nofs hC, hCd⟩
/-- the block's own dict goes -/
theorem blk_drop {X : Cx} {pins : List (Addr × Obj)} {τ τ' : L2.St} {H2 H : Hp} {s2 s' : Shared} {C : Addr} {oC : Obj} {h' : Heap} (I2 : Inv X pins τ H2 s2) (hC : s2.heap.objs.size ≤ C) (I : Inv X (pins ++ [(C, oC)]) τ' H s') (hs : Heap.SameBut C s'.heap h') : Inv X pins τ' H { s' with heap := h' } := by
  obtain ⟨_, e2, e3, _, _⟩ := I.pin (C, oC) (List.mem_append_right _ (List.mem_append_right _ (by simp)))
  refine Inv.turned (t' := s'.toks) (it := C) I.unpinned (fun b o hb e => hs.extBut b o hb e) e2 e3 (.inr (Nat.le_trans I2.sz hC)) (fun x c e z => ?_) fun p hp z => ?_
  · obtain ⟨v, q⟩ := I2.cell x c e
    exact absurd (Nat.lt_of_lt_of_le q.lt (by rw [z]; exact hC)) (Nat.lt_irrefl _)
  · exact absurd (Nat.lt_of_lt_of_le (Heap.lt_size (I2.pin p hp).1) (by rw [z]; exact hC)) (Nat.lt_irrefl _)
theorem bind_assoc {α β γ : Type} (r : VM.R α) (f : α → VM.Mem → VM.R β) (h : β → VM.Mem → VM.R γ) : (r.bind f).bind h = r.bind fun a M => (f a M).bind h := by
  cases r <;> rfl
theorem comp_cons (chk : VM.Chk) (g : VM.GM) (t : VM.TM) (m : VM.EM) (x : VM.Src) (r : List VM.Src) (σ : VM.St) (M : VM.Mem) (ws : List VM.W) (h : chk.ok M = true) :
    (VM.comp chk g t m (x :: r) σ M ws).bind VM.newL = (x.get M).bind fun v M1 => (g v σ M1).bind fun σ1 M2 => (t σ1 M2).bind fun b M3 =>
      if b then (m σ1 M3).bind fun y M4 => (VM.comp chk g t m r σ1 M4 (ws ++ [y])).bind VM.newL else (VM.comp chk g t m r σ1 M3 ws).bind VM.newL := by
  rw [VM.comp, if_pos h, bind_assoc]
  congr 1; funext v M1
  rw [bind_assoc]
  congr 1; funext σ1 M2
  rw [bind_assoc]
  congr 1; funext b M3
  cases b
  · rfl
  · exact bind_assoc _ _ _
theorem comp_len {chk : VM.Chk} {g : VM.GM} {t : VM.TM} {m : VM.EM} : ∀ {srcs : List VM.Src} {σ : VM.St} {M : VM.Mem} {ws r : List VM.W} {M' : VM.Mem}, VM.comp chk g t m srcs σ M ws = .ok r M' → ws.length ≤ r.length
  | [], σ, M, ws, r, M', h => by
    rw [VM.comp] at h
    split at h
    · cases h; exact Nat.le_refl _
    · cases h
  | x :: rest, σ, M, ws, r, M', h => by
    rw [VM.comp] at h
    split at h
    · cases e1 : x.get M with
      | ok v M1 =>
        rw [e1] at h
        cases e2 : g v σ M1 with
        | ok σ1 M2 =>
          simp only [VM.R.bind, e2] at h
          cases e3 : t σ1 M2 with
          | ok b M3 =>
            simp only [e3] at h
            cases b with
            | true =>
              simp only [if_true] at h
              cases e4 : m σ1 M3 with
              | ok y M4 =>
                simp only [e4] at h
                have := comp_len h
                rw [List.length_append, List.length_singleton] at this
                omega
              | ex _ _ => simp only [e4] at h; cases h
              | bad => simp only [e4] at h; cases h
            | false => simp only [Bool.false_eq_true, if_false] at h; exact comp_len h
          | ex _ _ => simp only [e3] at h; cases h
          | bad => simp only [e3] at h; cases h
        | ex _ _ => simp only [VM.R.bind, e2] at h; cases h
        | bad => simp only [VM.R.bind, e2] at h; cases h
      | ex _ _ => rw [e1] at h; cases h
      | bad => rw [e1] at h; cases h
    · cases h
theorem comp_lim {K : Fg} {ι : List Addr} {chk : VM.Chk} {g : VM.GM} {t : VM.TM} {m : VM.EM} {srcs : List VM.Src} {σ : VM.St} {M : VM.Mem} {ws : List VM.W} {Q : VK} (h : Post RV K ι ((VM.comp chk g t m srcs σ M ws).bind VM.newL) Q) : ws.length ≤ sizeLine := by
  cases e : VM.comp chk g t m srcs σ M ws with
  | ok r M' =>
    rw [e] at h
    have h' : Post RV K ι (VM.newL r M') Q := h
    have hl := comp_len e
    unfold VM.newL at h'
    by_cases hr : r.length ≤ VM.lim
    · exact Nat.le_trans hl hr
    · rw [if_neg hr] at h'; exact (h' : False).elim
  | ex _ _ => rw [e] at h; exact (h : False).elim
  | bad => rw [e] at h; exact (h : False).elim
theorem comp_core {X : Cx} {N : List Str} {k : Nat} {cl : List Nat} {scope : Scope} {tg iter elt : Expr} {ifs : List Expr} {pos : Pos} {g : VM.GM} {t : VM.TM} {m : VM.EM} {pins : List (Addr × Obj)} {τ : L2.St} {H2 : Hp} {s2 : Shared} {J : It} {fp : List Addr} {it : Addr} {tn : Nat → Heap → Prop}
    {ι : List Addr} {M : VM.Mem} {σ : VM.St} {srcs : List VM.Src} {chk : VM.Chk} {Qv : VK} {RR : Value → Addr → Result → Shared → Prop} {E : Value → Shared → Prop} (B : Blk X N k cl scope) (calm : X.calm = true)
    (hg : ∀ C s H fp, SG (cxB X N scope (clOf X.env.cells scope.names []) C s H fp) tg g) (ht : ∀ C s H fp, SIfs (cxB X N scope (clOf X.env.cells scope.names []) C s H fp) ifs t) (hm : ∀ C s H fp, SE (cxB X N scope (clOf X.env.cells scope.names []) C s H fp) elt m)
    (I2 : Inv X pins τ H2 s2) (T : Turn X.prog X.w X.K tg J fp it tn) (st : tn 0 s2.heap) (hfp : ∀ b ∈ fp, FpOk X pins H2 b) (R2 : Rel X.K ι M H2) (S2 : RSt ι σ τ) (J2 : ItOk X.K ι J srcs chk)
    (hpost : Post RV X.K ι ((VM.comp chk g t m srcs (VM.clr cl (σ ++ List.replicate k none)) M []).bind VM.newL) Qv)
    (hRR : ∀ D C oC mC s' H', s2.heap.objs.size ≤ C → s'.heap.Ns C mC → Inv X (pins ++ [(C, oC)]) τ H' s' → Qv (.ref D) H' → RR (.ref D) C (.ok .next) s') :
    wpAny (model X.prog X.w) X.A (newList []) (fun acc s₃ => wpAny (model X.prog X.w) X.A (newFunctionEnv scope X.env.globals (clOf X.env.cells scope.names []) [] X.env.qual none .none (some X.env)) (fun cenv s₄ =>
      codeAny (model X.prog X.w) X.A (.compStart (.ListComp elt [⟨tg, iter, ifs, 0⟩] scope pos) 0 (.ref it) acc { cenv with scope := relabel scope X.env }) (RR acc cenv.locals) s₄) E s₃) E s2 := by
  refine wpAny_newObj_type (wpAny_newFunctionEnv B.cell (by intro y hy; simp at hy) (fun h₁ hns₁ hsb₁ => ?_) B.kind)
  dsimp only at hns₁ hsb₁ ⊢
  generalize hH2 : s2.heap.push { cls := .type "list", dict := none, data := .seq ([] : List Value).toArray } = HP at hns₁ hsb₁ ⊢
  generalize hCC : HP.objs.size = C at hns₁ hsb₁ ⊢
  generalize hDD : s2.heap.objs.size = D at hns₁ hsb₁ ⊢
  have hC : C = D + 1 := by rw [← hCC, ← hH2, Heap.size_push, hDD]
  have hDC : D ≠ C := by omega
  have hD' : s2.heap.objs.size ≤ D := by omega
  have hC' : s2.heap.objs.size ≤ C := by omega
  have below : ∀ b, b < s2.heap.objs.size → b ≠ C ∧ b ≠ D := fun b hb => ⟨by omega, by omega⟩
  have old : ∀ b o, s2.heap.get? b = some o → h₁.get? b = some o := fun b o e => hsb₁.extBut b o (below b (Heap.lt_size e)).1 (Heap.get?_push_of_some _ (hH2 ▸ Heap.get?_push_of_some _ e))
  have hacc : h₁.get? D = some { cls := .type "list", data := .seq ([] : List Value).toArray 0 } := hsb₁.extBut _ _ hDC (Heap.get?_push_of_some _ (by rw [← hH2, ← hDD]; exact Heap.get?_push_size _ rfl))
  have hfo : ∀ b ∈ fp, b < s2.heap.objs.size := fun b hb => by
    obtain ⟨o, e, _⟩ := T.obj 0 _ st b hb
    exact Heap.lt_size e
  have fpc : ∀ {pinsB : List (Addr × Obj)} {H : Hp}, (∀ b ∈ fp, H b = none) → (∀ p ∈ pinsB, p.1 = D) → ∀ b ∈ fp, FpOk (cxB X N scope (clOf X.env.cells scope.names []) C s2 H2 fp) pinsB H b := fun {pinsB H} hn hp b hb => by
    refine ⟨hn b hb, (below b (hfo b hb)).1, fun z => ?_, .inl hb, fun x c e => ?_, fun p hp' z => ?_⟩
    · rcases List.mem_cons.mp (I2.stkSub b z) with q | q
      · exact (hfp b hb).2.1 q
      · exact (hfp b hb).2.2.1 q
    · exact (hfp b hb).2.2.2.2.1 x c (clOf_sub scope.names [] (fun y d hy => by simp at hy) (PySem.mem_of_lookup e))
    · have hp2 : p ∈ ([] : List (Addr × Obj)) ++ pinsB := hp'
      rw [List.nil_append] at hp2
      exact (below b (hfo b hb)).2 (by rw [← z, hp p hp2])
  -- the state ahead of the loop
  have loop : ∀ s3 : Shared, s3 = { s2 with heap := h₁, toks := s2.toks + ([] : List (Str × Value)).length } →
      codeAny (model X.prog X.w) X.A (.compLoop (.ListComp elt [⟨tg, iter, ifs, 0⟩] scope pos) 0 (.ref it) (.ref D) (compEnvC scope (clOf X.env.cells scope.names []) C X.env)) (RR (.ref D) C) s3 := by
    rintro s3 rfl
    have Ib := blk_start (s4 := { s2 with heap := h₁, toks := s2.toks + ([] : List (Str × Value)).length }) B I2 hfp hfo old rfl I2.bare hC' hD' hDC hns₁ hacc (fun v z => nomatch z)
    refine compLoop_any (fun n s => ∃ i ι' M' σ' τ' H' ws vs its nn, i ≤ srcs.length ∧ n = srcs.length + 1 - i ∧ Inv (cxB X N scope (clOf X.env.cells scope.names []) C s2 H2 fp) [(D, { cls := .type "list", data := .seq (its : List Value).toArray nn })] τ' H' s ∧ tn i s.heap ∧ (∀ b ∈ fp, H' b = none) ∧
      ι <+: ι' ∧ Rel X.K ι' M' H' ∧ RSt ι' σ' τ' ∧ RVs ι' ws vs ∧ Vals vs its ∧ Post RV X.K ι' ((VM.comp chk g t m (srcs.drop i) σ' M' ws).bind VM.newL) Qv) ?_ (srcs.length + 1)
      ⟨0, ι, M, _, _, H2, [], [], [], 0, Nat.zero_le _, rfl, Ib, T.keep _ _ _ st (fun b hb o e => old b o e), fun b hb => (hfp b hb).1, pre_refl, R2, clr_rst cl (Paired.app S2 (rep_rst k)), .nil, .nil, hpost⟩
    rintro n s ⟨i, ι', M', σ', τ', H', ws, vs, its, nn, hi, rfl, I, sti, hn, pι, R, S, rw', rv, hp⟩
    by_cases hlt : i < srcs.length
    · have ex : srcs[i]? = some srcs[i] := by simp [hlt]
      rw [List.drop_eq_getElem_cons hlt] at hp
      have hck : chk.ok M' = true := by
        by_cases hck : chk.ok M' = true
        · exact hck
        · rw [VM.comp, if_neg hck] at hp; exact (hp : False).elim
      rw [comp_cons _ _ _ _ _ _ _ _ _ hck] at hp
      refine thn (T.item (cxB X N scope (clOf X.env.cells scope.names []) C s2 H2 fp) rfl rfl rfl calm i _ s τ' H' _ I (fpc hn (by simp)) sti (J2.go i ι' M' H' _ pι R hck ex)) fun r s1 ⟨u, hr, h1⟩ => ?_
      subst hr
      refine thn h1 fun _ s1' ⟨x, H1, I1, rx, y1, st1, fr1⟩ => ?_
      obtain ⟨ι2, w, M2, q2, eg, R2', rw2⟩ := J2.yld i ι' M' H' _ x H1 pι R hck ex y1
      rw [eg] at hp
      have I1' := I1.pinned (fpc fr1 (by simp)) (T.obj _ _ st1)
      obtain ⟨gt, pg, kg⟩ := hg C s2 H2 fp
      obtain ⟨tt, pt, kt⟩ := ht C s2 H2 fp
      obtain ⟨te, pe, ke⟩ := hm C s2 H2 fp
      have hp1 : Post RV X.K ι2 ((g w σ' M2).bind fun σ1 M2 => (t σ1 M2).bind fun b M3 =>
        if b then (m σ1 M3).bind fun y M4 => (VM.comp chk g t m (srcs.drop (i + 1)) σ1 M4 (ws ++ [y])).bind VM.newL else (VM.comp chk g t m (srcs.drop (i + 1)) σ1 M3 ws).bind VM.newL) Qv := Post.up q2 hp
      -- what is pinned through the turn
      have again : ∀ {n' : Nat} {τ7 : L2.St} {H7 : Hp} {s7 : Shared} {ι7 : List Addr} {M7 : VM.Mem} {σ7 : VM.St} {ws7 : List VM.W} {vs7 : List V} {its7 : List Value}, Inv (cxB X N scope (clOf X.env.cells scope.names []) C s2 H2 fp) ([(D, { cls := .type "list", data := .seq its7.toArray n' })] ++ pinsAt fp s1'.heap) τ7 H7 s7 →
          ι <+: ι7 → Rel X.K ι7 M7 H7 → RSt ι7 σ7 τ7 → RVs ι7 ws7 vs7 → Vals vs7 its7 → Post RV X.K ι7 ((VM.comp chk g t m (srcs.drop (i + 1)) σ7 M7 ws7).bind VM.newL) Qv →
          ∃ n, n < srcs.length + 1 - i ∧ ∃ i ι' M' σ' τ' H' ws vs its nn, i ≤ srcs.length ∧ n = srcs.length + 1 - i ∧ Inv (cxB X N scope (clOf X.env.cells scope.names []) C s2 H2 fp) [(D, { cls := .type "list", data := .seq (its : List Value).toArray nn })] τ' H' s7 ∧ tn i s7.heap ∧ (∀ b ∈ fp, H' b = none) ∧
            ι <+: ι' ∧ Rel X.K ι' M' H' ∧ RSt ι' σ' τ' ∧ RVs ι' ws vs ∧ Vals vs its ∧ Post RV X.K ι' ((VM.comp chk g t m (srcs.drop i) σ' M' ws).bind VM.newL) Qv := by
        intro n' τ7 H7 s7 ι7 M7 σ7 ws7 vs7 its7 I7 p7 R7 S7 rw7 rv7 hp7
        refine ⟨srcs.length + 1 - (i + 1), by omega, i + 1, ι7, M7, σ7, τ7, H7, ws7, vs7, its7, n', hlt, rfl, I7.unpinned, T.keep _ _ _ st1 fun b hb o e => (I7.pin (b, o) (List.mem_append_right _ (List.mem_append_right _ (mem_pinsAt hb e)))).1, fun b hb => ?_, p7, R7, S7, rw7, rv7, hp7⟩
        obtain ⟨o, e, d⟩ := T.obj _ _ st1 b hb
        exact (I7.pin (b, o) (List.mem_append_right _ (List.mem_append_right _ (mem_pinsAt hb e)))).2.1
      refine wpAny_mono (pg _ s1' τ' H1 x u _ I1' rx (kg ι2 M2 H1 σ' τ' w x (fun τ3 H3 => ∃ ι3 M3 σ3, ι2 <+: ι3 ∧ Rel X.K ι3 M3 H3 ∧ RSt ι3 σ3 τ3 ∧ Post RV X.K ι3 ((t σ3 M3).bind fun b M4 =>
        if b then (m σ3 M4).bind fun y M5 => (VM.comp chk g t m (srcs.drop (i + 1)) σ3 M5 (ws ++ [y])).bind VM.newL else (VM.comp chk g t m (srcs.drop (i + 1)) σ3 M4 ws).bind VM.newL) Qv) R2' (S.mono q2) rw2 (Post.seq hp1 fun ι3 H3 σ3 M3 τ3 q3 R3 S3 h3 => ⟨ι3, M3, σ3, q3, R3, S3, h3⟩))) (fun _ s3 ⟨τ3, H3, I3, ι3, M3, σ3, q3, R3, S3, h3⟩ => ?_) fun _ _ f => f.elim
      refine wpAny_mono (pt _ s3 τ3 H3 (fun b H4 => ∃ ι4 M4, ι3 <+: ι4 ∧ Rel X.K ι4 M4 H4 ∧ Post RV X.K ι4 (if b then (m σ3 M4).bind fun y M5 => (VM.comp chk g t m (srcs.drop (i + 1)) σ3 M5 (ws ++ [y])).bind VM.newL else (VM.comp chk g t m (srcs.drop (i + 1)) σ3 M4 ws).bind VM.newL) Qv)
        I3 (kt ι3 M3 H3 σ3 τ3 _ R3 S3 (Post.seq h3 fun ι4 H4 b M4 b' q4 R4 e4 h4 => by cases e4; exact ⟨ι4, M4, q4, R4, h4⟩))) (fun b s4 ⟨H4, I4, ι4, M4, q4, R4, h4⟩ => ?_) fun _ _ f => f.elim
      have q14 : ι <+: ι4 := pι.trans (q2.trans (q3.trans q4))
      have q'4 : ι' <+: ι4 := q2.trans (q3.trans q4)
      cases b with
      | false =>
        rw [if_neg Bool.false_ne_true]
        exact again I4 q14 R4 (S3.mono q4) (RVs.mono q'4 rw') rv h4
      | true =>
        rw [if_pos rfl]
        refine wpAny_mono (pe _ s4 τ3 H4 (fun v H5 => ∃ ι5 M5 y, ι4 <+: ι5 ∧ Rel X.K ι5 M5 H5 ∧ RV ι5 y v ∧ Post RV X.K ι5 ((VM.comp chk g t m (srcs.drop (i + 1)) σ3 M5 (ws ++ [y])).bind VM.newL) Qv)
          I4 (ke ι4 M4 H4 σ3 τ3 _ R4 (S3.mono q4) (Post.seq h4 fun ι5 H5 y M5 v q5 R5 r5 h5 => ⟨ι5, M5, y, q5, R5, r5, h5⟩))) (fun yv s5 ⟨v, H5, I5, rv5, ι5, M5, y, q5, R5, r5, h5⟩ => ?_) fun _ _ f => f.elim
        have hlim := comp_lim h5
        have hwl : ws.length = its.length := (Paired.len rw').trans rv.length
        obtain ⟨eD, nD, neL, nfs, _⟩ := I5.pin (D, { cls := .type "list", data := .seq its.toArray nn }) (by show _ ∈ ([] : List (Addr × Obj)) ++ _; simp)
        refine call_meets F.slot_list_append ⟨_, eD, rfl⟩ F.entry_list_append (F.args_list_append_2 _ _) (PySem.list_append D its.toArray nn yv (by rw [List.size_toArray, ← hwl]; rw [List.length_append, List.length_singleton] at hlim; omega)) ⟨eD, ?_⟩
        obtain ⟨n', eup⟩ : ∃ n' : Nat, (s5.heap.update D (Obj.mapSeq fun x_1 => x_1.push yv)).get? D = some { cls := .type "list", data := .seq (its ++ [yv]).toArray n' } := by
          have q := PySem.IsL.update eD (fun x_1 => x_1.push yv)
          have e3 : its.toArray.push yv = (its ++ [yv]).toArray := by simp
          rw [e3] at q
          exact ⟨_, q⟩
        have I6 : Inv (cxB X N scope (clOf X.env.cells scope.names []) C s2 H2 fp) (pinsAt fp s1'.heap) τ3 H5 { s5 with heap := s5.heap.update D (Obj.mapSeq fun x_1 => x_1.push yv), toks := s5.toks } := by
          refine Inv.turned (it := D) (t' := s5.toks) (I5.pins_of fun p hp => I5.pin p (List.mem_append_right _ (List.mem_append_right _ hp))) (fun b o hb e => (Heap.get?_update_other _ _ (Ne.symm hb)).trans e) nD neL (.inr hD') (fun x c e z => ?_) fun p hp z => ?_
          · obtain ⟨vv, q⟩ := I2.cell x c (clOf_sub scope.names [] (fun y d hy => by simp at hy) (PySem.mem_of_lookup e))
            exact absurd (Nat.lt_of_lt_of_le q.lt (by rw [z]; exact hD')) (Nat.lt_irrefl _)
          · have hp2 : p ∈ ([] : List (Addr × Obj)) ++ pinsAt fp s1'.heap := hp
            rw [List.nil_append] at hp2
            exact (below p.1 (hfo p.1 (of_pinsAt hp2).1)).2 z
        have I7 : Inv (cxB X N scope (clOf X.env.cells scope.names []) C s2 H2 fp) ([(D, { cls := .type "list", data := .seq (its ++ [yv]).toArray n' })] ++ pinsAt fp s1'.heap) τ3 H5 { s5 with heap := s5.heap.update D (Obj.mapSeq fun x_1 => x_1.push yv), toks := s5.toks } := by
          refine I6.pins_of fun p hp => ?_
          rcases List.mem_append.mp hp with z | z
          · have e : p = (D, { cls := .type "list", data := .seq (its ++ [yv]).toArray n' }) := by simpa using z
            subst e
            exact ⟨eup, nD, neL, nfs, fun v z => nomatch z⟩
          · exact I6.pin p (List.mem_append_right _ z)
        refine again I7 (q14.trans q5) R5 (S3.mono (q4.trans q5)) (Paired.app (RVs.mono (q'4.trans q5) rw') (.cons r5 .nil)) (rv.append (.cons rv5 .nil)) h5
    · have hz : i = srcs.length := by omega
      subst hz
      rw [List.drop_length] at hp
      have hck : chk.ok M' = true := by
        by_cases hck : chk.ok M' = true
        · exact hck
        · rw [VM.comp, if_neg hck] at hp; exact (hp : False).elim
      have hp2 : Post RV X.K ι' (VM.newL ws M') Qv := by rw [VM.comp, if_pos hck] at hp; exact hp
      refine thn (T.done (cxB X N scope (clOf X.env.cells scope.names []) C s2 H2 fp) rfl rfl rfl calm srcs.length _ s τ' H' _ I (fpc hn (by simp)) sti (J2.stop _ ι' M' H' pι R hck (Nat.le_refl _))) fun r s1 ⟨hr, I1⟩ => ?_
      subst hr
      obtain ⟨eD, nD, neL, nfs, _⟩ := I1.pin (D, { cls := .type "list", data := .seq its.toArray nn }) (by show _ ∈ ([] : List (Addr × Obj)) ++ _; simp)
      obtain ⟨mC, nsC, _⟩ := I1.loc
      have nsC : s1.heap.Ns C mC := nsC
      obtain ⟨oC, es, ep, hoC, hdC, _⟩ := id nsC
      have fin := newL_post R rw' hp2
      refine hRR D C oC mC s1 _ hC' nsC (blk_end I2 hfp I1 hC' hD' hDC nD eD rv fin.1 hoC fun v z => by rw [hdC] at z; cases z) (fin.2 D nD)
  exact codeAny_compStart_list (loop _ rfl) (T.self _ 0 _ _ _ (T.keep _ _ _ st fun b hb o e => old b o e) (loop _ rfl))

theorem relabel_local {env : Env} : ∀ {names : List (Str × NameKind)} {x : Str},
    (names.map fun (n, k) => if (k == NameKind.free && env.scope.kind == .function && env.kindOf n == some .cell) then (n, NameKind.cell) else (n, k)).lookup x = some .local → names.lookup x = some .local
  | [], x, h => by simp at h
  | (n, k0) :: r, x, h => by
    have ih := @relabel_local env r x
    rw [List.map_cons] at h
    by_cases hb : (k0 == NameKind.free && env.scope.kind == .function && env.kindOf n == some .cell) = true
    · have e1 : (match ((n, k0) : Str × NameKind) with | (n, k) => if (k == NameKind.free && env.scope.kind == .function && env.kindOf n == some .cell) then (n, NameKind.cell) else (n, k)) = (n, NameKind.cell) := if_pos hb
      rw [e1, List.lookup_cons] at h
      rw [List.lookup_cons]
      cases hx : x == n with
      | true => rw [hx] at h; cases h
      | false => rw [hx] at h; exact ih h
    · have e1 : (match ((n, k0) : Str × NameKind) with | (n, k) => if (k == NameKind.free && env.scope.kind == .function && env.kindOf n == some .cell) then (n, NameKind.cell) else (n, k)) = (n, k0) := if_neg hb
      rw [e1, List.lookup_cons] at h
      rw [List.lookup_cons]
      cases hx : x == n with
      | true => rw [hx] at h; exact h
      | false => rw [hx] at h; exact ih h
def ownOk (N : List Str) (cl : List Nat) (n : Nat) (names : List (Str × NameKind)) : Bool := (List.range N.length).all fun i => match N[i]? with
  | some x => !(names.lookup x == some NameKind.local) || cl.contains i || decide (n ≤ i)
  | none => true
theorem blk_mk {X : Cx} {ex : List Str} {cl : List Nat} {scope : Scope} (free : freeOk X.env scope.names = true) (cell : ∀ y ∈ scope.names, y.2 ≠ .cell) (kind : scope.kind = .function) (names : ∀ y ∈ scope.names, y.2 = .local → scope.names.lookup y.1 = some .local)
    (own : ownOk (X.N ++ ex) cl X.N.length scope.names = true) : Blk X (X.N ++ ex) ex.length cl scope := by
  refine ⟨by simp, fun i hi => by rw [List.getElem?_append_left hi], free, cell, kind, names, fun i x h1 h2 => ?_⟩
  have h3 : scope.names.lookup x = some .local := relabel_local h2
  have hi : i < (X.N ++ ex).length := (List.getElem?_eq_some_iff.mp h1).1
  have h4 := List.all_eq_true.mp own i (List.mem_range.mpr hi)
  rw [h1] at h4
  have h5 : (!(scope.names.lookup x == some NameKind.local) || cl.contains i || decide (X.N.length ≤ i)) = true := h4
  rw [h3] at h5
  simp only [beq_self_eq_true, Bool.not_true, Bool.false_or, Bool.or_eq_true, List.contains_eq_mem, decide_eq_true_eq] at h5
  exact h5
/-- a comprehension as a value -/
theorem se_comp {X : Cx} {ex : List Str} {cl : List Nat} {scope : Scope} {tg iter elt : Expr} {ifs : List Expr} {pos : Pos} {mi : VM.IM} {g : VM.GM} {t : VM.TM} {m : VM.EM} (B : Blk X (X.N ++ ex) ex.length cl scope) (calm : X.calm = true) (hi : SI X tg iter mi)
    (hg : ∀ C s H fp, SG (cxB X (X.N ++ ex) scope (clOf X.env.cells scope.names []) C s H fp) tg g) (ht : ∀ C s H fp, SIfs (cxB X (X.N ++ ex) scope (clOf X.env.cells scope.names []) C s H fp) ifs t) (hm : ∀ C s H fp, SE (cxB X (X.N ++ ex) scope (clOf X.env.cells scope.names []) C s H fp) elt m)
    (hs : ∀ x, foldedSetIterable iter X.env x = pure x := by intro _; rfl) : SE X (.ListComp elt [⟨tg, iter, ifs, 0⟩] scope pos) (VM.eComp ex.length cl mi g t m) := by
  obtain ⟨wi, pi, ki⟩ := hi
  refine ⟨fun τ H Q => ∃ ι M σ, Rel X.K ι M H ∧ RSt ι σ τ ∧ Post RV X.K ι (VM.eComp ex.length cl mi g t m σ M) Q, fun pins s τ H Q I h => ?_, fun ι M H σ τ Q R S h => ⟨ι, M, σ, R, S, h⟩⟩
  obtain ⟨ι, M, σ, R, S, h⟩ := h
  rw [eval_ListComp]
  refine wpAny_comprehension_free (use := none) rfl hs (closureFor_of B.free) B.kind B.names
    (thn (pi pins s τ H (fun J H1 => ∃ ι1 M1 srcs chk, ι <+: ι1 ∧ Rel X.K ι1 M1 H1 ∧ ItOk X.K ι1 J srcs chk ∧ Post RV X.K ι1 ((VM.comp chk g t m srcs (VM.clr cl (σ ++ List.replicate ex.length none)) M1 []).bind VM.newL) Q) I
      (ki ι M H σ τ _ R S (Post.seq h fun ι1 H1 pr M1 J p1 R1 J1 h1 => ⟨ι1, M1, pr.1, pr.2, p1, R1, J1, h1⟩))) fun v s1 h1 => thn h1 fun itv s2 h2 => ?_)
  obtain ⟨it, fp, tn, J, H2, e, I2, T, st2, f2, ι1, M1, srcs, chk, p1, R1, J1, hp⟩ := h2
  subst e
  exact comp_core (RR := fun acc C => compPost (model X.prog X.w) X.A X.xe none (EP X pins τ Q) acc C) B calm hg ht hm I2 T st2 f2 R1 (S.mono p1) J1 hp fun D C oC mC s' H' hC nsC I' q =>
    ⟨mC, nsC, fun h' hs' => ⟨.ref D, H', blk_drop I2 hC I' hs', rfl, q⟩⟩
/-- name = [..] on one line: the store comes ahead of the block's end -/
theorem ss_setc {X : Cx} {ex : List Str} {cl : List Nat} {scope : Scope} {tg iter elt : Expr} {ifs : List Expr} {pos spos py : Pos} {y : Str} {i : Nat} {mi : VM.IM} {g : VM.GM} {t : VM.TM} {m : VM.EM} (hN : X.N.Nodup) (B : Blk X (X.N ++ ex) ex.length cl scope) (calm : X.calm = true) (hi : SI X tg iter mi)
    (hg : ∀ C s H fp, SG (cxB X (X.N ++ ex) scope (clOf X.env.cells scope.names []) C s H fp) tg g) (ht : ∀ C s H fp, SIfs (cxB X (X.N ++ ex) scope (clOf X.env.cells scope.names []) C s H fp) ifs t) (hm : ∀ C s H fp, SE (cxB X (X.N ++ ex) scope (clOf X.env.cells scope.names []) C s H fp) elt m)
    (hy : X.N[i]? = some y := by rfl) (hx : Loc X.env.scope y := by first | exact Or.inl rfl | exact Or.inr rfl) (hf : X.fn y = true ∨ X.env.scope.names.lookup y = some .local := by first | exact .inl rfl | exact .inr rfl | assumption)
    (hsw : swapsWith (.ListComp elt [⟨tg, iter, ifs, 0⟩] scope pos) (some (.Name y py)) spos.line X.env = pure true := by rfl)
    (hs : ∀ x, foldedSetIterable iter X.env x = pure x := by intro _; rfl) : SS X (.Assign [.Name y py] (.ListComp elt [⟨tg, iter, ifs, 0⟩] scope pos) spos) (VM.sAsg (VM.eComp ex.length cl mi g t m) (VM.gName i)) := by
  obtain ⟨wi, pi, ki⟩ := hi
  refine ⟨fun D τ H => ∃ ι M σ, Rel X.K ι M H ∧ RSt ι σ τ ∧ PostS X.K ι (VM.sAsg (VM.eComp ex.length cl mi g t m) (VM.gName i) σ M) D, fun pins s τ H D I h => ?_, fun ι M H σ τ D R S h => ⟨ι, M, σ, R, S, h⟩⟩
  obtain ⟨ι, M, σ, R, S, h⟩ := h
  have h0 : Post RV X.K ι (VM.eComp ex.length cl mi g t m σ M) (fun v H1 => D.nx (τ.set i (some v)) H1) := PostS.seq h fun ι1 H1 w M1 v p1 R1 r1 h1 =>
    h1 ι1 H1 _ pre_refl R1 (Paired.setP (F := RO1 ι1) (x := some w) (y := some v) ⟨v, rfl, r1⟩ i (S.mono p1))
  rw [exec_Assign_Name_used _ _ _ _ hsw]
  refine wpAny_bind (wpAny_standAt (wpAny_bind ?_))
  show wpAny _ X.A (do let _ ← comprehension (.ListComp elt [⟨tg, iter, ifs, 0⟩] scope pos) scope X.env _ (newList []) false (eval iter X.env) (some (assign (.Name y py) X.env))) _ _ s
  refine wpAny_bind (wpAny_mono (wpAny_comprehension_free (use := some (assign (.Name y py) X.env)) (Q := fun _ s' => SP X pins D .next s') rfl hs (closureFor_of B.free) B.kind B.names
    (thn (pi pins s τ H (fun J H1 => ∃ ι1 M1 srcs chk, ι <+: ι1 ∧ Rel X.K ι1 M1 H1 ∧ ItOk X.K ι1 J srcs chk ∧ Post RV X.K ι1 ((VM.comp chk g t m srcs (VM.clr cl (σ ++ List.replicate ex.length none)) M1 []).bind VM.newL) (fun v H1 => D.nx (τ.set i (some v)) H1)) I
      (ki ι M H σ τ _ R S (Post.seq h0 fun ι1 H1 pr M1 J p1 R1 J1 h1 => ⟨ι1, M1, pr.1, pr.2, p1, R1, J1, h1⟩))) fun v s1 h1 => thn h1 fun itv s2 h2 => ?_)) (fun _ s' hq => wpAny_pure (wpAny_pure hq)) fun _ _ e => e)
  obtain ⟨it, fp, tn, J, H2, e, I2, T, st2, f2, ι1, M1, srcs, chk, p1, R1, J1, hp⟩ := h2
  subst e
  refine comp_core (RR := fun acc C => compPost (model X.prog X.w) X.A X.xe (some (assign (.Name y py) X.env)) (fun _ s' => SP X pins D .next s') acc C) B calm hg ht hm I2 T st2 f2 R1 (S.mono p1) J1 hp fun A' C oC mC s' H' hC nsC I' q => ?_
  obtain ⟨eC, _⟩ := I'.pin (C, oC) (List.mem_append_right _ (List.mem_append_right _ (by simp)))
  refine thn (pg_name hN hy hx hf _ s' τ H' (.ref A') (.ref A') (fun τ' H'' => τ' = τ.set i (some (.ref A')) ∧ H'' = H') I' rfl ⟨rfl, rfl⟩) fun _ s'' ⟨τ', H'', I'', e1, e2⟩ => ?_
  subst e1 e2
  obtain ⟨eC2, _⟩ := I''.pin (C, oC) (List.mem_append_right _ (List.mem_append_right _ (by simp)))
  refine ⟨mC, ?_, fun h' hs' => ⟨_, _, blk_drop I2 hC I'' hs', q⟩⟩
  obtain ⟨o, es, ep, ho, r⟩ := nsC
  rw [eC] at ho; cases ho
  exact ⟨oC, es, ep, eC2, r⟩
end SV
end
section
set_option Elab.async false
set_option linter.all false
set_option autoImplicit false
set_option maxRecDepth 100000
set_option maxHeartbeats 4000000
namespace SV
open PySem PySem.Spec PyProof.Rows L2
theorem rst_start {ι : List Addr} {ws : List VM.W} {vs : List V} (r : RVs ι ws vs) (N : List Str) : RSt ι (ws.map some ++ List.replicate (N.length - ws.length) none) (L2.start N vs) := by
  unfold L2.start
  have hm : ∀ {ws : List VM.W} {vs : List V}, RVs ι ws vs → RSt ι (ws.map some) (vs.map some) := by
    intro ws vs r
    induction r with
    | nil => exact .nil
    | cons h _ ih => exact .cons ⟨_, rfl, h⟩ ih
  have hr : ∀ n : Nat, RSt ι (List.replicate n none) (List.replicate n none) := by
    intro n
    induction n with
    | zero => exact .nil
    | succ n ih => exact .cons trivial ih
  rw [Paired.len r]
  exact Paired.app (hm r) (hr _)
theorem fnv_mk {P : Program} {w : World} {K : Fg} {mg : Str → Option Value} {base : Heap} {k : Nat} {x qual : Str} {st : Stmt} {f : Addr} {fd : FuncData} {N ps : List Str} {np n : Nat} {body : VM.SM} (F : Fun K x qual st f fd) (S : FnScope N ps (defScope st)) (hm : mg x = some (.ref f)) (hb : Binds K fd ps [])
    (D : ∀ (cdv : Value) (A : Around) (outer : List Env) (s : Shared) (H : Hp) (E : XK), Room k (A.deeper (envOfC qual (defScope st) s.heap.objs.size f cdv)) → SSs (cxOf CX0 P w K mg base N qual (defScope st) f cdv A outer s H E).nox (defBody st) body)
    (hn : N.length = n := by rfl) (hp : ps.length = np := by rfl) : FnV P w K mg base (k + 1) x f fd ps (VM.fn np n body) := by
  subst hn hp
  refine ⟨F.ok S (fun vs H Q E h => h.1) (fun cdv A outer s H vs Q E hr h => ?_), hm, F.kp, hb, fun ws M hw => if_neg hw⟩
  obtain ⟨hl, ι, M, ws, R, r, h⟩ := h
  obtain ⟨t, pt, kt⟩ := D cdv A outer s H E hr
  refine ⟨t, pt, kt ι M H _ _ _ R (rst_start r N) ?_⟩
  have hw : ws.length = ps.length := by rw [Paired.len r]; exact hl
  have h2 : Post RV K ι (match body (ws.map some ++ List.replicate (N.length - ps.length) none) M with
    | .rt v M' => .ok v M'
    | .nx _ M' => .ok .non M'
    | .ex v M' => .ex v M'
    | _ => .bad) Q := by
    have h' : Post RV K ι (if ws.length = ps.length then (match body (ws.map some ++ List.replicate (N.length - ps.length) none) M with
      | .rt v M' => .ok v M'
      | .nx _ M' => .ok .non M'
      | .ex v M' => .ex v M'
      | _ => .bad) else .bad) Q := h
    rw [if_pos hw] at h'
    exact h'
  rw [hw]
  cases e : body (ws.map some ++ List.replicate (N.length - ps.length) none) M with
  | nx σ' M' => rw [e] at h2; exact fun ι' H' τ' p R' S' => h2 ι' H' .non p R' rfl
  | rt v M' => rw [e] at h2; exact h2
  | bk σ' M' => rw [e] at h2; exact (h2 : False).elim
  | ct σ' M' => rw [e] at h2; exact (h2 : False).elim
  | ex v M' => rw [e] at h2; exact (h2 : False).elim
  | bad => rw [e] at h2; exact (h2 : False).elim
/-- nothing can be asked with no call left -/
theorem fnv_none {P : Program} {w : World} {K : Fg} {mg : Str → Option Value} {base : Heap} {x : Str} {f : Addr} {fd : FuncData} {ps : List Str} (hm : mg x = some (.ref f)) (kp : PySem.W.keepIn K (.ref f) = true) (hb : Binds K fd ps []) :
    FnV P w K mg base 0 x f fd ps (fun _ _ => .bad) := by
  have no : ∀ vs H Q E, ¬ spV K ps.length (fun _ _ => .bad) vs H Q E := fun vs H Q E h => by
    obtain ⟨_, _, _, _, _, _, h⟩ := h
    exact h
  exact ⟨⟨fun vs H Q E h => absurd h (no vs H Q E), fun A outer s H args us vs Q E _ _ _ _ h => absurd h (no vs H Q E)⟩, hm, kp, hb, fun _ _ _ => rfl⟩
/-- the law's promise, from the machine's answer -/
def spLaw (K : Fg) : Sp := fun vs H Q _ => ∃ (a : Addr) (ns : List Int), vs = [.ref a] ∧ SqL K H a (ns.map V.int) ∧ ns.length ≤ 63 ∧ (∀ b, H b = none ∨ ∃ o xs, H b = some (.frz o (.lst xs))) ∧ ∀ H', Q (.bl true) H'
theorem law_ok {P : Program} {w : World} {K : Fg} {mg : Str → Option Value} {base : Heap} {k : Nat} {x a0 : Str} {f : Addr} {fd : FuncData} {c : VM.CM} (F : FnV P w K mg base k x f fd [a0] c)
    (math : ∀ ns : List Int, ns.length ≤ 63 → ∃ M, c [.ref 0] [.frz (ns.map .int)] = .ok (.bl true) M) : FnOk P w K mg base CX0 k f fd [a0] (spLaw K) := by
  refine F.ok.imp fun vs H Q E h => ?_
  obtain ⟨a, ns, rfl, hS, hl, hO, q⟩ := h
  obtain ⟨M', hm⟩ := math ns hl
  have rs : RVs [a] (ns.map VM.W.int) (ns.map V.int) := by
    clear hS hl q hm
    induction ns with
    | nil => exact .nil
    | cons n r ih => exact .cons rfl ih
  have fz : FzL K H a (ns.map V.int) := by
    rcases hS with (h | ⟨o, h⟩) | h
    · rcases hO a with z | ⟨o, xs, z⟩
      · rw [z] at h; cases h
      · rw [z] at h; cases h
    · exact .inl ⟨o, h⟩
    · exact .inr h
  refine ⟨rfl, [a], [.frz (ns.map .int)], [.ref 0], ⟨rfl, fun b p o h1 h2 => ?_, fun b b' p ob ob' h1 h2 h3 h4 l1 l2 => ?_⟩, .cons ⟨a, rfl, rfl⟩ .nil, ?_⟩
  · cases b with
    | zero => cases h1; cases h2; exact ⟨_, fz, rs⟩
    | succ b => cases h2
  · cases b with
    | zero => cases h3; cases l1
    | succ b => cases h3
  · rw [hm]
    intro ι' H' v _ _ rv
    cases rv
    exact q H'
end SV
end
section
set_option Elab.async false
set_option linter.all false
set_option autoImplicit false
set_option maxRecDepth 100000
set_option maxHeartbeats 4000000
namespace SV
open PySem PySem.Spec PyProof.Rows L2
/-! ### isinstance -/
def kname : VM.Kd → String
  | .int => "int"
  | .bool => "bool"
  | .str => "str"
  | .list => "list"
  | .tuple => "tuple"
inductive TyN where
  | non | bl | int | str | lst | tup
def TyN.name : TyN → String
  | .non => "NoneType"
  | .bl => "bool"
  | .int => "int"
  | .str => "str"
  | .lst => "list"
  | .tup => "tuple"
def TyN.is : TyN → VM.Kd → Bool
  | .non, _ => false
  | .bl, k => decide (k = .bool ∨ k = .int)
  | .int, k => decide (k = .int)
  | .str, k => decide (k = .str)
  | .lst, k => decide (k = .list)
  | .tup, k => decide (k = .tuple)
theorem kit_fact (K : Fg) (t : TyN) (k : VM.Kd) : PySem.W.kitOne K (.type t.name) (.type (kname k)) = some (t.is k) := by
  cases t <;> cases k <;> kernel_rfl
theorem kit_facts (K : Fg) (t : TyN) : ∀ ks : List VM.Kd, PySem.W.kitAny K (.type t.name) (ks.map fun k => .type (kname k)) = some (ks.any t.is)
  | [] => rfl
  | k :: r => by
    rw [List.map_cons, PySem.W.kitAny, kit_fact, kit_facts K t r, List.any_cons]
    cases t.is k <;> rfl
/-- the machine's value has that type -/
theorem ty_of {K : Fg} {ι : List Addr} {M : VM.Mem} {H : Hp} {w : VM.W} {v : V} {ks : List VM.Kd} {b : Bool} (R : Rel K ι M H) (r : RV ι w v) (e : VM.anyKd M w ks = some b) (hk : ks ≠ []) : ∃ t : TyN, TyOf K H v (.type t.name) ∧ ks.any t.is = b := by
  have key : ∃ t : TyN, TyOf K H v (.type t.name) ∧ ∀ k, VM.isKd M w k = some (t.is k) := by
    cases w with
    | non => cases r; exact ⟨.non, .non, fun k => rfl⟩
    | bl x => cases r; exact ⟨.bl, .bl x, fun k => rfl⟩
    | int i => cases r; exact ⟨.int, .int i, fun k => rfl⟩
    | str x => cases r; exact ⟨.str, .str _, fun k => rfl⟩
    | ref a =>
      obtain ⟨p, hp, rfl⟩ := r
      cases hm : M[a]? with
      | none =>
        exfalso
        cases ks with
        | nil => exact hk rfl
        | cons k rest =>
          have : VM.isKd M (.ref a) k = none := by unfold VM.isKd; simp only [hm]
          rw [VM.anyKd, this] at e
          cases e
      | some o =>
        have ro := R.obj a p o hp hm
        cases o with
        | lst xs =>
          obtain ⟨vs, h1, _⟩ := ro
          exact ⟨.lst, .lst h1, fun k => by unfold VM.isKd; simp only [hm] <;> rfl⟩
        | tup xs =>
          obtain ⟨vs, h1, _⟩ := ro
          exact ⟨.tup, .tup h1, fun k => by unfold VM.isKd; simp only [hm] <;> rfl⟩
        | frz xs =>
          exfalso
          cases ks with
          | nil => exact hk rfl
          | cons k rest =>
            have : VM.isKd M (.ref a) k = none := by unfold VM.isKd; simp only [hm]
            rw [VM.anyKd, this] at e
            cases e
  obtain ⟨t, h1, h2⟩ := key
  refine ⟨t, h1, ?_⟩
  have all : ∀ ks, VM.anyKd M w ks = some (ks.any t.is) := by
    intro ks
    induction ks with
    | nil => rfl
    | cons k r ih => rw [VM.anyKd, h2 k, ih, List.any_cons]
  rw [all ks] at e
  exact Option.some.inj e
section
variable {X : Cx} {pins : List (Addr × Obj)} {σ : L2.St} {H : Hp} {s : Shared}
theorem kx_of {x : V} {u : Value} {t : TyN} (I : Inv X pins σ H s) (rx : RelV x u) (ty : TyOf X.K H x (.type t.name)) : ∃ Hc : Heap → Prop, PySem.W.KitX X.K u (.type t.name) Hc ∧ Hc s.heap ∧ u ≠ .builtin "__main__.__loader__#opaque" := by
  generalize ht : Value.type t.name = tv at ty
  cases ty with
  | non => cases (show u = Value.none from rx); exact ⟨_, PySem.W.kitx_none, trivial, fun z => nomatch z⟩
  | bl y => cases (show u = Value.bool y from rx); exact ⟨_, PySem.W.kitx_bool, trivial, fun z => nomatch z⟩
  | int i => obtain ⟨tk, q⟩ := (show ∃ t, u = Value.int i t from rx); cases q; exact ⟨_, PySem.W.kitx_int, trivial, fun z => nomatch z⟩
  | str y => obtain ⟨tk, q⟩ := (show ∃ t, u = Value.str y t from rx); cases q; exact ⟨_, PySem.W.kitx_str, trivial, fun z => nomatch z⟩
  | flt y => obtain ⟨tk, q⟩ := (show ∃ t, u = Value.float y t from rx); cases q; exact ⟨_, PySem.W.kitx_float, trivial, fun z => nomatch z⟩
  | @lst a xs ea =>
    cases (show u = Value.ref a from rx)
    obtain ⟨_, _, n, _, h1⟩ := (show ObjOk X.prog X.w H s.heap a (.lst xs) from I.hok a _ ea)
    exact ⟨_, PySem.W.kitx_list, ⟨_, h1, rfl⟩, fun z => nomatch z⟩
  | @frz a ob xs ea =>
    cases (show u = Value.ref a from rx)
    obtain ⟨_, _, _, n, _, h1⟩ := (show ObjOk X.prog X.w H s.heap a (.frz ob (.lst xs)) from I.hok a _ ea)
    exact ⟨_, PySem.W.kitx_list, ⟨_, h1, rfl⟩, fun z => nomatch z⟩
  | @tup a xs ea =>
    cases (show u = Value.ref a from rx)
    obtain ⟨_, _, _, p⟩ := (show ObjOk X.prog X.w H s.heap a (.tup xs) from I.hok a _ ea)
    obtain ⟨o, h1, h2, _⟩ := p
    exact ⟨_, PySem.W.kitx_tuple, ⟨o, h1, h2⟩, fun z => nomatch z⟩
  | dK ea => cases t <;> (injection ht with z; exact absurd z (by decide))
  | dT ea => cases t <;> (injection ht with z; exact absurd z (by decide))
  | ins ea cl ha hn htk hm => cases ht
theorem call_isi1 : CallR X (.builtin "isinstance") (fun xs H Q => ∃ (x : V) (t : TyN) (k : VM.Kd), xs = [x, .ty (kname k)] ∧ TyOf X.K H x (.type t.name) ∧ Q (.bl (t.is k)) H) := by
  intro pins s σ H xs us Q I r h
  obtain ⟨x, t, k, rfl, ty, q⟩ := h
  cases r with
  | cons rx r2 =>
    cases r2 with
    | cons rc r3 =>
      cases r3
      rename_i u c
      have ec : c = Value.type (kname k) := rc
      subst ec
      obtain ⟨Hc, Z, hc, hne⟩ := kx_of I rx ty
      exact PySem.W.kia_one Z I.kIn hc (kit_fact X.K t k) hne fun tk => ⟨.bl (t.is k), H, I.tok _, rfl, q⟩
theorem vals_ty : ∀ {ks : List VM.Kd} {us : List Value}, Vals (ks.map fun k => V.ty (kname k)) us → us = ks.map fun k => Value.type (kname k)
  | [], _, .nil => rfl
  | k :: r, _, .cons h t => by
    have e : _ = Value.type (kname k) := h
    rw [List.map_cons, e, vals_ty t]
theorem call_isiT : CallR X (.builtin "isinstance") (fun xs H Q => ∃ (x : V) (t : TyN) (ks : List VM.Kd) (p : Addr), xs = [x, .ref p] ∧ H p = some (.tup (ks.map fun k => V.ty (kname k))) ∧ TyOf X.K H x (.type t.name) ∧ Q (.bl (ks.any t.is)) H) := by
  intro pins s σ H xs us Q I r h
  obtain ⟨x, t, ks, p, rfl, hp, ty, q⟩ := h
  cases r with
  | cons rx r2 =>
    cases r2 with
    | cons rc r3 =>
      cases r3
      rename_i u c
      have ec : c = Value.ref p := rc
      subst ec
      obtain ⟨_, its, rv, o, ho, hcls, n, hd⟩ := I.hok p _ hp
      have ei := vals_ty rv
      subst ei
      obtain ⟨cl, dd, dt, sl⟩ := o
      simp only at hcls hd
      subst hcls hd
      obtain ⟨Hc, Z, hc, hne⟩ := kx_of I rx ty
      exact PySem.W.kia_tup Z I.kIn hc ho (kit_facts X.K t ks) hne fun tk => ⟨.bl (ks.any t.is), H, I.tok _, rfl, q⟩
end
/-- an object that the machine does not know -/
theorem Rel.other {K : Fg} {ι : List Addr} {M : VM.Mem} {H : Hp} (R : Rel K ι M H) {p : Addr} (hp : H p = none) (u : HO) : Rel K ι M (upd H p u) := by
  refine ⟨R.len, fun a q o h1 h2 => ?_, R.inj⟩
  have r := R.obj a q o h1 h2
  refine RO.other r (fun hl => ?_) fun ob vs e => by rw [hp] at e; cases e
  rintro rfl
  cases o with
  | lst xs => obtain ⟨vs, e, _⟩ := r; rw [hp] at e; cases e
  | tup xs => obtain ⟨vs, e, _⟩ := r; rw [hp] at e; cases e
  | frz xs => cases hl
theorem TyOf.other {K : Fg} {H : Hp} {v t : _} (h : TyOf K H v t) {p : Addr} (hp : H p = none) (u : HO) : TyOf K (upd H p u) v t := by
  cases h with
  | non => exact .non
  | bl x => exact .bl x
  | int x => exact .int x
  | str x => exact .str x
  | flt x => exact .flt x
  | lst e => exact .lst (by rw [upd_ne (ne_of_none e hp)]; exact e)
  | frz e => exact .frz (by rw [upd_ne (ne_of_none e hp)]; exact e)
  | tup e => exact .tup (by rw [upd_ne (ne_of_none e hp)]; exact e)
  | dK e => exact .dK (by rw [upd_ne (ne_of_none e hp)]; exact e)
  | dT e => exact .dT (by rw [upd_ne (ne_of_none e hp)]; exact e)
  | ins e cl ha hn htk hm => exact .ins (by rw [upd_ne (ne_of_none e hp)]; exact e) cl ha hn htk hm
section
variable {X : Cx}
theorem bb_kd (k : VM.Kd) : bootBuiltins (Str.ofString (kname k)) = some (.type (kname k)) := by cases k <;> kernel_rfl
theorem se_isi {a : Expr} {m : VM.EM} {x : Str} (k : VM.Kd) {p p2 pos : Pos} (hm : X.mg "isinstance" = none) (hmk : X.mg x = none) (ha : SE X a m) (hx : x = Str.ofString (kname k) := by rfl) (hg : Gl X "isinstance" := by rfl) (hgk : Gl X x := by rfl) (hn : x ≠ "__name__" := by decide +kernel) (hdb : (x == ("__debug__" : Str)) = false := by decide +kernel)
    (he : starEach [a, .Name x p2] X.env = (false, eval a X.env) :: starEach [.Name x p2] X.env := by rfl) (hpl : (backTo pos (starEach [.Name x p2] X.env)).any (·.1) = false := by rfl) (he2 : starEach [.Name x p2] X.env = (false, eval (.Name x p2) X.env) :: starEach [] X.env := by rfl) :
    SE X (.Call (.Name "isinstance" p) [a, .Name x p2] [] pos) (VM.eIs [k] m) := by
  obtain ⟨ta, pa, ka⟩ := ha
  have pn : PE X (.Name x p2) (tC (.ty (kname k))) := pe_bltn hgk hmk (by rw [hx]; exact bb_kd k) (show RelV (.ty (kname k)) (.type (kname k)) from rfl) hn hdb
  refine ⟨_, pe_callB call_isi1 hg hm (by kernel_rfl) (pa_cons pa (pa_cons pn pa_nil he2) he) (by decide +kernel) (by decide +kernel) he hpl, fun ι M H σ τ Q R S h => ?_⟩
  refine ka ι M H σ τ _ R S (Post.seq h fun ι1 H1 w M1 v p1 R1 r1 h1 => ?_)
  have h2 : Post RV X.K ι1 (match VM.anyKd M1 w [k] with | some b => VM.R.ok (.bl b) M1 | none => .bad) Q := h1
  cases e : VM.anyKd M1 w [k] with
  | none => rw [e] at h2; exact (h2 : False).elim
  | some b =>
    rw [e] at h2
    obtain ⟨t, ty, eb⟩ := ty_of R1 r1 e (by simp)
    refine ⟨v, t, k, rfl, ty, ?_⟩
    have eb' : t.is k = b := by simpa using eb
    rw [eb']
    exact Post.ok (b := V.bl b) h2 R1 rfl
/-- the classes of a written tuple -/
def SCls (X : Cx) (es : List Expr) (ks : List VM.Kd) : Prop := PA X es (fun _ H Q => Q (ks.map fun k => V.ty (kname k)) H)
theorem scls_nil : SCls X [] [] := pa_nil
theorem scls_cons {x : Str} (k : VM.Kd) {p2 : Pos} {es : List Expr} {ks : List VM.Kd} (hmk : X.mg x = none) (hr : SCls X es ks) (hx : x = Str.ofString (kname k) := by rfl) (hgk : Gl X x := by rfl) (hn : x ≠ "__name__" := by decide +kernel) (hdb : (x == ("__debug__" : Str)) = false := by decide +kernel) (he : starEach (.Name x p2 :: es) X.env = (false, eval (.Name x p2) X.env) :: starEach es X.env := by rfl) :
    SCls X (.Name x p2 :: es) (k :: ks) := by
  have pn : PE X (.Name x p2) (tC (.ty (kname k))) := pe_bltn hgk hmk (by rw [hx]; exact bb_kd k) (show RelV (.ty (kname k)) (.type (kname k)) from rfl) hn hdb
  exact pa_cons pn hr he
theorem se_isiT {a : Expr} {m : VM.EM} {es : List Expr} {ks : List VM.Kd} {x1} {p p2 pos : Pos} (hm : X.mg "isinstance" = none) (ha : SE X a m) (hc : SCls X es ks) (hk : ks ≠ [] := by simp) (hl : ks.length ≤ 64 := by decide) (hg : Gl X "isinstance" := by rfl)
    (he : starEach [a, .Tuple es x1 p2] X.env = (false, eval a X.env) :: starEach [.Tuple es x1 p2] X.env := by rfl) (hpl : (backTo pos (starEach [.Tuple es x1 p2] X.env)).any (·.1) = false := by rfl) (he2 : starEach [.Tuple es x1 p2] X.env = (false, eval (.Tuple es x1 p2) X.env) :: starEach [] X.env := by rfl) :
    SE X (.Call (.Name "isinstance" p) [a, .Tuple es x1 p2] [] pos) (VM.eIs ks m) := by
  obtain ⟨ta, pa, ka⟩ := ha
  refine ⟨_, pe_callB call_isiT hg hm (by kernel_rfl) (pa_cons pa (pa_cons (pe_tup hc) pa_nil he2) he) (by decide +kernel) (by decide +kernel) he hpl, fun ι M H σ τ Q R S h => ?_⟩
  refine ka ι M H σ τ _ R S (Post.seq h fun ι1 H1 w M1 v p1 R1 r1 h1 => ?_)
  have h2 : Post RV X.K ι1 (match VM.anyKd M1 w ks with | some b => VM.R.ok (.bl b) M1 | none => .bad) Q := h1
  cases e : VM.anyKd M1 w ks with
  | none => rw [e] at h2; exact (h2 : False).elim
  | some b =>
    rw [e] at h2
    obtain ⟨t, ty, eb⟩ := ty_of R1 r1 e hk
    refine ⟨by rw [List.length_map]; exact Nat.le_trans hl (by decide), fun q hq => ?_⟩
    refine ⟨v, t, ks, q, rfl, upd_same, TyOf.other ty hq _, ?_⟩
    rw [eb]
    exact Post.ok (b := V.bl b) h2 (R1.other hq _) rfl
end
end SV
end
section
set_option Elab.async false
set_option linter.all false
set_option autoImplicit false
set_option maxRecDepth 100000
set_option maxHeartbeats 4000000
namespace SV
open PySem PySem.Spec PyProof.Rows L2
/-! ### zip of two lists, its pairs unpacked -/
def Itz (K : Fg) (a b : Addr) : It :=
  ⟨fun i H => ∃ xs x ys y, SqL K H a xs ∧ xs[i]? = some x ∧ SqL K H b ys ∧ ys[i]? = some y,
   fun i H v H' => ∃ p x y, H p = none ∧ v = .ref p ∧ H' = upd H p (.tup [x, y]) ∧ (∀ xs, SqL K H a xs → xs[i]? = some x) ∧ ∀ ys, SqL K H b ys → ys[i]? = some y,
   fun i H => ∃ xs ys, SqL K H a xs ∧ SqL K H b ys ∧ (xs.length ≤ i ∨ ys.length ≤ i)⟩
theorem turn_zip {P : Program} {w : World} {K : Fg} {elts : List Expr} {x1 : Nat} {pos : Pos} (a b z TI TO i1 i2 : Addr) (D : ZipApart z TI TO i1 i2 a b) :
    Turn P w K (.Tuple elts x1 pos) (Itz K a b) [z, TI, TO, i1, i2] z (fun i h => IsZip h z TI TO .none ∧ IsPair h TI (.ref i1) (.ref i2) ∧ (∃ u v, IsPair h TO u v) ∧ h.IsListIter i1 a i ∧ h.IsListIter i2 b i) where
  mem := by simp
  obj := fun i h st c hc => by
    obtain ⟨hz, hTI, ⟨u, v, hTO⟩, h1, h2⟩ := st
    simp only [List.mem_cons, List.not_mem_nil, or_false] at hc
    rcases hc with rfl | rfl | rfl | rfl | rfl
    · exact ⟨_, hz, fun v z => nomatch z⟩
    · exact ⟨_, hTI, fun v z => nomatch z⟩
    · exact ⟨_, hTO, fun v z => nomatch z⟩
    · obtain ⟨o, e, c, d⟩ := h1
      exact ⟨o, e, fun v z => by rw [d] at z; cases z⟩
    · obtain ⟨o, e, c, d⟩ := h2
      exact ⟨o, e, fun v z => by rw [d] at z; cases z⟩
  keep := fun i h h' st k => by
    obtain ⟨hz, hTI, ⟨u, v, hTO⟩, h1, h2⟩ := st
    exact ⟨k z (by simp) _ hz, k TI (by simp) _ hTI, ⟨u, v, k TO (by simp) _ hTO⟩, h1.at fun o e => k i1 (by simp) o e, h2.at fun o e => k i2 (by simp) o e⟩
  item := by
    intro X hP hw hK hc i pins s σ H E I hf st hg
    subst hP hw hK
    obtain ⟨hz, hTI, ⟨u, v, hTO⟩, h1, h2⟩ := st
    obtain ⟨xs, x, ys, y, hq, hx, hq2, hy⟩ := hg
    obtain ⟨its, rv, p, _⟩ := I.list hq
    obtain ⟨its2, rv2, p2, _⟩ := I.list hq2
    obtain ⟨ux, hux, rux⟩ := rv.get hx
    obtain ⟨uy, huy, ruy⟩ := rv2.get hy
    refine wpAny_pyNext_zip_item D hz hTI hTO h1 h2 p.isList p2.isList (x := ux) (y := uy) (by simpa using hux) (by simpa using huy) fun h' a1 a2 a3 a4 a5 a6 kk => ?_
    refine ⟨_, rfl, wpAny_letOwnedTupleGo_zip a1 fun h'' hz' hs' => ?_⟩
    have fr : H s.heap.objs.size = none := I.hok.fresh (Nat.le_refl _)
    have lt : ∀ {c : Addr} {o : Obj}, s.heap.get? c = some o → c ≠ s.heap.objs.size := fun e => Nat.ne_of_lt (Heap.lt_size e)
    have zlt : z ≠ s.heap.objs.size := lt hz
    have kp : ∀ c o, c ∉ ([z, TO, i1, i2] : List Addr) → s.heap.get? c = some o → h''.get? c = some o := fun c o hc' e => by
      simp only [List.mem_cons, List.not_mem_nil, or_false, not_or] at hc'
      exact hs'.extBut c o hc'.1 (kk c o hc'.1 hc'.2.1 hc'.2.2.1 hc'.2.2.2 e)
    have nch : ∀ {c : Addr} {o : HO}, H c = some o → c ∉ ([z, TO, i1, i2] : List Addr) := fun {c o} e hc' => by
      have : c ∈ ([z, TI, TO, i1, i2] : List Addr) := by
        simp only [List.mem_cons, List.not_mem_nil, or_false] at hc' ⊢
        rcases hc' with q | q | q | q
        · exact .inl q
        · exact .inr (.inr (.inl q))
        · exact .inr (.inr (.inr (.inl q)))
        · exact .inr (.inr (.inr (.inr q)))
      rw [(hf c this).1] at e; cases e
    have sub : ∀ c ∈ ([z, TO, i1, i2] : List Addr), c ∈ ([z, TI, TO, i1, i2] : List Addr) := fun c hc' => by
      simp only [List.mem_cons, List.not_mem_nil, or_false] at hc' ⊢
      rcases hc' with q | q | q | q
      · exact .inl q
      · exact .inr (.inr (.inl q))
      · exact .inr (.inr (.inr (.inl q)))
      · exact .inr (.inr (.inr (.inr q)))
    have neT : ∀ {c : Addr} {o : HO}, H c = some o → c ≠ s.heap.objs.size := fun e => ne_of_none e fr
    have hok : HOk X.prog X.w (upd H s.heap.objs.size (.tup [x, y])) h'' := fun c o e => by
      by_cases hcs : c = s.heap.objs.size
      · subst hcs
        rw [upd_same] at e
        cases e
        exact ⟨by show 2 ≤ sizeLine; decide, [ux, uy], .cons rux (.cons ruy .nil), ⟨_, hs'.extBut _ _ (Ne.symm zlt) a5, rfl, _, rfl⟩⟩
      · rw [upd_ne hcs] at e
        refine (I.hok c o e).stay (fun d v hd q => ?_) (fun d q => by rw [upd_ne (neT q)]; exact q) fun d zs q => by rw [upd_ne (neT q)]; exact q
        rcases hd with rfl | hd
        · exact kp _ v (nch e) q
        · exact kp _ v (nch hd) q
    have I' : Inv X pins σ (upd H s.heap.objs.size (.tup [x, y])) { s with heap := h'' } := by
      refine I.step (g' := s.gens) (d' := s.drawn) (t' := s.toks) (ch := [z, TO, i1, i2]) (fun c hc' => ⟨(hf c (sub c hc')).2.2.2.1, (hf c (sub c hc')).2.1, (hf c (sub c hc')).2.2.2.2.1, (hf c (sub c hc')).2.2.2.2.2⟩)
        (fun c o _ _ hc' e _ => kp c o hc' e) (fun c o _ _ hc' e _ => ⟨o.slots, kp c o hc' e⟩) (fun c o _ e n => by rw [upd_ne (lt e)]; exact n) (fun c o hc' e => ⟨o, kp c o hc' e⟩)
        (fun c zs e => by rw [upd_ne (neT e)]; exact e) (fun c o u e => by rw [upd_ne (neT e)]; exact e) (fun c ps e => ⟨#[], by rw [upd_ne (neT e), e]; simp⟩) (fun m hm => ?_) hok I.bare
      obtain ⟨o, es, ep, ho, r⟩ := hm
      refine ⟨o, es, ep, kp _ o (fun hc' => ?_) ho, r⟩
      exact (hf _ (sub _ hc')).2.1 rfl
    refine ⟨.ref s.heap.objs.size, _, I', rfl, ⟨s.heap.objs.size, x, y, fr, rfl, rfl, fun zs hz2 => by rw [I.list_inj hz2 hq]; exact hx, fun zs hz2 => by rw [I.list_inj hz2 hq2]; exact hy⟩, ?_, fun c hc' => ?_⟩
    · exact ⟨hz', hs'.extBut _ _ D.TIz (kk _ _ D.TIz D.TITO D.TIi1 D.TIi2 hTI), ⟨_, _, hs'.extBut _ _ D.TOz a2⟩, a3.extBut hs'.extBut D.i1z, a4.extBut hs'.extBut D.i2z⟩
    · have hcn := (hf c hc').1
      by_cases hcs : c = s.heap.objs.size
      · exfalso
        simp only [List.mem_cons, List.not_mem_nil, or_false] at hc'
        obtain ⟨o1, e1, _⟩ := h1
        obtain ⟨o2, e2, _⟩ := h2
        rcases hc' with q | q | q | q | q
        · exact lt hz (q ▸ hcs)
        · exact lt hTI (q ▸ hcs)
        · exact lt hTO (q ▸ hcs)
        · exact lt e1 (q ▸ hcs)
        · exact lt e2 (q ▸ hcs)
      · rw [upd_ne hcs]; exact hcn
  done := by
    intro X hP hw hK hc i pins s σ H E I hf st hg
    subst hP hw hK
    obtain ⟨hz, hTI, ⟨u, v, hTO⟩, h1, h2⟩ := st
    obtain ⟨xs, ys, hq, hq2, hl⟩ := hg
    obtain ⟨its, rv, p, _⟩ := I.list hq
    obtain ⟨its2, rv2, p2, _⟩ := I.list hq2
    have l1 := rv.length
    have l2 := rv2.length
    refine wpAny_pyNext_zip_end (I.ok.hd hc) D hz hTI hTO h1 h2 p.isList p2.isList (by rcases hl with q | q; exact .inl (by simp; omega); exact .inr (by simp; omega)) fun h' kk => ⟨rfl, ?_⟩
    have sub : ∀ c ∈ ([z, TO, i1, i2] : List Addr), c ∈ ([z, TI, TO, i1, i2] : List Addr) := fun c hc' => by
      simp only [List.mem_cons, List.not_mem_nil, or_false] at hc' ⊢
      rcases hc' with q | q | q | q
      · exact .inl q
      · exact .inr (.inr (.inl q))
      · exact .inr (.inr (.inr (.inl q)))
      · exact .inr (.inr (.inr (.inr q)))
    have kp : ∀ c o, c ∉ ([z, TO, i1, i2] : List Addr) → s.heap.get? c = some o → h'.get? c = some o := fun c o hc' e => by
      simp only [List.mem_cons, List.not_mem_nil, or_false, not_or] at hc'
      exact kk c o hc'.1 hc'.2.1 hc'.2.2.1 hc'.2.2.2 e
    have nch : ∀ {c : Addr} {o : HO}, H c = some o → c ∉ ([z, TO, i1, i2] : List Addr) := fun {c o} e hc' => by
      rw [(hf c (sub c hc')).1] at e; cases e
    refine I.step (g' := s.gens) (d' := s.drawn) (t' := s.toks) (ch := [z, TO, i1, i2]) (fun c hc' => ⟨(hf c (sub c hc')).2.2.2.1, (hf c (sub c hc')).2.1, (hf c (sub c hc')).2.2.2.2.1, (hf c (sub c hc')).2.2.2.2.2⟩)
      (fun c o _ _ hc' e _ => kp c o hc' e) (fun c o _ _ hc' e _ => ⟨o.slots, kp c o hc' e⟩) (fun c o _ e n => n) (fun c o hc' e => ⟨o, kp c o hc' e⟩)
      (fun c zs e => e) (fun c o u e => e) (fun c ps e => ⟨#[], by rw [e]; simp⟩) (fun m hm => ?_) (fun c o e => ?_) I.bare
    · obtain ⟨o, es, ep, ho, r⟩ := hm
      refine ⟨o, es, ep, kp _ o (fun hc' => ?_) ho, r⟩
      exact (hf _ (sub _ hc')).2.1 rfl
    · refine (I.hok c o e).stay (fun d v hd q => ?_) (fun d q => q) fun d zs q => q
      rcases hd with rfl | hd
      · exact kp _ v (nch e) q
      · exact kp _ v (nch hd) q
  self := fun _ _ _ _ _ st h => wpAny_pyIter_zip st.1 h
theorem nat_ne {a b : Nat} (h : a ≠ b) : (show Addr from a) ≠ (show Addr from b) := h
theorem zipApart_mk (n l1 l2 : Nat) (h1 : l1 < n) (h2 : l2 < n) : ZipApart (n + 4) (n + 2) (n + 3) n (n + 1) l1 l2 :=
  ⟨nat_ne (by omega), nat_ne (by omega), nat_ne (by omega), nat_ne (by omega), nat_ne (by omega), nat_ne (by omega), nat_ne (by omega), nat_ne (by omega), nat_ne (by omega), nat_ne (by omega), nat_ne (by omega), nat_ne (by omega), nat_ne (by omega), nat_ne (by omega), nat_ne (by omega), nat_ne (by omega), nat_ne (by omega), nat_ne (by omega)⟩
section
variable {X : Cx} {elts : List Expr} {x1 : Nat} {tpos : Pos}
def iZip2 (K : Fg) (ta : TA) : TI := fun σ H R => ta σ H fun vs H1 => ∃ a b, vs = [.ref a, .ref b] ∧ (∃ xs, SqL K H1 a xs) ∧ (∃ ys, SqL K H1 b ys) ∧ R (Itz K a b) H1
theorem boot_zip2 : bootBuiltins "zip" = some (.type "zip") := by kernel_rfl
theorem pi_zip {a b : Expr} {ta : TA} {p pos : Pos} (hg : Gl X "zip") (hm : X.mg "zip" = none) (ha : PA X [a, b] ta) (hs : starEach [a, b] X.env = [(false, eval a X.env), (false, eval b X.env)] := by rfl) (hs2 : starEach [b] X.env = [(false, eval b X.env)] := by rfl) :
    PI X (.Tuple elts x1 tpos) (.Call (.Name "zip" p) [a, b] [] pos) (iZip2 X.K ta) := by
  intro pins s σ H R I h
  refine Call_ (ld_blt I hg hm boot_zip2 (PyProof.Rows.callWith_type1 (thn (ha pos pins s σ H _ I h) fun us s1 ⟨vs, H1, I1, r1, q1⟩ => ?_) (by rw [hs, hs2]) (by rw [hs2]; rfl)) (by decide +kernel) (by decide +kernel))
  obtain ⟨l1, l2, e, ⟨xs, hx⟩, ⟨ys, hy⟩, q⟩ := q1
  subst e
  cases r1 with
  | cons r rr =>
    cases rr with
    | cons r' rr =>
      cases rr
      have e1 : _ = Value.ref l1 := r
      have e2 : _ = Value.ref l2 := r'
      subst e1 e2
      obtain ⟨its, rv, p1, _⟩ := I1.list hx
      obtain ⟨its2, rv2, p2, _⟩ := I1.list hy
      refine call_zip_2 p1.isList p2.isList fun h' hz hTI hTO hi1 hi2 hsz kp => ?_
      have lt1 : l1 < s1.heap.objs.size := by obtain ⟨o, e, _⟩ := p1.isList; exact Heap.lt_size e
      have lt2 : l2 < s1.heap.objs.size := by obtain ⟨o, e, _⟩ := p2.isList; exact Heap.lt_size e
      have I2 : Inv X pins σ H1 { s1 with heap := h' } := I1.kept (t' := s1.toks) fun c o e => kp c o e
      refine wpAny_pyIter_zip hz ?_
      refine ⟨s1.heap.objs.size + 4, [s1.heap.objs.size + 4, s1.heap.objs.size + 2, s1.heap.objs.size + 3, s1.heap.objs.size, s1.heap.objs.size + 1], _, _, H1, rfl, I2,
        turn_zip l1 l2 (s1.heap.objs.size + 4) (s1.heap.objs.size + 2) (s1.heap.objs.size + 3) s1.heap.objs.size (s1.heap.objs.size + 1) (zipApart_mk _ _ _ lt1 lt2),
        ⟨hz, hTI, ⟨_, _, hTO⟩, hi1, hi2⟩, fun c hc => ?_, q⟩
      have hc' : s1.heap.objs.size ≤ c := by
        simp only [List.mem_cons, List.not_mem_nil, or_false] at hc
        rcases hc with q | q | q | q | q <;> rw [q] <;> first | exact Nat.le_refl _ | exact Nat.le_add_right _ _
      exact I1.fpOk hc' (I1.hok.fresh hc')
theorem lstAt_rel {K : Fg} {ι : List Addr} {M : VM.Mem} {H : Hp} (R : Rel K ι M H) {w : VM.W} {v : V} {a : Nat} {o : VM.O} {xs : List VM.W} (e : VM.lstAt M w = some (a, o, xs)) (r : RV ι w v) :
    ∃ p vs, ι[a]? = some p ∧ v = .ref p ∧ SqL K H p vs ∧ (o = .lst xs ∨ o = .frz xs) := by
  cases w with
  | ref b =>
    obtain ⟨p, hp, rfl⟩ := r
    simp only [VM.lstAt] at e
    cases hm : M[b]? with
    | none => rw [hm] at e; cases e
    | some ob =>
      rw [hm] at e
      have ro := R.obj b p ob hp hm
      cases ob with
      | lst ys => cases e; obtain ⟨vs, h1, h2⟩ := ro; exact ⟨p, vs, hp, rfl, SqL.of h1, .inl rfl⟩
      | frz ys => cases e; obtain ⟨vs, h1, h2⟩ := ro; exact ⟨p, vs, hp, rfl, h1.sq, .inr rfl⟩
      | tup ys => cases e
  | non => cases e
  | bl _ => cases e
  | int _ => cases e
  | str _ => cases e
theorem pairs_get {xs ys : List VM.W} {i : Nat} {x : VM.Src} (h : (VM.pairs xs ys)[i]? = some x) : ∃ u v, xs[i]? = some u ∧ ys[i]? = some v ∧ x = .pair u v := by
  unfold VM.pairs at h
  rw [List.getElem?_zipWith] at h
  cases e1 : xs[i]? with
  | none => rw [e1] at h; cases h
  | some u =>
    cases e2 : ys[i]? with
    | none => rw [e1, e2] at h; cases h
    | some v => rw [e1, e2] at h; exact ⟨u, v, rfl, rfl, (Option.some.inj h).symm⟩
theorem itz_ok {K : Fg} {ι : List Addr} {a b : Nat} {p q : Addr} {o u : VM.O} {xs ys : List VM.W} (hp : ι[a]? = some p) (hq : ι[b]? = some q) (ho : o = .lst xs ∨ o = .frz xs) (hu : u = .lst ys ∨ u = .frz ys) : ItOk K ι (Itz K p q) (VM.pairs xs ys) [(a, o), (b, u)] := by
  have ck : ∀ {M : VM.Mem}, VM.Chk.ok [(a, o), (b, u)] M = true → M[a]? = some o ∧ M[b]? = some u := fun {M} h => by
    simpa [VM.Chk.ok] using h
  have look : ∀ {ι' M H} {a : Nat} {p : Addr} {o : VM.O} {xs : List VM.W}, ι'[a]? = some p → (o = .lst xs ∨ o = .frz xs) → Rel K ι' M H → M[a]? = some o → ∃ vs, SqL K H p vs ∧ RVs ι' xs vs := fun {ι' M H a p o xs} hp ho R hm => by
    have ro := R.obj a p o hp hm
    rcases ho with rfl | rfl
    · obtain ⟨vs, h1, h2⟩ := ro; exact ⟨vs, SqL.of h1, h2⟩
    · obtain ⟨vs, h1, h2⟩ := ro; exact ⟨vs, h1.sq, h2⟩
  refine ⟨fun i ι' M H x pre R hc hx => ?_, fun i ι' M H x v H' pre R hc hx y => ?_, fun i ι' M H pre R hc hi => ?_⟩
  · obtain ⟨c1, c2⟩ := ck hc
    obtain ⟨vs, h1, r1⟩ := look (get_pre pre hp) ho R c1
    obtain ⟨us, h2, r2⟩ := look (get_pre pre hq) hu R c2
    obtain ⟨w1, w2, e1, e2, _⟩ := pairs_get hx
    obtain ⟨v1, hv1, _⟩ := Paired.at r1 e1
    obtain ⟨v2, hv2, _⟩ := Paired.at r2 e2
    exact ⟨vs, v1, us, v2, h1, hv1, h2, hv2⟩
  · obtain ⟨c1, c2⟩ := ck hc
    obtain ⟨vs, h1, r1⟩ := look (get_pre pre hp) ho R c1
    obtain ⟨us, h2, r2⟩ := look (get_pre pre hq) hu R c2
    obtain ⟨w1, w2, e1, e2, rfl⟩ := pairs_get hx
    obtain ⟨v1, hv1, rv1⟩ := Paired.at r1 e1
    obtain ⟨v2, hv2, rv2⟩ := Paired.at r2 e2
    obtain ⟨T, x', y', hT, rfl, rfl, k1, k2⟩ := y
    have e3 := k1 vs h1
    have e4 := k2 us h2
    rw [hv1] at e3; cases e3
    rw [hv2] at e4; cases e4
    refine ⟨ι' ++ [T], .ref M.length, M ++ [.tup [w1, w2]], ⟨[T], rfl⟩, rfl, R.new (o := .tup [w1, w2]) hT fun ι2 pre2 => ⟨_, upd_same, .cons (rv1.mono pre2) (.cons (rv2.mono pre2) .nil)⟩, T, ?_, rfl⟩
    rw [← R.len]; simp
  · obtain ⟨c1, c2⟩ := ck hc
    obtain ⟨vs, h1, r1⟩ := look (get_pre pre hp) ho R c1
    obtain ⟨us, h2, r2⟩ := look (get_pre pre hq) hu R c2
    refine ⟨vs, us, h1, h2, ?_⟩
    have l1 := Paired.len r1
    have l2 := Paired.len r2
    have l3 : (VM.pairs xs ys).length = min xs.length ys.length := by simp [VM.pairs]
    rw [l3] at hi
    omega
theorem si_zip {a b : Expr} {m n : VM.EM} {p pos : Pos} {k : Nat} (hr : Room k X.A) (hm : X.mg "zip" = none) (ha : SE X a m) (hb : SE X b n) (hg : Gl X "zip" := by rfl) (hs : starEach [a, b] X.env = [(false, eval a X.env), (false, eval b X.env)] := by rfl) (hs2 : starEach [b] X.env = [(false, eval b X.env)] := by rfl) :
    SI X (.Tuple elts x1 tpos) (.Call (.Name "zip" p) [a, b] [] pos) (VM.iZip m n) := by
  obtain ⟨ta, pa, ka⟩ := ha
  obtain ⟨tb, pb, kb⟩ := hb
  refine ⟨_, pi_zip hg hm (pa_cons pa (pa_cons pb pa_nil hs2) (hs.trans (by rw [hs2]))) hs hs2, fun ι M H σ τ Q R S h => ?_⟩
  refine ka ι M H σ τ _ R S (Post.seq h fun ι1 H1 x M1 u p1 R1 r1 h1 => ?_)
  refine kb ι1 M1 H1 σ τ _ R1 (S.mono p1) (Post.seq h1 fun ι2 H2 y M2 v p2 R2 r2 h2 => ?_)
  have rx := r1.mono p2
  have h3 : Post (rI X.K) X.K ι2 (match VM.lstAt M2 x, VM.lstAt M2 y with | some (a, o, xs), some (b, q, ys) => .ok (VM.pairs xs ys, [(a, o), (b, q)]) M2 | _, _ => .bad) Q := h2
  cases ex : VM.lstAt M2 x with
  | none => rw [ex] at h3; exact (h3 : False).elim
  | some z1 =>
    cases ey : VM.lstAt M2 y with
    | none => rw [ex, ey] at h3; exact (h3 : False).elim
    | some z2 =>
      obtain ⟨a1, o1, xs⟩ := z1
      obtain ⟨a2, o2, ys⟩ := z2
      rw [ex, ey] at h3
      obtain ⟨q1, vs, hq1, rfl, s1, d1⟩ := lstAt_rel R2 ex rx
      obtain ⟨q2, us, hq2, rfl, s2, d2⟩ := lstAt_rel R2 ey r2
      exact ⟨q1, q2, rfl, ⟨vs, s1⟩, ⟨us, s2⟩, Post.ok h3 R2 (itz_ok hq1 hq2 d1 d2)⟩
end
end SV
end
section
set_option Elab.async false
set_option linter.all false
set_option autoImplicit false
set_option maxRecDepth 100000
set_option maxHeartbeats 4000000
namespace SV
open PySem PySem.Spec PyProof.Rows L2
/-! ### lists of ints -/
theorem ints_rel {ι : List Addr} : ∀ {ws : List VM.W} {vs : List V} {ns : List Int}, RVs ι ws vs → VM.intsOf ws = some ns → vs = ns.map V.int
  | _, _, _, .nil, e => by cases e; rfl
  | _, _, ns, .cons (a := w) r t, e => by
    cases w with
    | int i =>
      cases r
      simp only [VM.intsOf] at e
      cases e2 : VM.intsOf _ with
      | none => rw [e2] at e; cases e
      | some ms =>
        rw [e2] at e
        cases e
        rw [ints_rel t e2]; rfl
    | non => cases e
    | bl _ => cases e
    | str _ => cases e
    | ref _ => cases e
theorem intsAre_of : ∀ {ns : List Int} {its : List Value}, Vals (ns.map V.int) its → IntsAre its ns
  | [], _, .nil => .nil
  | n :: r, _, .cons h t => by
    obtain ⟨tk, rfl⟩ := (show ∃ t, _ = Value.int n t from h)
    exact .cons n tk (intsAre_of t)
section
variable {X : Cx}
theorem call_sum1 (hh : X.A.handled = none) : CallR X (.builtin "sum") (fun xs H Q => ∃ (p : Addr) (ns : List Int), xs = [.ref p] ∧ SqL X.K H p (ns.map V.int) ∧ Q (.int ns.sum) H) := by
  intro pins s σ H xs us Q I r h
  obtain ⟨p, ns, rfl, hs, q⟩ := h
  obtain ⟨u, rfl, rx⟩ := vals1 r
  cases rx
  obtain ⟨its, rv, pl, _⟩ := I.list hs
  have ia := intsAre_of rv
  obtain ⟨zs, ez⟩ := ia.allInts.items
  have hn : numsOf its.toArray.toList = ns := by rw [show its.toArray.toList = its from rfl]; exact ia.numsOf
  have hn2 : (zs.toList.map (·.1)) = ns := by rw [← nums_intItems, ← ez]; exact hn
  have hl : s.heap.IsList p (intItems zs) := by rw [← ez]; exact pl.isList
  refine sum_intListG hh hl fun h' tk t' hk => ?_
  refine ⟨.int ns.sum, H, I.kept (t' := tk) hk, ⟨t', ?_⟩, q⟩
  rw [preSum_eq, List.take_of_length_le (by simp), hn2]
theorem sc_sum (hh : X.A.handled = none) : SC X (.builtin "sum") VM.fSum := by
  refine ⟨_, call_sum1 hh, fun ι M H ws vs Q R r h => ?_⟩
  cases r with
  | nil => exact (h : False).elim
  | cons r1 t =>
    cases t with
    | cons _ _ => exact (h : False).elim
    | nil =>
      rename_i x v
      have q : Post RV X.K ι (match (VM.lstOf M x).bind VM.intsOf with | some ns => VM.R.ok (.int ns.sum) M | none => .bad) Q := h
      cases e : VM.lstOf M x with
      | none => rw [e] at q; exact (q : False).elim
      | some xs =>
        rw [e] at q
        obtain ⟨p, us, rfl, hs, r2⟩ := R.lstOf e r1
        have q2 : Post RV X.K ι (match VM.intsOf xs with | some ns => VM.R.ok (.int ns.sum) M | none => .bad) Q := q
        cases e2 : VM.intsOf xs with
        | none => rw [e2] at q2; exact (q2 : False).elim
        | some ns =>
          rw [e2] at q2
          have := ints_rel r2 e2
          subst this
          exact ⟨p, ns, rfl, hs, Post.ok (b := V.int _) q2 R rfl⟩
/-! ### len(set(xs)) -/
theorem ded_eq (ns : List Int) : firstMet (fun i => ns.getD i 0) ns.length = VM.ded ns := by
  unfold firstMet VM.ded
  have e : (List.range ns.length).map (fun i => ns.getD i 0) = ns := by
    apply List.ext_getElem
    · simp
    · intro i h1 h2
      have : i < ns.length := by simpa using h1
      simp [List.getD, this]
  rw [e]; rfl
theorem call_set1 (hh : X.A.handled = none) : CallR X (.type "set") (fun xs H Q => ∃ (p : Addr) (ns : List Int), xs = [.ref p] ∧ SqL X.K H p (ns.map V.int) ∧ ns.length < 4000 ∧ ∀ q, H q = none → Q (.ref q) (upd H q (.set (fun k' => (VM.ded ns).any (· == k')) (VM.ded ns).length))) := by
  intro pins s σ H xs us Q I r h
  obtain ⟨p, ns, rfl, hs, hl, q⟩ := h
  obtain ⟨u, rfl, rx⟩ := vals1 r
  cases rx
  obtain ⟨its, rv, pl, _⟩ := I.list hs
  have ia := intsAre_of rv
  have hlen := rv.length
  rw [List.length_map] at hlen
  refine call_set_list hh pl.isList (by simpa using ia) (by unfold scanBound; rw [List.size_toArray]; omega) fun h' tk hS hk => ?_
  have esz : its.toArray.size = ns.length := by rw [List.size_toArray, hlen]
  rw [esz, ded_eq] at hS
  have I' := I.laid (h' := h') (t' := tk) (o := .set (fun k' => (VM.ded ns).any (· == k')) (VM.ded ns).length) (fun b o e => hk b o (Heap.lt_size e) e) (Nat.le_refl _) hS
  exact ⟨.ref s.heap.objs.size, _, I', rfl, q _ (I.hok.fresh (Nat.le_refl _))⟩
theorem call_lenS : CallR X (.builtin "len") (fun xs H Q => ∃ p S n, xs = [.ref p] ∧ H p = some (.set S n) ∧ n < 4000 ∧ Q (.int n) H) := by
  intro pins s σ H xs us Q I r h
  obtain ⟨p, S, n, rfl, hs, hl, q⟩ := h
  obtain ⟨u, rfl, rx⟩ := vals1 r
  cases rx
  obtain ⟨o, es, ep, tb, ho, hex, hd, _, _, _, hf, hn⟩ := (show s.heap.SetOf (intKind X.prog X.w) p S n from I.hok p _ hs)
  subst hn
  exact call_len_set ho hex hd hf (by omega) ⟨.int es.size, H, I.tok _, ⟨_, rfl⟩, q⟩
theorem se_lenset {a : Expr} {m : VM.EM} {k : Nat} {p p2 pos pos2 : Pos} (hr : Room k X.A) (hml : X.mg "len" = none) (hms : X.mg "set" = none) (ha : SE X a m) (hgl : Gl X "len" := by rfl) (hgs : Gl X "set" := by rfl)
    (he : starEach [a] X.env = (false, eval a X.env) :: starEach [] X.env := by rfl) (hpl : (backTo pos2 (starEach [] X.env)).any (·.1) = false := by rfl)
    (he2 : starEach [.Call (.Name "set" p2) [a] [] pos2] X.env = (false, eval (.Call (.Name "set" p2) [a] [] pos2) X.env) :: starEach [] X.env := by rfl) (hpl2 : (backTo pos (starEach [] X.env)).any (·.1) = false := by rfl) :
    SE X (.Call (.Name "len" p) [.Call (.Name "set" p2) [a] [] pos2] [] pos) (VM.eLenSet m) := by
  obtain ⟨ta, pa, ka⟩ := ha
  refine ⟨_, pe_callB call_lenS hgl hml PySem.boot_len (pa_cons (pe_callTy (call_set1 hr.hd) hgs hms (by kernel_rfl) (pa_cons pa pa_nil he) (by decide +kernel) (by decide +kernel) he hpl) pa_nil he2) (by decide +kernel) (by decide +kernel) he2 hpl2, fun ι M H σ τ Q R S h => ?_⟩
  refine ka ι M H σ τ _ R S (Post.seq h fun ι1 H1 x M1 u p1 R1 r1 h1 => ?_)
  have q : Post RV X.K ι1 (match (VM.lstOf M1 x).bind VM.intsOf with | some ns => (if ns.length < 4000 then VM.R.ok (.int (VM.ded ns).length) M1 else .bad) | none => .bad) Q := h1
  cases e : VM.lstOf M1 x with
  | none => rw [e] at q; exact (q : False).elim
  | some xs =>
    rw [e] at q
    obtain ⟨pp, us, rfl, hs, r2⟩ := R1.lstOf e r1
    have q2 : Post RV X.K ι1 (match VM.intsOf xs with | some ns => (if ns.length < 4000 then VM.R.ok (.int (VM.ded ns).length) M1 else .bad) | none => .bad) Q := q
    cases e2 : VM.intsOf xs with
    | none => rw [e2] at q2; exact (q2 : False).elim
    | some ns =>
      rw [e2] at q2
      have q3 : Post RV X.K ι1 (if ns.length < 4000 then VM.R.ok (.int (VM.ded ns).length) M1 else .bad) Q := q2
      have := ints_rel r2 e2
      subst this
      by_cases hl : ns.length < 4000
      · rw [if_pos hl] at q3
        refine ⟨pp, ns, rfl, hs, hl, fun q' hq' => ⟨q', _, _, rfl, upd_same, ?_, Post.ok (b := V.int _) q3 (R1.other hq' _) rfl⟩⟩
        exact Nat.lt_of_le_of_lt (by rw [← ded_eq]; exact firstMet_length_le _ _) hl
      · rw [if_neg hl] at q3; exact (q3 : False).elim
/-! ### xs.count(x), flat -/
theorem countP_rel {ι : List Addr} {x : VM.W} {v : V} (rx : RV ι x v) (hx : VM.flat x = true) : ∀ {xs : List VM.W} {vs : List V}, RVs ι xs vs → xs.all VM.flat = true → (vs.countP fun y => eqV y v) = xs.countP fun z => VM.eqW z x
  | _, _, .nil, _ => rfl
  | _, _, .cons r t, h => by
    rw [List.all_cons, Bool.and_eq_true] at h
    have ih := countP_rel rx hx t h.2
    rw [List.countP_cons, List.countP_cons, ih, RV.eqW r rx h.1 hx]
theorem countP_eqU {x : V} : ∀ {xs : List V} {us : List Value}, Vals xs us → xs.all flatV = true → us.countP (eqU x) = xs.countP fun y => eqV y x
  | _, _, .nil, _ => rfl
  | _, _, .cons r t, f => by
    rw [List.all_cons, Bool.and_eq_true] at f
    rw [List.countP_cons, List.countP_cons, countP_eqU t f.2, eqU_of r f.1]
def rCount (K : Fg) : V → List V → Hp → VK → Prop := fun x vs H Q => ∃ p xs y, x = .ref p ∧ vs = [y] ∧ H p = some (.lst xs) ∧ flatV y = true ∧ xs.all flatV = true ∧ Q (.int (xs.countP fun z => eqV z y)) H
theorem mt_count : MtR X "list.count" (rCount X.K) := by
  intro pins s σ H x vs v us Q I rx rv h
  obtain ⟨p, xs, y, rfl, rfl, hH, fy, fs, q⟩ := h
  cases rx
  obtain ⟨u, rfl, ru⟩ := rv.one
  obtain ⟨z, its, n, r, hl, e⟩ := I.lstM hH
  refine call_meets F.slot_list_count ⟨_, e, rfl⟩ F.entry_list_count (F.args_list_count_2 _ _) (SeqAt.list_countAt p its.toArray n none #[] u (eqU y)) ⟨e, fun w' hw => mem_eqAt ru fy r fs w' (by simpa using hw), ?_⟩
  refine ⟨.int (xs.countP fun z => eqV z y), H, I.tok _, ⟨s.toks, ?_⟩, q⟩
  rw [show its.toArray.toList = its from rfl, countP_eqU r fs]
theorem sm_count : SM X "list.count" VM.mCount := by
  refine ⟨_, mt_count, fun ι M H x v ws vs Q R rx r h => ?_⟩
  cases r with
  | nil => exact (h : False).elim
  | cons r1 t =>
    cases t with
    | cons _ _ => exact (h : False).elim
    | nil =>
      rename_i y u
      have q : Post RV X.K ι (match VM.mutOf M x with | some (_, xs) => (if (VM.flat y && xs.all VM.flat) = true then .ok (.int (xs.countP fun z => VM.eqW z y)) M else .bad) | none => .bad) Q := by
        unfold VM.mCount at h
        cases e : VM.mutOf M x with
        | none => rw [e] at h; exact h
        | some z => rw [e] at h; exact h
      cases e : VM.mutOf M x with
      | none => rw [e] at q; exact (q : False).elim
      | some z =>
        obtain ⟨a, xs⟩ := z
        rw [e] at q
        have q2 : Post RV X.K ι (if (VM.flat y && xs.all VM.flat) = true then .ok (.int (xs.countP fun z => VM.eqW z y)) M else .bad) Q := q
        obtain ⟨p, us, rfl, hp, hm, rfl, h1, r2⟩ := R.mutOf e rx
        by_cases hf : (VM.flat y && xs.all VM.flat) = true
        · rw [if_pos hf] at q2
          rw [Bool.and_eq_true] at hf
          refine ⟨⟨p, us, rfl, SqL.of h1⟩, p, us, u, rfl, rfl, h1, r1.flat hf.1, RVs.flat r2 hf.2, ?_⟩
          rw [countP_rel r1 hf.1 r2 hf.2]
          exact Post.ok (b := V.int _) q2 R rfl
        · rw [if_neg hf] at q2; exact (q2 : False).elim
end
end SV
end
set_option Elab.async false
set_option linter.all false
set_option autoImplicit false
set_option maxRecDepth 100000
set_option maxHeartbeats 4000000
namespace D_K2
open PySem PySem.Spec PyProof.Rows L2 SV
def top (i : Nat) : Stmt := PySem.Challenge.pw_bedsheet_k02_fills.main.body.getD i (.Pass ⟨0, 0, 0, 0⟩)
abbrev s_row_fields : Stmt := top 4
abbrev s_column_fields : Stmt := top 5
abbrev s_box_fields : Stmt := top 6
abbrev s_groups_of : Stmt := top 7
abbrev s_refuse_no_sheet : Stmt := top 8
abbrev s_keeps_numbers : Stmt := top 9
abbrev s_has_twice : Stmt := top 10
abbrev s_fills : Stmt := top 11
abbrev s_L_whole : Stmt := top 13
abbrev s_L_at : Stmt := top 14
abbrev s_L_same : Stmt := top 15
abbrev s_L_shape_of : Stmt := top 16
abbrev s_L_all_groups : Stmt := top 17
abbrev s_L_full_sheet : Stmt := top 18
abbrev s_L_sheet_by : Stmt := top 19
abbrev s_L_no_twice : Stmt := top 20
abbrev s_L_is_filled_by : Stmt := top 21
abbrev s_L_shape_for : Stmt := top 22
abbrev s_law : Stmt := top 23
section
variable {P : Program} {w : World} {K : Fg} {mg : Str → Option Value} {base : Heap} {k : Nat} {c : VM.CE}
theorem sc_row_fields : FnScope ["size", "row"] ["size", "row"] (defScope s_row_fields) := ⟨rfl, rfl, rfl, by decide +kernel, rfl, by decide +kernel, by decide +kernel⟩
theorem ok_row_fields {f : Addr} {fd : FuncData} (F : Fun K "row_fields" "row_fields" s_row_fields f fd) (hm : mg "row_fields" = some (.ref f)) (hb : Binds K fd ["size", "row"] []) (m_range : mg "range" = none) :
    FnV P w K mg base (k + 1) "row_fields" f fd ["size", "row"] (K2.d_row_fields) :=
  fnv_mk F sc_row_fields hm hb fun cdv A outer s H E hr => by
    have hu := hr.units0
    exact (sss_one (ss_ret (se_comp (ex := ["column"]) (cl := []) (blk_mk (by kernel_rfl) (by decide +kernel) rfl (by decide +kernel) (by kernel_rfl)) rfl (si_rng1 m_range (se_var 0)) (fun C' s' H' fp' => (sg_name (i := 2) (show List.Nodup (α := Str) ["size", "row", "column"] by decide +kernel))) (fun C' s' H' fp' => sifs_nil) (fun C' s' H' fp' => (se_op so_add (se_op so_mul (se_var 1) (se_var 0)) (se_var 2))))))
theorem sc_column_fields : FnScope ["size", "column"] ["size", "column"] (defScope s_column_fields) := ⟨rfl, rfl, rfl, by decide +kernel, rfl, by decide +kernel, by decide +kernel⟩
theorem ok_column_fields {f : Addr} {fd : FuncData} (F : Fun K "column_fields" "column_fields" s_column_fields f fd) (hm : mg "column_fields" = some (.ref f)) (hb : Binds K fd ["size", "column"] []) (m_range : mg "range" = none) :
    FnV P w K mg base (k + 1) "column_fields" f fd ["size", "column"] (K2.d_column_fields) :=
  fnv_mk F sc_column_fields hm hb fun cdv A outer s H E hr => by
    have hu := hr.units0
    exact (sss_one (ss_ret (se_comp (ex := ["row"]) (cl := []) (blk_mk (by kernel_rfl) (by decide +kernel) rfl (by decide +kernel) (by kernel_rfl)) rfl (si_rng1 m_range (se_var 0)) (fun C' s' H' fp' => (sg_name (i := 2) (show List.Nodup (α := Str) ["size", "column", "row"] by decide +kernel))) (fun C' s' H' fp' => sifs_nil) (fun C' s' H' fp' => (se_op so_add (se_op so_mul (se_var 2) (se_var 0)) (se_var 1))))))
theorem sc_box_fields : FnScope ["high", "wide", "box", "size", "top", "left", "fields", "row", "column"] ["high", "wide", "box"] (defScope s_box_fields) := ⟨rfl, rfl, rfl, by decide +kernel, rfl, by decide +kernel, by decide +kernel⟩
theorem ok_box_fields {f : Addr} {fd : FuncData} (F : Fun K "box_fields" "box_fields" s_box_fields f fd) (hm : mg "box_fields" = some (.ref f)) (hb : Binds K fd ["high", "wide", "box"] []) (m_range : mg "range" = none) :
    FnV P w K mg base (k + 1) "box_fields" f fd ["high", "wide", "box"] (K2.d_box_fields) :=
  fnv_mk F sc_box_fields hm hb fun cdv A outer s H E hr => by
    have hu := hr.units0
    exact (sss_cons (ss_set (i := 3) sc_box_fields.nd (se_op so_mul (se_var 0) (se_var 1)))
      (sss_cons (ss_set (i := 4) sc_box_fields.nd (se_op so_mul (se_op so_div (se_var 2) (se_var 0)) (se_var 0)))
      (sss_cons (ss_set (i := 5) sc_box_fields.nd (se_op so_mul (se_op so_mod (se_var 2) (se_var 0)) (se_var 1)))
      (sss_cons (ss_set (i := 6) sc_box_fields.nd (se_lst sa_nil))
      (sss_cons (ss_for PassesOwn.never rfl (si_rng2 m_range (se_var 4) (se_op so_add (se_var 4) (se_var 0))) (sg_name (i := 7) sc_box_fields.nd) (sss_one (ss_for PassesOwn.never rfl (si_rng2 m_range (se_var 5) (se_op so_add (se_var 5) (se_var 1))) (sg_name (i := 8) sc_box_fields.nd) (sss_one (ss_expr (se_meth PySem.F.slot_list_append PySem.F.type_list_append sm_append (se_var 6) (sa_cons (se_op so_add (se_op so_mul (se_var 7) (se_var 3)) (se_var 8)) sa_nil)))))))
      (sss_one (ss_ret (se_var 6))))))))
theorem sc_groups_of : FnScope ["high", "wide", "size", "rows", "columns", "boxes"] ["high", "wide"] (defScope s_groups_of) := ⟨rfl, rfl, rfl, by decide +kernel, rfl, by decide +kernel, by decide +kernel⟩
theorem ok_groups_of {f : Addr} {fd : FuncData} (F : Fun K "groups_of" "groups_of" s_groups_of f fd) (hm : mg "groups_of" = some (.ref f)) (hb : Binds K fd ["high", "wide"] []) {f_box_fields : Addr} {fd_box_fields : FuncData} (G_box_fields : FnV P w K mg base k "box_fields" f_box_fields fd_box_fields ["high", "wide", "box"] (c 2)) {f_column_fields : Addr} {fd_column_fields : FuncData} (G_column_fields : FnV P w K mg base k "column_fields" f_column_fields fd_column_fields ["size", "column"] (c 1)) {f_row_fields : Addr} {fd_row_fields : FuncData} (G_row_fields : FnV P w K mg base k "row_fields" f_row_fields fd_row_fields ["size", "row"] (c 0)) (m_range : mg "range" = none) :
    FnV P w K mg base (k + 1) "groups_of" f fd ["high", "wide"] (K2.d_groups_of (c 0) (c 1) (c 2)) :=
  fnv_mk F sc_groups_of hm hb fun cdv A outer s H E hr => by
    have hu := hr.units0
    exact (sss_cons (ss_set (i := 2) sc_groups_of.nd (se_op so_mul (se_var 0) (se_var 1)))
      (sss_cons (ss_setc (i := 3) (ex := ["row"]) (cl := []) sc_groups_of.nd (blk_mk (by kernel_rfl) (by decide +kernel) rfl (by decide +kernel) (by kernel_rfl)) rfl (si_rng1 m_range (se_var 2)) (fun C' s' H' fp' => (sg_name (i := 6) (show List.Nodup (α := Str) ["high", "wide", "size", "rows", "columns", "boxes", "row"] by decide +kernel))) (fun C' s' H' fp' => sifs_nil) (fun C' s' H' fp' => (se_call G_row_fields hr (sa_cons (se_var 2) (sa_cons (se_var 6) sa_nil)))))
      (sss_cons (ss_setc (i := 4) (ex := ["column"]) (cl := []) sc_groups_of.nd (blk_mk (by kernel_rfl) (by decide +kernel) rfl (by decide +kernel) (by kernel_rfl)) rfl (si_rng1 m_range (se_var 2)) (fun C' s' H' fp' => (sg_name (i := 6) (show List.Nodup (α := Str) ["high", "wide", "size", "rows", "columns", "boxes", "column"] by decide +kernel))) (fun C' s' H' fp' => sifs_nil) (fun C' s' H' fp' => (se_call G_column_fields hr (sa_cons (se_var 2) (sa_cons (se_var 6) sa_nil)))))
      (sss_cons (ss_setc (i := 5) (ex := ["box"]) (cl := []) sc_groups_of.nd (blk_mk (by kernel_rfl) (by decide +kernel) rfl (by decide +kernel) (by kernel_rfl)) rfl (si_rng1 m_range (se_var 2)) (fun C' s' H' fp' => (sg_name (i := 6) (show List.Nodup (α := Str) ["high", "wide", "size", "rows", "columns", "boxes", "box"] by decide +kernel))) (fun C' s' H' fp' => sifs_nil) (fun C' s' H' fp' => (se_call G_box_fields hr (sa_cons (se_var 0) (sa_cons (se_var 1) (sa_cons (se_var 6) sa_nil))))))
      (sss_one (ss_ret (se_op so_add (se_op so_add (se_var 3) (se_var 4)) (se_var 5))))))))
theorem sc_refuse_no_sheet : FnScope ["high", "wide", "sheet", "size", "number"] ["high", "wide", "sheet"] (defScope s_refuse_no_sheet) := ⟨rfl, rfl, rfl, by decide +kernel, rfl, by decide +kernel, by decide +kernel⟩
theorem ok_refuse_no_sheet {f : Addr} {fd : FuncData} (F : Fun K "refuse_no_sheet" "refuse_no_sheet" s_refuse_no_sheet f fd) (hm : mg "refuse_no_sheet" = some (.ref f)) (hb : Binds K fd ["high", "wide", "sheet"] []) (m_len : mg "len" = none) :
    FnV P w K mg base (k + 1) "refuse_no_sheet" f fd ["high", "wide", "sheet"] (K2.d_refuse_no_sheet) :=
  fnv_mk F sc_refuse_no_sheet hm hb fun cdv A outer s H E hr => by
    have hu := hr.units0
    exact (sss_cons (ss_set (i := 3) sc_refuse_no_sheet.nd (se_op so_mul (se_var 0) (se_var 1)))
      (sss_cons (ss_if (st_cmp (so_ne hu) (se_callB sc_len m_len (sa_cons (se_var 2) sa_nil)) (se_op so_mul (se_var 3) (se_var 3)) rfl) (sss_one ss_never) sss_nil)
      (sss_one (ss_for PassesOwn.never rfl (si_seq (se_var 2)) (sg_name (i := 4) sc_refuse_no_sheet.nd) (sss_one (ss_if (st_bool (sw_or (st_cmp so_lt (se_var 4) se_int rfl) (sw_or1 (st_cmp so_gt (se_var 4) (se_var 3) rfl)))) (sss_one ss_never) sss_nil))))))
theorem sc_keeps_numbers : FnScope ["sheet", "filled", "number", "other"] ["sheet", "filled"] (defScope s_keeps_numbers) := ⟨rfl, rfl, rfl, by decide +kernel, rfl, by decide +kernel, by decide +kernel⟩
theorem ok_keeps_numbers {f : Addr} {fd : FuncData} (F : Fun K "keeps_numbers" "keeps_numbers" s_keeps_numbers f fd) (hm : mg "keeps_numbers" = some (.ref f)) (hb : Binds K fd ["sheet", "filled"] []) (m_zip : mg "zip" = none) :
    FnV P w K mg base (k + 1) "keeps_numbers" f fd ["sheet", "filled"] (K2.d_keeps_numbers) :=
  fnv_mk F sc_keeps_numbers hm hb fun cdv A outer s H E hr => by
    have hu := hr.units0
    exact (sss_cons (ss_for PassesOwn.never rfl (si_zip hr m_zip (se_var 0) (se_var 1)) (sg_tup rfl (sgs_cons (sg_name (i := 2) sc_keeps_numbers.nd) (sgs_cons (sg_name (i := 3) sc_keeps_numbers.nd) sgs_nil))) (sss_one (ss_if (st_bool (sw_and (st_cmp (so_ne hu) (se_var 2) se_int rfl) (sw_and1 (st_cmp (so_ne hu) (se_var 2) (se_var 3) rfl)))) (sss_one (ss_ret se_bl)) sss_nil)))
      (sss_one (ss_ret se_bl)))
theorem sc_has_twice : FnScope ["group", "filled", "numbers"] ["group", "filled"] (defScope s_has_twice) := ⟨rfl, rfl, rfl, by decide +kernel, rfl, by decide +kernel, by decide +kernel⟩
theorem ok_has_twice {f : Addr} {fd : FuncData} (F : Fun K "has_twice" "has_twice" s_has_twice f fd) (hm : mg "has_twice" = some (.ref f)) (hb : Binds K fd ["group", "filled"] []) (m_len : mg "len" = none) (m_set : mg "set" = none) :
    FnV P w K mg base (k + 1) "has_twice" f fd ["group", "filled"] (K2.d_has_twice) :=
  fnv_mk F sc_has_twice hm hb fun cdv A outer s H E hr => by
    have hu := hr.units0
    exact (sss_cons (ss_setc (i := 2) (ex := ["field"]) (cl := []) sc_has_twice.nd (blk_mk (by kernel_rfl) (by decide +kernel) rfl (by decide +kernel) (by kernel_rfl)) rfl (si_seq (se_var 0)) (fun C' s' H' fp' => (sg_name (i := 3) (show List.Nodup (α := Str) ["group", "filled", "numbers", "field"] by decide +kernel))) (fun C' s' H' fp' => sifs_nil) (fun C' s' H' fp' => (se_ix (se_var 1) (se_var 3))))
      (sss_one (ss_ret (se_cmp so_lt (se_lenset hr m_len m_set (se_var 2)) (se_callB sc_len m_len (sa_cons (se_var 2) sa_nil)) rfl))))
theorem sc_fills : FnScope ["high", "wide", "sheet", "filled", "group"] ["high", "wide", "sheet", "filled"] (defScope s_fills) := ⟨rfl, rfl, rfl, by decide +kernel, rfl, by decide +kernel, by decide +kernel⟩
theorem ok_fills {f : Addr} {fd : FuncData} (F : Fun K "fills" "fills" s_fills f fd) (hm : mg "fills" = some (.ref f)) (hb : Binds K fd ["high", "wide", "sheet", "filled"] []) {f_groups_of : Addr} {fd_groups_of : FuncData} (G_groups_of : FnV P w K mg base k "groups_of" f_groups_of fd_groups_of ["high", "wide"] (c 3)) {f_has_twice : Addr} {fd_has_twice : FuncData} (G_has_twice : FnV P w K mg base k "has_twice" f_has_twice fd_has_twice ["group", "filled"] (c 6)) {f_keeps_numbers : Addr} {fd_keeps_numbers : FuncData} (G_keeps_numbers : FnV P w K mg base k "keeps_numbers" f_keeps_numbers fd_keeps_numbers ["sheet", "filled"] (c 5)) {f_refuse_no_sheet : Addr} {fd_refuse_no_sheet : FuncData} (G_refuse_no_sheet : FnV P w K mg base k "refuse_no_sheet" f_refuse_no_sheet fd_refuse_no_sheet ["high", "wide", "sheet"] (c 4)) :
    FnV P w K mg base (k + 1) "fills" f fd ["high", "wide", "sheet", "filled"] (K2.d_fills (c 3) (c 4) (c 5) (c 6)) :=
  fnv_mk F sc_fills hm hb fun cdv A outer s H E hr => by
    have hu := hr.units0
    exact (sss_cons (ss_expr (se_call G_refuse_no_sheet hr (sa_cons (se_var 0) (sa_cons (se_var 1) (sa_cons (se_var 2) sa_nil)))))
      (sss_cons (ss_expr (se_call G_refuse_no_sheet hr (sa_cons (se_var 0) (sa_cons (se_var 1) (sa_cons (se_var 3) sa_nil)))))
      (sss_cons (ss_if (st_bool (sw_or (st_cmp so_in se_int (se_var 3) rfl) (sw_or1 (st_not (st_val (se_call G_keeps_numbers hr (sa_cons (se_var 2) (sa_cons (se_var 3) sa_nil)))))))) (sss_one (ss_ret se_bl)) sss_nil)
      (sss_cons (ss_for PassesOwn.never rfl (si_seq (se_call G_groups_of hr (sa_cons (se_var 0) (sa_cons (se_var 1) sa_nil)))) (sg_name (i := 4) sc_fills.nd) (sss_one (ss_if (st_val (se_call G_has_twice hr (sa_cons (se_var 4) (sa_cons (se_var 3) sa_nil)))) (sss_one (ss_ret se_bl)) sss_nil)))
      (sss_one (ss_ret se_bl))))))
theorem sc_L_whole : FnScope ["_law_found"] ["_law_found"] (defScope s_L_whole) := ⟨rfl, rfl, rfl, by decide +kernel, rfl, by decide +kernel, by decide +kernel⟩
theorem ok_L_whole {f : Addr} {fd : FuncData} (F : Fun K "_law_whole" "_law_whole" s_L_whole f fd) (hm : mg "_law_whole" = some (.ref f)) (hb : Binds K fd ["_law_found"] []) (m_isinstance : mg "isinstance" = none) (m_bool : mg "bool" = none) (m_int : mg "int" = none) :
    FnV P w K mg base (k + 1) "_law_whole" f fd ["_law_found"] (K2.d_L_whole) :=
  fnv_mk F sc_L_whole hm hb fun cdv A outer s H E hr => by
    have hu := hr.units0
    exact (sss_one (ss_ret (se_and (se_isi .int m_isinstance m_int (se_var 0)) (se_one (se_not (se_isi .bool m_isinstance m_bool (se_var 0)))))))
theorem sc_L_at : FnScope ["_law_script", "_law_k"] ["_law_script", "_law_k"] (defScope s_L_at) := ⟨rfl, rfl, rfl, by decide +kernel, rfl, by decide +kernel, by decide +kernel⟩
theorem ok_L_at {f : Addr} {fd : FuncData} (F : Fun K "_law_at" "_law_at" s_L_at f fd) (hm : mg "_law_at" = some (.ref f)) (hb : Binds K fd ["_law_script", "_law_k"] []) (m_len : mg "len" = none) :
    FnV P w K mg base (k + 1) "_law_at" f fd ["_law_script", "_law_k"] (K2.d_L_at) :=
  fnv_mk F sc_L_at hm hb fun cdv A outer s H E hr => by
    have hu := hr.units0
    exact (sss_cons (ss_if (st_cmp (so_eq hu) (se_var 0) (se_lst sa_nil) rfl) (sss_one (ss_ret se_int)) sss_nil)
      (sss_one (ss_ret (se_op so_add (se_ix (se_var 0) (se_op so_mod (se_var 1) (se_callB sc_len m_len (sa_cons (se_var 0) sa_nil)))) (se_op so_mul se_int (se_op so_div (se_var 1) (se_callB sc_len m_len (sa_cons (se_var 0) sa_nil))))))))
theorem sc_L_same : FnScope ["_law_found", "_law_due", "_law_left", "_law_right", "_law_one", "_law_two"] ["_law_found", "_law_due"] (defScope s_L_same) := ⟨rfl, rfl, rfl, by decide +kernel, rfl, by decide +kernel, by decide +kernel⟩
theorem ok_L_same {f : Addr} {fd : FuncData} (F : Fun K "_law_same" "_law_same" s_L_same f fd) (hm : mg "_law_same" = some (.ref f)) (hb : Binds K fd ["_law_found", "_law_due"] []) {f__law_whole : Addr} {fd__law_whole : FuncData} (G__law_whole : FnV P w K mg base k "_law_whole" f__law_whole fd__law_whole ["_law_found"] (c 8)) (m_tuple : mg "tuple" = none) (m_list : mg "list" = none) (m_isinstance : mg "isinstance" = none) (m_len : mg "len" = none) (m_bool : mg "bool" = none) (m_str : mg "str" = none) :
    FnV P w K mg base (k + 1) "_law_same" f fd ["_law_found", "_law_due"] (K2.d_L_same (c 8)) :=
  fnv_mk F sc_L_same hm hb fun cdv A outer s H E hr => by
    have hu := hr.units0
    exact (sss_cons (ss_set (i := 2) sc_L_same.nd (se_lst (sa_cons (se_var 0) sa_nil)))
      (sss_cons (ss_set (i := 3) sc_L_same.nd (se_lst (sa_cons (se_var 1) sa_nil)))
      (sss_cons (ss_while (n := 1000000) PassesOwn.never (st_cmp (so_ne hu) (se_var 3) (se_lst sa_nil) rfl) (sss_cons (ss_set (i := 4) sc_L_same.nd (se_meth0 PySem.F.slot_list_pop PySem.F.type_list_pop sm_pop (se_var 2)))
      (sss_cons (ss_set (i := 5) sc_L_same.nd (se_meth0 PySem.F.slot_list_pop PySem.F.type_list_pop sm_pop (se_var 3)))
      (sss_one (ss_if (st_val (se_isiT m_isinstance (se_var 5) (scls_cons .list m_list (scls_cons .tuple m_tuple scls_nil)))) (sss_cons (ss_if (st_cmp (so_ne hu) (se_isi .list m_isinstance m_list (se_var 4)) (se_isi .list m_isinstance m_list (se_var 5)) rfl) (sss_one (ss_ret se_bl)) sss_nil)
      (sss_cons (ss_if (st_bool (sw_or (st_cmp (so_ne hu) (se_isi .tuple m_isinstance m_tuple (se_var 4)) (se_isi .tuple m_isinstance m_tuple (se_var 5)) rfl) (sw_or1 (st_cmp (so_ne hu) (se_callB sc_len m_len (sa_cons (se_var 4) sa_nil)) (se_callB sc_len m_len (sa_cons (se_var 5) sa_nil)) rfl)))) (sss_one (ss_ret se_bl)) sss_nil)
      (sss_cons (ss_expr (se_meth PySem.F.slot_list_extend PySem.F.type_list_extend sm_extend (se_var 2) (sa_cons (se_var 4) sa_nil)))
      (sss_one (ss_expr (se_meth PySem.F.slot_list_extend PySem.F.type_list_extend sm_extend (se_var 3) (sa_cons (se_var 5) sa_nil))))))) (sss_one (ss_if (st_isN (se_var 5)) (sss_one (ss_if (st_notN (se_var 4)) (sss_one (ss_ret se_bl)) sss_nil)) (sss_one (ss_if (st_val (se_isi .bool m_isinstance m_bool (se_var 5))) (sss_one (ss_if (st_bool (sw_or (st_not (st_val (se_isi .bool m_isinstance m_bool (se_var 4)))) (sw_or1 (st_cmp (so_ne hu) (se_var 4) (se_var 5) rfl)))) (sss_one (ss_ret se_bl)) sss_nil)) (sss_one (ss_if (st_val (se_isi .str m_isinstance m_str (se_var 5))) (sss_one (ss_if (st_bool (sw_or (st_not (st_val (se_isi .str m_isinstance m_str (se_var 4)))) (sw_or1 (st_cmp (so_ne hu) (se_var 4) (se_var 5) rfl)))) (sss_one (ss_ret se_bl)) sss_nil)) (sss_one (ss_if (st_bool (sw_or (st_not (st_val (se_call G__law_whole hr (sa_cons (se_var 4) sa_nil)))) (sw_or1 (st_cmp (so_ne hu) (se_var 4) (se_var 5) rfl)))) (sss_one (ss_ret se_bl)) sss_nil)))))))))))))
      (sss_one (ss_ret se_bl)))))
theorem sc_L_shape_of : FnScope ["_law_cell"] ["_law_cell"] (defScope s_L_shape_of) := ⟨rfl, rfl, rfl, by decide +kernel, rfl, by decide +kernel, by decide +kernel⟩
theorem ok_L_shape_of {f : Addr} {fd : FuncData} (F : Fun K "_law_shape_of" "_law_shape_of" s_L_shape_of f fd) (hm : mg "_law_shape_of" = some (.ref f)) (hb : Binds K fd ["_law_cell"] []) :
    FnV P w K mg base (k + 1) "_law_shape_of" f fd ["_law_cell"] (K2.d_L_shape_of) :=
  fnv_mk F sc_L_shape_of hm hb fun cdv A outer s H E hr => by
    have hu := hr.units0
    exact (sss_one (ss_ret (se_ix (se_lst (sa_cons (se_tup (sa_cons se_int (sa_cons se_int sa_nil))) (sa_cons (se_tup (sa_cons se_int (sa_cons se_int sa_nil))) (sa_cons (se_tup (sa_cons se_int (sa_cons se_int sa_nil))) (sa_cons (se_tup (sa_cons se_int (sa_cons se_int sa_nil))) (sa_cons (se_tup (sa_cons se_int (sa_cons se_int sa_nil))) (sa_cons (se_tup (sa_cons se_int (sa_cons se_int sa_nil))) (sa_cons (se_tup (sa_cons se_int (sa_cons se_int sa_nil))) (sa_cons (se_tup (sa_cons se_int (sa_cons se_int sa_nil))) sa_nil))))))))) (se_op so_mod (se_var 0) se_int))))
theorem sc_L_all_groups : FnScope ["_law_high", "_law_wide", "_law_size", "_law_groups", "_law_place", "_law_row", "_law_column", "_law_box", "_law_group"] ["_law_high", "_law_wide"] (defScope s_L_all_groups) := ⟨rfl, rfl, rfl, by decide +kernel, rfl, by decide +kernel, by decide +kernel⟩
theorem ok_L_all_groups {f : Addr} {fd : FuncData} (F : Fun K "_law_all_groups" "_law_all_groups" s_L_all_groups f fd) (hm : mg "_law_all_groups" = some (.ref f)) (hb : Binds K fd ["_law_high", "_law_wide"] []) (m_range : mg "range" = none) :
    FnV P w K mg base (k + 1) "_law_all_groups" f fd ["_law_high", "_law_wide"] (K2.d_L_all_groups) :=
  fnv_mk F sc_L_all_groups hm hb fun cdv A outer s H E hr => by
    have hu := hr.units0
    exact (sss_cons (ss_set (i := 2) sc_L_all_groups.nd (se_op so_mul (se_var 0) (se_var 1)))
      (sss_cons (ss_setc (i := 3) (ex := ["_law_k"]) (cl := []) sc_L_all_groups.nd (blk_mk (by kernel_rfl) (by decide +kernel) rfl (by decide +kernel) (by kernel_rfl)) rfl (si_rng1 m_range (se_op so_mul se_int (se_var 2))) (fun C' s' H' fp' => (sg_name (i := 9) (show List.Nodup (α := Str) ["_law_high", "_law_wide", "_law_size", "_law_groups", "_law_place", "_law_row", "_law_column", "_law_box", "_law_group", "_law_k"] by decide +kernel))) (fun C' s' H' fp' => sifs_nil) (fun C' s' H' fp' => (se_lst sa_nil)))
      (sss_cons (ss_for PassesOwn.never rfl (si_rng1 m_range (se_op so_mul (se_var 2) (se_var 2))) (sg_name (i := 4) sc_L_all_groups.nd) (sss_cons (ss_set (i := 5) sc_L_all_groups.nd (se_op so_div (se_var 4) (se_var 2)))
      (sss_cons (ss_set (i := 6) sc_L_all_groups.nd (se_op so_mod (se_var 4) (se_var 2)))
      (sss_cons (ss_set (i := 7) sc_L_all_groups.nd (se_op so_add (se_op so_mul (se_op so_div (se_var 5) (se_var 0)) (se_var 0)) (se_op so_div (se_var 6) (se_var 1))))
      (sss_one (ss_for PassesOwn.never rfl (si_seq (se_lst (sa_cons (se_var 5) (sa_cons (se_op so_add (se_var 2) (se_var 6)) (sa_cons (se_op so_add (se_op so_mul se_int (se_var 2)) (se_var 7)) sa_nil))))) (sg_name (i := 8) sc_L_all_groups.nd) (sss_one (ss_expr (se_meth PySem.F.slot_list_append PySem.F.type_list_append sm_append (se_ix (se_var 3) (se_var 8)) (sa_cons (se_var 4) sa_nil))))))))))
      (sss_one (ss_ret (se_var 3))))))
theorem sc_L_full_sheet : FnScope ["_law_high", "_law_wide", "_law_cell", "_law_size", "_law_turn", "_law_filled", "_law_row", "_law_column", "_law_number", "_law_told", "_law_place"] ["_law_high", "_law_wide", "_law_cell"] (defScope s_L_full_sheet) := ⟨rfl, rfl, rfl, by decide +kernel, rfl, by decide +kernel, by decide +kernel⟩
theorem ok_L_full_sheet {f : Addr} {fd : FuncData} (F : Fun K "_law_full_sheet" "_law_full_sheet" s_L_full_sheet f fd) (hm : mg "_law_full_sheet" = some (.ref f)) (hb : Binds K fd ["_law_high", "_law_wide", "_law_cell"] []) (m_range : mg "range" = none) :
    FnV P w K mg base (k + 1) "_law_full_sheet" f fd ["_law_high", "_law_wide", "_law_cell"] (K2.d_L_full_sheet) :=
  fnv_mk F sc_L_full_sheet hm hb fun cdv A outer s H E hr => by
    have hu := hr.units0
    exact (sss_cons (ss_set (i := 3) sc_L_full_sheet.nd (se_op so_mul (se_var 0) (se_var 1)))
      (sss_cons (ss_set (i := 4) sc_L_full_sheet.nd (se_op so_mod (se_var 2) (se_var 3)))
      (sss_cons (ss_set (i := 5) sc_L_full_sheet.nd (se_lst sa_nil))
      (sss_cons (ss_for PassesOwn.never rfl (si_rng1 m_range (se_var 3)) (sg_name (i := 6) sc_L_full_sheet.nd) (sss_one (ss_for PassesOwn.never rfl (si_rng1 m_range (se_var 3)) (sg_name (i := 7) sc_L_full_sheet.nd) (sss_cons (ss_set (i := 8) sc_L_full_sheet.nd (se_op so_mod (se_op so_add (se_op so_add (se_op so_mul (se_var 1) (se_op so_mod (se_var 6) (se_var 0))) (se_op so_div (se_var 6) (se_var 0))) (se_var 7)) (se_var 3)))
      (sss_one (ss_expr (se_meth PySem.F.slot_list_append PySem.F.type_list_append sm_append (se_var 5) (sa_cons (se_op so_add (se_op so_mod (se_op so_add (se_op so_mul (se_var 8) (se_ix (se_lst (sa_cons se_int (sa_cons (se_op so_sub (se_var 3) se_int) sa_nil))) (se_op so_mod (se_op so_div (se_var 2) se_int) se_int))) (se_var 4)) (se_var 3)) se_int) sa_nil))))))))
      (sss_cons (ss_if (st_bool (sw_and (st_cmp (so_eq hu) (se_op so_mod (se_op so_div (se_var 2) se_int) se_int) se_int rfl) (sw_and1 (st_cmp (so_eq hu) (se_var 0) (se_var 1) rfl)))) (sss_cons (ss_set (i := 9) sc_L_full_sheet.nd (se_lst sa_nil))
      (sss_cons (ss_for PassesOwn.never rfl (si_rng1 m_range (se_op so_mul (se_var 3) (se_var 3))) (sg_name (i := 10) sc_L_full_sheet.nd) (sss_one (ss_expr (se_meth PySem.F.slot_list_append PySem.F.type_list_append sm_append (se_var 9) (sa_cons (se_ix (se_var 5) (se_op so_add (se_op so_mul (se_op so_mod (se_var 10) (se_var 3)) (se_var 3)) (se_op so_div (se_var 10) (se_var 3)))) sa_nil)))))
      (sss_one (ss_set (i := 5) sc_L_full_sheet.nd (se_var 9))))) sss_nil)
      (sss_one (ss_ret (se_var 5))))))))
theorem sc_L_sheet_by : FnScope ["_law_filled", "_law_cells", "_law_share", "_law_sheet", "_law_place", "_law_cell"] ["_law_filled", "_law_cells", "_law_share"] (defScope s_L_sheet_by) := ⟨rfl, rfl, rfl, by decide +kernel, rfl, by decide +kernel, by decide +kernel⟩
theorem ok_L_sheet_by {f : Addr} {fd : FuncData} (F : Fun K "_law_sheet_by" "_law_sheet_by" s_L_sheet_by f fd) (hm : mg "_law_sheet_by" = some (.ref f)) (hb : Binds K fd ["_law_filled", "_law_cells", "_law_share"] []) (m_range : mg "range" = none) (m_len : mg "len" = none) (m_int : mg "int" = none) :
    FnV P w K mg base (k + 1) "_law_sheet_by" f fd ["_law_filled", "_law_cells", "_law_share"] (K2.d_L_sheet_by) :=
  fnv_mk F sc_L_sheet_by hm hb fun cdv A outer s H E hr => by
    have hu := hr.units0
    exact (sss_cons (ss_set (i := 3) sc_L_sheet_by.nd (se_lst sa_nil))
      (sss_cons (ss_for PassesOwn.never rfl (si_rng1 m_range (se_callB sc_len m_len (sa_cons (se_var 0) sa_nil))) (sg_name (i := 4) sc_L_sheet_by.nd) (sss_cons (ss_set (i := 5) sc_L_sheet_by.nd se_int)
      (sss_cons (ss_if (st_cmp so_lt (se_var 4) (se_callB sc_len m_len (sa_cons (se_var 1) sa_nil)) rfl) (sss_one (ss_set (i := 5) sc_L_sheet_by.nd (se_ix (se_var 1) (se_var 4)))) sss_nil)
      (sss_one (ss_expr (se_meth PySem.F.slot_list_append PySem.F.type_list_append sm_append (se_var 3) (sa_cons (se_op so_mul (se_ix (se_var 0) (se_var 4)) (se_callTy sc_int m_int (sa_cons (se_cmp so_ge (se_op so_mod (se_op so_add (se_var 5) (se_var 4)) se_int) (se_var 2) rfl) sa_nil))) sa_nil)))))))
      (sss_one (ss_ret (se_var 3)))))
theorem sc_L_no_twice : FnScope ["_law_groups", "_law_sheet", "_law_size", "_law_group", "_law_row", "_law_number"] ["_law_groups", "_law_sheet", "_law_size"] (defScope s_L_no_twice) := ⟨rfl, rfl, rfl, by decide +kernel, rfl, by decide +kernel, by decide +kernel⟩
theorem ok_L_no_twice {f : Addr} {fd : FuncData} (F : Fun K "_law_no_twice" "_law_no_twice" s_L_no_twice f fd) (hm : mg "_law_no_twice" = some (.ref f)) (hb : Binds K fd ["_law_groups", "_law_sheet", "_law_size"] []) (m_range : mg "range" = none) :
    FnV P w K mg base (k + 1) "_law_no_twice" f fd ["_law_groups", "_law_sheet", "_law_size"] (K2.d_L_no_twice) :=
  fnv_mk F sc_L_no_twice hm hb fun cdv A outer s H E hr => by
    have hu := hr.units0
    exact (sss_cons (ss_for PassesOwn.never rfl (si_seq (se_var 0)) (sg_name (i := 3) sc_L_no_twice.nd) (sss_cons (ss_setc (i := 4) (ex := ["_law_place"]) (cl := []) sc_L_no_twice.nd (blk_mk (by kernel_rfl) (by decide +kernel) rfl (by decide +kernel) (by kernel_rfl)) rfl (si_seq (se_var 3)) (fun C' s' H' fp' => (sg_name (i := 6) (show List.Nodup (α := Str) ["_law_groups", "_law_sheet", "_law_size", "_law_group", "_law_row", "_law_number", "_law_place"] by decide +kernel))) (fun C' s' H' fp' => sifs_nil) (fun C' s' H' fp' => (se_ix (se_var 1) (se_var 6))))
      (sss_one (ss_for PassesOwn.never rfl (si_rng2 m_range se_int (se_op so_add (se_var 2) se_int)) (sg_name (i := 5) sc_L_no_twice.nd) (sss_one (ss_if (st_cmp so_gt (se_meth PySem.F.slot_list_count PySem.F.type_list_count sm_count (se_var 4) (sa_cons (se_var 5) sa_nil)) se_int rfl) (sss_one (ss_ret se_bl)) sss_nil))))))
      (sss_one (ss_ret se_bl)))
theorem sc_L_is_filled_by : FnScope ["_law_groups", "_law_sheet", "_law_filled", "_law_size", "_law_place"] ["_law_groups", "_law_sheet", "_law_filled", "_law_size"] (defScope s_L_is_filled_by) := ⟨rfl, rfl, rfl, by decide +kernel, rfl, by decide +kernel, by decide +kernel⟩
theorem ok_L_is_filled_by {f : Addr} {fd : FuncData} (F : Fun K "_law_is_filled_by" "_law_is_filled_by" s_L_is_filled_by f fd) (hm : mg "_law_is_filled_by" = some (.ref f)) (hb : Binds K fd ["_law_groups", "_law_sheet", "_law_filled", "_law_size"] []) {f__law_no_twice : Addr} {fd__law_no_twice : FuncData} (G__law_no_twice : FnV P w K mg base k "_law_no_twice" f__law_no_twice fd__law_no_twice ["_law_groups", "_law_sheet", "_law_size"] (c 15)) (m_range : mg "range" = none) (m_len : mg "len" = none) :
    FnV P w K mg base (k + 1) "_law_is_filled_by" f fd ["_law_groups", "_law_sheet", "_law_filled", "_law_size"] (K2.d_L_is_filled_by (c 15)) :=
  fnv_mk F sc_L_is_filled_by hm hb fun cdv A outer s H E hr => by
    have hu := hr.units0
    exact (sss_cons (ss_for PassesOwn.never rfl (si_rng1 m_range (se_callB sc_len m_len (sa_cons (se_var 1) sa_nil))) (sg_name (i := 4) sc_L_is_filled_by.nd) (sss_one (ss_if (st_bool (sw_or (st_cmp (so_eq hu) (se_ix (se_var 2) (se_var 4)) se_int rfl) (sw_or1 (st_cmp so_notin (se_ix (se_var 1) (se_var 4)) (se_lst (sa_cons se_int (sa_cons (se_ix (se_var 2) (se_var 4)) sa_nil))) rfl)))) (sss_one (ss_ret se_bl)) sss_nil)))
      (sss_one (ss_ret (se_call G__law_no_twice hr (sa_cons (se_var 0) (sa_cons (se_var 2) (sa_cons (se_var 3) sa_nil)))))))
theorem sc_L_shape_for : FnScope ["_law_script"] ["_law_script"] (defScope s_L_shape_for) := ⟨rfl, rfl, rfl, by decide +kernel, rfl, by decide +kernel, by decide +kernel⟩
theorem ok_L_shape_for {f : Addr} {fd : FuncData} (F : Fun K "_law_shape_for" "_law_shape_for" s_L_shape_for f fd) (hm : mg "_law_shape_for" = some (.ref f)) (hb : Binds K fd ["_law_script"] []) {f__law_shape_of : Addr} {fd__law_shape_of : FuncData} (G__law_shape_of : FnV P w K mg base k "_law_shape_of" f__law_shape_of fd__law_shape_of ["_law_cell"] (c 11)) {f__law_at : Addr} {fd__law_at : FuncData} (G__law_at : FnV P w K mg base k "_law_at" f__law_at fd__law_at ["_law_script", "_law_k"] (c 9)) (m_sum : mg "sum" = none) (m_len : mg "len" = none) :
    FnV P w K mg base (k + 1) "_law_shape_for" f fd ["_law_script"] (K2.d_L_shape_for (c 9) (c 11)) :=
  fnv_mk F sc_L_shape_for hm hb fun cdv A outer s H E hr => by
    have hu := hr.units0
    exact (sss_cons (ss_if (st_cmp so_gt (se_callB sc_len m_len (sa_cons (se_var 0) sa_nil)) se_int rfl) (sss_one (ss_ret (se_ix (se_lst (sa_cons (se_tup (sa_cons se_int (sa_cons se_int sa_nil))) (sa_cons (se_tup (sa_cons se_int (sa_cons se_int sa_nil))) (sa_cons (se_tup (sa_cons se_int (sa_cons se_int sa_nil))) (sa_cons (se_tup (sa_cons se_int (sa_cons se_int sa_nil))) sa_nil))))) (se_op so_mod (se_call G__law_at hr (sa_cons (se_var 0) (sa_cons se_int sa_nil))) se_int)))) sss_nil)
      (sss_cons (ss_if (st_cmp (so_eq hu) (se_op so_mod (se_callB (sc_sum hr.hd) m_sum (sa_cons (se_sl (se_var 0) so_none (so_some se_int)) sa_nil)) se_int) se_int rfl) (sss_one (ss_ret (se_tup (sa_cons se_int (sa_cons se_int sa_nil))))) sss_nil)
      (sss_one (ss_ret (se_call G__law_shape_of hr (sa_cons (se_call G__law_at hr (sa_cons (se_var 0) (sa_cons se_int sa_nil))) sa_nil))))))
theorem sc_law : FnScope ["_law_script", "_law_high", "_law_wide", "_law_size", "_law_groups", "_law_filled", "_law_share", "_law_sheet", "_law_told", "_law_cell", "_law_way", "_law_spot", "_law_other", "_law_bare", "_law_ones", "_law_others", "_law_found", "_law_due"] ["_law_script"] (defScope s_law) := ⟨rfl, rfl, rfl, by decide +kernel, rfl, by decide +kernel, by decide +kernel⟩
theorem ok_law {f : Addr} {fd : FuncData} (F : Fun K "law" "law" s_law f fd) (hm : mg "law" = some (.ref f)) (hb : Binds K fd ["_law_script"] []) {f__law_is_filled_by : Addr} {fd__law_is_filled_by : FuncData} (G__law_is_filled_by : FnV P w K mg base k "_law_is_filled_by" f__law_is_filled_by fd__law_is_filled_by ["_law_groups", "_law_sheet", "_law_filled", "_law_size"] (c 16)) {f__law_same : Addr} {fd__law_same : FuncData} (G__law_same : FnV P w K mg base k "_law_same" f__law_same fd__law_same ["_law_found", "_law_due"] (c 10)) {f_fills : Addr} {fd_fills : FuncData} (G_fills : FnV P w K mg base k "fills" f_fills fd_fills ["high", "wide", "sheet", "filled"] (c 7)) {f__law_at : Addr} {fd__law_at : FuncData} (G__law_at : FnV P w K mg base k "_law_at" f__law_at fd__law_at ["_law_script", "_law_k"] (c 9)) {f__law_sheet_by : Addr} {fd__law_sheet_by : FuncData} (G__law_sheet_by : FnV P w K mg base k "_law_sheet_by" f__law_sheet_by fd__law_sheet_by ["_law_filled", "_law_cells", "_law_share"] (c 14)) {f__law_full_sheet : Addr} {fd__law_full_sheet : FuncData} (G__law_full_sheet : FnV P w K mg base k "_law_full_sheet" f__law_full_sheet fd__law_full_sheet ["_law_high", "_law_wide", "_law_cell"] (c 13)) {f__law_all_groups : Addr} {fd__law_all_groups : FuncData} (G__law_all_groups : FnV P w K mg base k "_law_all_groups" f__law_all_groups fd__law_all_groups ["_law_high", "_law_wide"] (c 12)) {f__law_shape_for : Addr} {fd__law_shape_for : FuncData} (G__law_shape_for : FnV P w K mg base k "_law_shape_for" f__law_shape_for fd__law_shape_for ["_law_script"] (c 17)) (m_isinstance : mg "isinstance" = none) (m_bool : mg "bool" = none) (m_list : mg "list" = none) (m_range : mg "range" = none) (m_len : mg "len" = none) (m_int : mg "int" = none) :
    FnV P w K mg base (k + 1) "law" f fd ["_law_script"] (K2.d_law (c 7) (c 9) (c 10) (c 12) (c 13) (c 14) (c 16) (c 17)) :=
  fnv_mk F sc_law hm hb fun cdv A outer s H E hr => by
    have hu := hr.units0
    exact (sss_cons (ss_asg (se_call G__law_shape_for hr (sa_cons (se_var 0) sa_nil)) (sg_tup rfl (sgs_cons (sg_name (i := 1) sc_law.nd) (sgs_cons (sg_name (i := 2) sc_law.nd) sgs_nil))))
      (sss_cons (ss_set (i := 3) sc_law.nd (se_op so_mul (se_var 1) (se_var 2)))
      (sss_cons (ss_set (i := 4) sc_law.nd (se_call G__law_all_groups hr (sa_cons (se_var 1) (sa_cons (se_var 2) sa_nil))))
      (sss_cons (ss_set (i := 5) sc_law.nd (se_call G__law_full_sheet hr (sa_cons (se_var 1) (sa_cons (se_var 2) (sa_cons (se_call G__law_at hr (sa_cons (se_var 0) (sa_cons se_int sa_nil))) sa_nil)))))
      (sss_cons (ss_set (i := 6) sc_law.nd (se_op so_mod (se_call G__law_at hr (sa_cons (se_var 0) (sa_cons se_int sa_nil))) (se_ix (se_lst (sa_cons se_int (sa_cons se_int (sa_cons se_int sa_nil)))) (se_op so_add (se_callTy sc_int m_int (sa_cons (se_cmp so_gt (se_var 3) se_int rfl) sa_nil)) (se_callTy sc_int m_int (sa_cons (se_cmp so_gt (se_var 3) se_int rfl) sa_nil))))))
      (sss_cons (ss_set (i := 7) sc_law.nd (se_call G__law_sheet_by hr (sa_cons (se_var 5) (sa_cons (se_sl (se_var 0) (so_some se_int) (so_some se_int)) (sa_cons (se_var 6) sa_nil)))))
      (sss_cons (ss_set (i := 8) sc_law.nd (se_callTy sc_list m_list (sa_cons (se_var 5) sa_nil)))
      (sss_cons (ss_set (i := 9) sc_law.nd (se_call G__law_at hr (sa_cons (se_var 0) (sa_cons se_int sa_nil))))
      (sss_cons (ss_set (i := 10) sc_law.nd (se_op so_mod (se_var 9) se_int))
      (sss_cons (ss_set (i := 11) sc_law.nd (se_op so_mod (se_op so_div (se_var 9) se_int) (se_callB sc_len m_len (sa_cons (se_var 8) sa_nil))))
      (sss_cons (ss_set (i := 12) sc_law.nd (se_ix (se_lst (sa_cons (se_op so_mod (se_call G__law_at hr (sa_cons (se_var 0) (sa_cons se_int sa_nil))) (se_callB sc_len m_len (sa_cons (se_var 8) sa_nil))) (sa_cons (se_op so_mul (se_op so_div (se_var 11) (se_var 3)) (se_var 3)) sa_nil))) (se_callTy sc_int m_int (sa_cons (se_cmp (so_eq hu) (se_var 10) se_int rfl) sa_nil))))
      (sss_cons (ss_set (i := 13) sc_law.nd (se_op so_add (se_comp (ex := ["_law_place"]) (cl := []) (blk_mk (by kernel_rfl) (by decide +kernel) rfl (by decide +kernel) (by kernel_rfl)) rfl (si_rng1 m_range (se_callB sc_len m_len (sa_cons (se_var 7) sa_nil))) (fun C' s' H' fp' => (sg_name (i := 18) (show List.Nodup (α := Str) ["_law_script", "_law_high", "_law_wide", "_law_size", "_law_groups", "_law_filled", "_law_share", "_law_sheet", "_law_told", "_law_cell", "_law_way", "_law_spot", "_law_other", "_law_bare", "_law_ones", "_law_others", "_law_found", "_law_due", "_law_place"] by decide +kernel))) (fun C' s' H' fp' => (sifs_one (st_cmp (so_eq hu) (se_ix (se_var 7) (se_var 18)) se_int rfl))) (fun C' s' H' fp' => (se_var 18))) (se_lst (sa_cons (se_var 11) sa_nil))))
      (sss_cons (ss_if (st_cmp (so_eq hu) (se_var 10) se_int rfl) (sss_one (ss_asg (se_op so_add (se_op so_mod (se_ix (se_var 8) (se_var 11)) (se_var 3)) se_int) (sg_sub (se_var 8) (se_var 11)))) sss_nil)
      (sss_cons (ss_if (st_cmp (so_eq hu) (se_var 10) se_int rfl) (sss_one (ss_asg se_int (sg_sub (se_var 8) (se_ix (se_var 13) se_int)))) sss_nil)
      (sss_cons (ss_if (st_cmp (so_eq hu) (se_var 10) se_int rfl) (sss_one (ss_asg (se_ix (se_var 8) (se_var 12)) (sg_sub (se_var 8) (se_var 11)))) sss_nil)
      (sss_cons (ss_if (st_cmp (so_eq hu) (se_var 10) se_int rfl) (sss_one (ss_set (i := 12) sc_law.nd (se_op so_mod (se_var 11) (se_var 3)))) sss_nil)
      (sss_cons (ss_if (st_cmp (so_eq hu) (se_var 10) se_int rfl) (sss_one (ss_setc (i := 8) (ex := ["_law_number"]) (cl := []) sc_law.nd (blk_mk (by kernel_rfl) (by decide +kernel) rfl (by decide +kernel) (by kernel_rfl)) rfl (si_seq (se_var 5)) (fun C' s' H' fp' => (sg_name (i := 18) (show List.Nodup (α := Str) ["_law_script", "_law_high", "_law_wide", "_law_size", "_law_groups", "_law_filled", "_law_share", "_law_sheet", "_law_told", "_law_cell", "_law_way", "_law_spot", "_law_other", "_law_bare", "_law_ones", "_law_others", "_law_found", "_law_due", "_law_number"] by decide +kernel))) (fun C' s' H' fp' => sifs_nil) (fun C' s' H' fp' => (se_op so_add (se_op so_mod (se_var 18) (se_var 3)) se_int)))) sss_nil)
      (sss_cons (ss_if (st_bool (sw_or (st_cmp (so_eq hu) (se_var 10) se_int rfl) (sw_or (st_cmp (so_eq hu) (se_var 10) se_int rfl) (sw_or1 (st_cmp (so_eq hu) (se_var 10) se_int rfl))))) (sss_cons (ss_asg (se_ix (se_var 5) (se_var 12)) (sg_sub (se_var 8) (se_var 11)))
      (sss_one (ss_asg (se_ix (se_var 5) (se_var 11)) (sg_sub (se_var 8) (se_var 12))))) sss_nil)
      (sss_cons (ss_set (i := 14) sc_law.nd (se_callTy sc_list m_list (sa_cons (se_var 7) sa_nil)))
      (sss_cons (ss_set (i := 15) sc_law.nd (se_callTy sc_list m_list (sa_cons (se_var 8) sa_nil)))
      (sss_cons (ss_set (i := 16) sc_law.nd (se_call G_fills hr (sa_cons (se_var 1) (sa_cons (se_var 2) (sa_cons (se_var 14) (sa_cons (se_var 15) sa_nil))))))
      (sss_cons (ss_if (st_not (st_val (se_call G__law_same hr (sa_cons (se_lst (sa_cons (se_var 14) (sa_cons (se_var 15) sa_nil))) (sa_cons (se_lst (sa_cons (se_var 7) (sa_cons (se_var 8) sa_nil))) sa_nil))))) (sss_one (ss_ret se_bl)) sss_nil)
      (sss_cons (ss_set (i := 17) sc_law.nd (se_call G__law_is_filled_by hr (sa_cons (se_var 4) (sa_cons (se_var 7) (sa_cons (se_var 8) (sa_cons (se_var 3) sa_nil))))))
      (sss_one (ss_ret (se_and (se_isi .bool m_isinstance m_bool (se_var 16)) (se_one (se_cmp (so_eq hu) (se_var 16) (se_var 17) rfl))))))))))))))))))))))))))))
end
section
variable {P : Program} {w : World} {K : Fg} {mg : Str → Option Value} {base : Heap}
theorem all_ok {f0 : Addr} {fd0 : FuncData} (F0 : Fun K "row_fields" "row_fields" s_row_fields f0 fd0) (m0 : mg "row_fields" = some (.ref f0)) (b0 : Binds K fd0 ["size", "row"] []) {f1 : Addr} {fd1 : FuncData} (F1 : Fun K "column_fields" "column_fields" s_column_fields f1 fd1) (m1 : mg "column_fields" = some (.ref f1)) (b1 : Binds K fd1 ["size", "column"] []) {f2 : Addr} {fd2 : FuncData} (F2 : Fun K "box_fields" "box_fields" s_box_fields f2 fd2) (m2 : mg "box_fields" = some (.ref f2)) (b2 : Binds K fd2 ["high", "wide", "box"] []) {f3 : Addr} {fd3 : FuncData} (F3 : Fun K "groups_of" "groups_of" s_groups_of f3 fd3) (m3 : mg "groups_of" = some (.ref f3)) (b3 : Binds K fd3 ["high", "wide"] []) {f4 : Addr} {fd4 : FuncData} (F4 : Fun K "refuse_no_sheet" "refuse_no_sheet" s_refuse_no_sheet f4 fd4) (m4 : mg "refuse_no_sheet" = some (.ref f4)) (b4 : Binds K fd4 ["high", "wide", "sheet"] []) {f5 : Addr} {fd5 : FuncData} (F5 : Fun K "keeps_numbers" "keeps_numbers" s_keeps_numbers f5 fd5) (m5 : mg "keeps_numbers" = some (.ref f5)) (b5 : Binds K fd5 ["sheet", "filled"] []) {f6 : Addr} {fd6 : FuncData} (F6 : Fun K "has_twice" "has_twice" s_has_twice f6 fd6) (m6 : mg "has_twice" = some (.ref f6)) (b6 : Binds K fd6 ["group", "filled"] []) {f7 : Addr} {fd7 : FuncData} (F7 : Fun K "fills" "fills" s_fills f7 fd7) (m7 : mg "fills" = some (.ref f7)) (b7 : Binds K fd7 ["high", "wide", "sheet", "filled"] []) {f8 : Addr} {fd8 : FuncData} (F8 : Fun K "_law_whole" "_law_whole" s_L_whole f8 fd8) (m8 : mg "_law_whole" = some (.ref f8)) (b8 : Binds K fd8 ["_law_found"] []) {f9 : Addr} {fd9 : FuncData} (F9 : Fun K "_law_at" "_law_at" s_L_at f9 fd9) (m9 : mg "_law_at" = some (.ref f9)) (b9 : Binds K fd9 ["_law_script", "_law_k"] []) {f10 : Addr} {fd10 : FuncData} (F10 : Fun K "_law_same" "_law_same" s_L_same f10 fd10) (m10 : mg "_law_same" = some (.ref f10)) (b10 : Binds K fd10 ["_law_found", "_law_due"] []) {f11 : Addr} {fd11 : FuncData} (F11 : Fun K "_law_shape_of" "_law_shape_of" s_L_shape_of f11 fd11) (m11 : mg "_law_shape_of" = some (.ref f11)) (b11 : Binds K fd11 ["_law_cell"] []) {f12 : Addr} {fd12 : FuncData} (F12 : Fun K "_law_all_groups" "_law_all_groups" s_L_all_groups f12 fd12) (m12 : mg "_law_all_groups" = some (.ref f12)) (b12 : Binds K fd12 ["_law_high", "_law_wide"] []) {f13 : Addr} {fd13 : FuncData} (F13 : Fun K "_law_full_sheet" "_law_full_sheet" s_L_full_sheet f13 fd13) (m13 : mg "_law_full_sheet" = some (.ref f13)) (b13 : Binds K fd13 ["_law_high", "_law_wide", "_law_cell"] []) {f14 : Addr} {fd14 : FuncData} (F14 : Fun K "_law_sheet_by" "_law_sheet_by" s_L_sheet_by f14 fd14) (m14 : mg "_law_sheet_by" = some (.ref f14)) (b14 : Binds K fd14 ["_law_filled", "_law_cells", "_law_share"] []) {f15 : Addr} {fd15 : FuncData} (F15 : Fun K "_law_no_twice" "_law_no_twice" s_L_no_twice f15 fd15) (m15 : mg "_law_no_twice" = some (.ref f15)) (b15 : Binds K fd15 ["_law_groups", "_law_sheet", "_law_size"] []) {f16 : Addr} {fd16 : FuncData} (F16 : Fun K "_law_is_filled_by" "_law_is_filled_by" s_L_is_filled_by f16 fd16) (m16 : mg "_law_is_filled_by" = some (.ref f16)) (b16 : Binds K fd16 ["_law_groups", "_law_sheet", "_law_filled", "_law_size"] []) {f17 : Addr} {fd17 : FuncData} (F17 : Fun K "_law_shape_for" "_law_shape_for" s_L_shape_for f17 fd17) (m17 : mg "_law_shape_for" = some (.ref f17)) (b17 : Binds K fd17 ["_law_script"] []) {f18 : Addr} {fd18 : FuncData} (F18 : Fun K "law" "law" s_law f18 fd18) (m18 : mg "law" = some (.ref f18)) (b18 : Binds K fd18 ["_law_script"] []) (m_range : mg "range" = none) (m_len : mg "len" = none) (m_zip : mg "zip" = none) (m_set : mg "set" = none) (m_isinstance : mg "isinstance" = none) (m_bool : mg "bool" = none) (m_int : mg "int" = none) (m_tuple : mg "tuple" = none) (m_list : mg "list" = none) (m_str : mg "str" = none) (m_sum : mg "sum" = none) : ∀ k : Nat, FnV P w K mg base k "row_fields" f0 fd0 ["size", "row"] (VM.callK K2.tab k 0) ∧ FnV P w K mg base k "column_fields" f1 fd1 ["size", "column"] (VM.callK K2.tab k 1) ∧ FnV P w K mg base k "box_fields" f2 fd2 ["high", "wide", "box"] (VM.callK K2.tab k 2) ∧ FnV P w K mg base k "groups_of" f3 fd3 ["high", "wide"] (VM.callK K2.tab k 3) ∧ FnV P w K mg base k "refuse_no_sheet" f4 fd4 ["high", "wide", "sheet"] (VM.callK K2.tab k 4) ∧ FnV P w K mg base k "keeps_numbers" f5 fd5 ["sheet", "filled"] (VM.callK K2.tab k 5) ∧ FnV P w K mg base k "has_twice" f6 fd6 ["group", "filled"] (VM.callK K2.tab k 6) ∧ FnV P w K mg base k "fills" f7 fd7 ["high", "wide", "sheet", "filled"] (VM.callK K2.tab k 7) ∧ FnV P w K mg base k "_law_whole" f8 fd8 ["_law_found"] (VM.callK K2.tab k 8) ∧ FnV P w K mg base k "_law_at" f9 fd9 ["_law_script", "_law_k"] (VM.callK K2.tab k 9) ∧ FnV P w K mg base k "_law_same" f10 fd10 ["_law_found", "_law_due"] (VM.callK K2.tab k 10) ∧ FnV P w K mg base k "_law_shape_of" f11 fd11 ["_law_cell"] (VM.callK K2.tab k 11) ∧ FnV P w K mg base k "_law_all_groups" f12 fd12 ["_law_high", "_law_wide"] (VM.callK K2.tab k 12) ∧ FnV P w K mg base k "_law_full_sheet" f13 fd13 ["_law_high", "_law_wide", "_law_cell"] (VM.callK K2.tab k 13) ∧ FnV P w K mg base k "_law_sheet_by" f14 fd14 ["_law_filled", "_law_cells", "_law_share"] (VM.callK K2.tab k 14) ∧ FnV P w K mg base k "_law_no_twice" f15 fd15 ["_law_groups", "_law_sheet", "_law_size"] (VM.callK K2.tab k 15) ∧ FnV P w K mg base k "_law_is_filled_by" f16 fd16 ["_law_groups", "_law_sheet", "_law_filled", "_law_size"] (VM.callK K2.tab k 16) ∧ FnV P w K mg base k "_law_shape_for" f17 fd17 ["_law_script"] (VM.callK K2.tab k 17) ∧ FnV P w K mg base k "law" f18 fd18 ["_law_script"] (VM.callK K2.tab k 18)
  | 0 => ⟨fnv_none m0 F0.kp b0, fnv_none m1 F1.kp b1, fnv_none m2 F2.kp b2, fnv_none m3 F3.kp b3, fnv_none m4 F4.kp b4, fnv_none m5 F5.kp b5, fnv_none m6 F6.kp b6, fnv_none m7 F7.kp b7, fnv_none m8 F8.kp b8, fnv_none m9 F9.kp b9, fnv_none m10 F10.kp b10, fnv_none m11 F11.kp b11, fnv_none m12 F12.kp b12, fnv_none m13 F13.kp b13, fnv_none m14 F14.kp b14, fnv_none m15 F15.kp b15, fnv_none m16 F16.kp b16, fnv_none m17 F17.kp b17, fnv_none m18 F18.kp b18⟩
  | k + 1 => by
    have ih := all_ok F0 m0 b0 F1 m1 b1 F2 m2 b2 F3 m3 b3 F4 m4 b4 F5 m5 b5 F6 m6 b6 F7 m7 b7 F8 m8 b8 F9 m9 b9 F10 m10 b10 F11 m11 b11 F12 m12 b12 F13 m13 b13 F14 m14 b14 F15 m15 b15 F16 m16 b16 F17 m17 b17 F18 m18 b18 m_range m_len m_zip m_set m_isinstance m_bool m_int m_tuple m_list m_str m_sum k
    exact ⟨ok_row_fields F0 m0 b0 m_range,
      ok_column_fields F1 m1 b1 m_range,
      ok_box_fields F2 m2 b2 m_range,
      ok_groups_of (c := VM.callK K2.tab k) F3 m3 b3 ih.2.2.1 ih.2.1 ih.1 m_range,
      ok_refuse_no_sheet F4 m4 b4 m_len,
      ok_keeps_numbers F5 m5 b5 m_zip,
      ok_has_twice F6 m6 b6 m_len m_set,
      ok_fills (c := VM.callK K2.tab k) F7 m7 b7 ih.2.2.2.1 ih.2.2.2.2.2.2.1 ih.2.2.2.2.2.1 ih.2.2.2.2.1,
      ok_L_whole F8 m8 b8 m_isinstance m_bool m_int,
      ok_L_at F9 m9 b9 m_len,
      ok_L_same (c := VM.callK K2.tab k) F10 m10 b10 ih.2.2.2.2.2.2.2.2.1 m_tuple m_list m_isinstance m_len m_bool m_str,
      ok_L_shape_of F11 m11 b11 ,
      ok_L_all_groups F12 m12 b12 m_range,
      ok_L_full_sheet F13 m13 b13 m_range,
      ok_L_sheet_by F14 m14 b14 m_range m_len m_int,
      ok_L_no_twice F15 m15 b15 m_range,
      ok_L_is_filled_by (c := VM.callK K2.tab k) F16 m16 b16 ih.2.2.2.2.2.2.2.2.2.2.2.2.2.2.2.1 m_range m_len,
      ok_L_shape_for (c := VM.callK K2.tab k) F17 m17 b17 ih.2.2.2.2.2.2.2.2.2.2.2.1 ih.2.2.2.2.2.2.2.2.2.1 m_sum m_len,
      ok_law (c := VM.callK K2.tab k) F18 m18 b18 ih.2.2.2.2.2.2.2.2.2.2.2.2.2.2.2.2.1 ih.2.2.2.2.2.2.2.2.2.2.1 ih.2.2.2.2.2.2.2.1 ih.2.2.2.2.2.2.2.2.2.1 ih.2.2.2.2.2.2.2.2.2.2.2.2.2.2.1 ih.2.2.2.2.2.2.2.2.2.2.2.2.2.1 ih.2.2.2.2.2.2.2.2.2.2.2.2.1 ih.2.2.2.2.2.2.2.2.2.2.2.2.2.2.2.2.2.1 m_isinstance m_bool m_list m_range m_len m_int⟩
end
theorem all_mk {l : PySem.W.OpenLaw} {w : World} {K : Fg} {h : Heap} {mg : Str → Option Value} {fa f0 f1 f2 f3 f4 f5 f6 f7 f8 f9 f10 f11 f12 f13 f14 f15 f16 f17 f18 : Addr} (X : K.In h) (G : h.Ns mainGlobals mg) (hfa : mg "law" = some (.ref fa))
    {od0 an0 : Option Addr} {sl0 : Array (Option Value)} {oc0 kV0 dc0 pm0 cd0 ct0 : Value}
    (a0 : PySem.W.nsIn K mainGlobals "row_fields" = some (some (.ref f0))) (l0 : K.lookup f0 = some ⟨oc0, od0, .func (PySem.W.fnOf "row_fields" "row_fields" (defArgs s_row_fields) (defBody s_row_fields) (defScope s_row_fields) .none kV0 dc0 pm0 an0 cd0 ct0), sl0⟩) (c0 : PySem.W.codeIn K cd0 "row_fields" = true) (k0 : PySem.W.keepIn K (.ref f0) = true)
    {od1 an1 : Option Addr} {sl1 : Array (Option Value)} {oc1 kV1 dc1 pm1 cd1 ct1 : Value}
    (a1 : PySem.W.nsIn K mainGlobals "column_fields" = some (some (.ref f1))) (l1 : K.lookup f1 = some ⟨oc1, od1, .func (PySem.W.fnOf "column_fields" "column_fields" (defArgs s_column_fields) (defBody s_column_fields) (defScope s_column_fields) .none kV1 dc1 pm1 an1 cd1 ct1), sl1⟩) (c1 : PySem.W.codeIn K cd1 "column_fields" = true) (k1 : PySem.W.keepIn K (.ref f1) = true)
    {od2 an2 : Option Addr} {sl2 : Array (Option Value)} {oc2 kV2 dc2 pm2 cd2 ct2 : Value}
    (a2 : PySem.W.nsIn K mainGlobals "box_fields" = some (some (.ref f2))) (l2 : K.lookup f2 = some ⟨oc2, od2, .func (PySem.W.fnOf "box_fields" "box_fields" (defArgs s_box_fields) (defBody s_box_fields) (defScope s_box_fields) .none kV2 dc2 pm2 an2 cd2 ct2), sl2⟩) (c2 : PySem.W.codeIn K cd2 "box_fields" = true) (k2 : PySem.W.keepIn K (.ref f2) = true)
    {od3 an3 : Option Addr} {sl3 : Array (Option Value)} {oc3 kV3 dc3 pm3 cd3 ct3 : Value}
    (a3 : PySem.W.nsIn K mainGlobals "groups_of" = some (some (.ref f3))) (l3 : K.lookup f3 = some ⟨oc3, od3, .func (PySem.W.fnOf "groups_of" "groups_of" (defArgs s_groups_of) (defBody s_groups_of) (defScope s_groups_of) .none kV3 dc3 pm3 an3 cd3 ct3), sl3⟩) (c3 : PySem.W.codeIn K cd3 "groups_of" = true) (k3 : PySem.W.keepIn K (.ref f3) = true)
    {od4 an4 : Option Addr} {sl4 : Array (Option Value)} {oc4 kV4 dc4 pm4 cd4 ct4 : Value}
    (a4 : PySem.W.nsIn K mainGlobals "refuse_no_sheet" = some (some (.ref f4))) (l4 : K.lookup f4 = some ⟨oc4, od4, .func (PySem.W.fnOf "refuse_no_sheet" "refuse_no_sheet" (defArgs s_refuse_no_sheet) (defBody s_refuse_no_sheet) (defScope s_refuse_no_sheet) .none kV4 dc4 pm4 an4 cd4 ct4), sl4⟩) (c4 : PySem.W.codeIn K cd4 "refuse_no_sheet" = true) (k4 : PySem.W.keepIn K (.ref f4) = true)
    {od5 an5 : Option Addr} {sl5 : Array (Option Value)} {oc5 kV5 dc5 pm5 cd5 ct5 : Value}
    (a5 : PySem.W.nsIn K mainGlobals "keeps_numbers" = some (some (.ref f5))) (l5 : K.lookup f5 = some ⟨oc5, od5, .func (PySem.W.fnOf "keeps_numbers" "keeps_numbers" (defArgs s_keeps_numbers) (defBody s_keeps_numbers) (defScope s_keeps_numbers) .none kV5 dc5 pm5 an5 cd5 ct5), sl5⟩) (c5 : PySem.W.codeIn K cd5 "keeps_numbers" = true) (k5 : PySem.W.keepIn K (.ref f5) = true)
    {od6 an6 : Option Addr} {sl6 : Array (Option Value)} {oc6 kV6 dc6 pm6 cd6 ct6 : Value}
    (a6 : PySem.W.nsIn K mainGlobals "has_twice" = some (some (.ref f6))) (l6 : K.lookup f6 = some ⟨oc6, od6, .func (PySem.W.fnOf "has_twice" "has_twice" (defArgs s_has_twice) (defBody s_has_twice) (defScope s_has_twice) .none kV6 dc6 pm6 an6 cd6 ct6), sl6⟩) (c6 : PySem.W.codeIn K cd6 "has_twice" = true) (k6 : PySem.W.keepIn K (.ref f6) = true)
    {od7 an7 : Option Addr} {sl7 : Array (Option Value)} {oc7 kV7 dc7 pm7 cd7 ct7 : Value}
    (a7 : PySem.W.nsIn K mainGlobals "fills" = some (some (.ref f7))) (l7 : K.lookup f7 = some ⟨oc7, od7, .func (PySem.W.fnOf "fills" "fills" (defArgs s_fills) (defBody s_fills) (defScope s_fills) .none kV7 dc7 pm7 an7 cd7 ct7), sl7⟩) (c7 : PySem.W.codeIn K cd7 "fills" = true) (k7 : PySem.W.keepIn K (.ref f7) = true)
    {od8 an8 : Option Addr} {sl8 : Array (Option Value)} {oc8 kV8 dc8 pm8 cd8 ct8 : Value}
    (a8 : PySem.W.nsIn K mainGlobals "_law_whole" = some (some (.ref f8))) (l8 : K.lookup f8 = some ⟨oc8, od8, .func (PySem.W.fnOf "_law_whole" "_law_whole" (defArgs s_L_whole) (defBody s_L_whole) (defScope s_L_whole) .none kV8 dc8 pm8 an8 cd8 ct8), sl8⟩) (c8 : PySem.W.codeIn K cd8 "_law_whole" = true) (k8 : PySem.W.keepIn K (.ref f8) = true)
    {od9 an9 : Option Addr} {sl9 : Array (Option Value)} {oc9 kV9 dc9 pm9 cd9 ct9 : Value}
    (a9 : PySem.W.nsIn K mainGlobals "_law_at" = some (some (.ref f9))) (l9 : K.lookup f9 = some ⟨oc9, od9, .func (PySem.W.fnOf "_law_at" "_law_at" (defArgs s_L_at) (defBody s_L_at) (defScope s_L_at) .none kV9 dc9 pm9 an9 cd9 ct9), sl9⟩) (c9 : PySem.W.codeIn K cd9 "_law_at" = true) (k9 : PySem.W.keepIn K (.ref f9) = true)
    {od10 an10 : Option Addr} {sl10 : Array (Option Value)} {oc10 kV10 dc10 pm10 cd10 ct10 : Value}
    (a10 : PySem.W.nsIn K mainGlobals "_law_same" = some (some (.ref f10))) (l10 : K.lookup f10 = some ⟨oc10, od10, .func (PySem.W.fnOf "_law_same" "_law_same" (defArgs s_L_same) (defBody s_L_same) (defScope s_L_same) .none kV10 dc10 pm10 an10 cd10 ct10), sl10⟩) (c10 : PySem.W.codeIn K cd10 "_law_same" = true) (k10 : PySem.W.keepIn K (.ref f10) = true)
    {od11 an11 : Option Addr} {sl11 : Array (Option Value)} {oc11 kV11 dc11 pm11 cd11 ct11 : Value}
    (a11 : PySem.W.nsIn K mainGlobals "_law_shape_of" = some (some (.ref f11))) (l11 : K.lookup f11 = some ⟨oc11, od11, .func (PySem.W.fnOf "_law_shape_of" "_law_shape_of" (defArgs s_L_shape_of) (defBody s_L_shape_of) (defScope s_L_shape_of) .none kV11 dc11 pm11 an11 cd11 ct11), sl11⟩) (c11 : PySem.W.codeIn K cd11 "_law_shape_of" = true) (k11 : PySem.W.keepIn K (.ref f11) = true)
    {od12 an12 : Option Addr} {sl12 : Array (Option Value)} {oc12 kV12 dc12 pm12 cd12 ct12 : Value}
    (a12 : PySem.W.nsIn K mainGlobals "_law_all_groups" = some (some (.ref f12))) (l12 : K.lookup f12 = some ⟨oc12, od12, .func (PySem.W.fnOf "_law_all_groups" "_law_all_groups" (defArgs s_L_all_groups) (defBody s_L_all_groups) (defScope s_L_all_groups) .none kV12 dc12 pm12 an12 cd12 ct12), sl12⟩) (c12 : PySem.W.codeIn K cd12 "_law_all_groups" = true) (k12 : PySem.W.keepIn K (.ref f12) = true)
    {od13 an13 : Option Addr} {sl13 : Array (Option Value)} {oc13 kV13 dc13 pm13 cd13 ct13 : Value}
    (a13 : PySem.W.nsIn K mainGlobals "_law_full_sheet" = some (some (.ref f13))) (l13 : K.lookup f13 = some ⟨oc13, od13, .func (PySem.W.fnOf "_law_full_sheet" "_law_full_sheet" (defArgs s_L_full_sheet) (defBody s_L_full_sheet) (defScope s_L_full_sheet) .none kV13 dc13 pm13 an13 cd13 ct13), sl13⟩) (c13 : PySem.W.codeIn K cd13 "_law_full_sheet" = true) (k13 : PySem.W.keepIn K (.ref f13) = true)
    {od14 an14 : Option Addr} {sl14 : Array (Option Value)} {oc14 kV14 dc14 pm14 cd14 ct14 : Value}
    (a14 : PySem.W.nsIn K mainGlobals "_law_sheet_by" = some (some (.ref f14))) (l14 : K.lookup f14 = some ⟨oc14, od14, .func (PySem.W.fnOf "_law_sheet_by" "_law_sheet_by" (defArgs s_L_sheet_by) (defBody s_L_sheet_by) (defScope s_L_sheet_by) .none kV14 dc14 pm14 an14 cd14 ct14), sl14⟩) (c14 : PySem.W.codeIn K cd14 "_law_sheet_by" = true) (k14 : PySem.W.keepIn K (.ref f14) = true)
    {od15 an15 : Option Addr} {sl15 : Array (Option Value)} {oc15 kV15 dc15 pm15 cd15 ct15 : Value}
    (a15 : PySem.W.nsIn K mainGlobals "_law_no_twice" = some (some (.ref f15))) (l15 : K.lookup f15 = some ⟨oc15, od15, .func (PySem.W.fnOf "_law_no_twice" "_law_no_twice" (defArgs s_L_no_twice) (defBody s_L_no_twice) (defScope s_L_no_twice) .none kV15 dc15 pm15 an15 cd15 ct15), sl15⟩) (c15 : PySem.W.codeIn K cd15 "_law_no_twice" = true) (k15 : PySem.W.keepIn K (.ref f15) = true)
    {od16 an16 : Option Addr} {sl16 : Array (Option Value)} {oc16 kV16 dc16 pm16 cd16 ct16 : Value}
    (a16 : PySem.W.nsIn K mainGlobals "_law_is_filled_by" = some (some (.ref f16))) (l16 : K.lookup f16 = some ⟨oc16, od16, .func (PySem.W.fnOf "_law_is_filled_by" "_law_is_filled_by" (defArgs s_L_is_filled_by) (defBody s_L_is_filled_by) (defScope s_L_is_filled_by) .none kV16 dc16 pm16 an16 cd16 ct16), sl16⟩) (c16 : PySem.W.codeIn K cd16 "_law_is_filled_by" = true) (k16 : PySem.W.keepIn K (.ref f16) = true)
    {od17 an17 : Option Addr} {sl17 : Array (Option Value)} {oc17 kV17 dc17 pm17 cd17 ct17 : Value}
    (a17 : PySem.W.nsIn K mainGlobals "_law_shape_for" = some (some (.ref f17))) (l17 : K.lookup f17 = some ⟨oc17, od17, .func (PySem.W.fnOf "_law_shape_for" "_law_shape_for" (defArgs s_L_shape_for) (defBody s_L_shape_for) (defScope s_L_shape_for) .none kV17 dc17 pm17 an17 cd17 ct17), sl17⟩) (c17 : PySem.W.codeIn K cd17 "_law_shape_for" = true) (k17 : PySem.W.keepIn K (.ref f17) = true)
    {od18 an18 : Option Addr} {sl18 : Array (Option Value)} {oc18 kV18 dc18 pm18 cd18 ct18 : Value}
    (a18 : PySem.W.nsIn K mainGlobals "law" = some (some (.ref f18))) (l18 : K.lookup f18 = some ⟨oc18, od18, .func (PySem.W.fnOf "law" "law" (defArgs s_law) (defBody s_law) (defScope s_law) .none kV18 dc18 pm18 an18 cd18 ct18), sl18⟩) (c18 : PySem.W.codeIn K cd18 "law" = true) (k18 : PySem.W.keepIn K (.ref f18) = true)
    (z_range : PySem.W.nsIn K mainGlobals "range" = some none)
    (z_len : PySem.W.nsIn K mainGlobals "len" = some none)
    (z_zip : PySem.W.nsIn K mainGlobals "zip" = some none)
    (z_set : PySem.W.nsIn K mainGlobals "set" = some none)
    (z_isinstance : PySem.W.nsIn K mainGlobals "isinstance" = some none)
    (z_bool : PySem.W.nsIn K mainGlobals "bool" = some none)
    (z_int : PySem.W.nsIn K mainGlobals "int" = some none)
    (z_tuple : PySem.W.nsIn K mainGlobals "tuple" = some none)
    (z_list : PySem.W.nsIn K mainGlobals "list" = some none)
    (z_str : PySem.W.nsIn K mainGlobals "str" = some none)
    (z_sum : PySem.W.nsIn K mainGlobals "sum" = some none) :
    ∃ fd : FuncData, (∀ (s : Shared) (v : Value), BindsTo s fd ⟨[v], []⟩ [("_law_script", v)]) ∧ ∀ base : Heap, K.In base → base.Ns mainGlobals mg → FnOk l.prog w K mg base CX0 9 fa fd ["_law_script"] (spLaw K) := by
  have e := hfa.symm.trans (PySem.W.mg_of X G a18)
  cases e
  have F0 := fun_mk (st := s_row_fields) l0 c0 k0
  have b0 := F0.binds (ps := ["size", "row"]) fun _ _ _ _ _ _ us hl => match us, hl with | [_, _], _ => rfl
  have F1 := fun_mk (st := s_column_fields) l1 c1 k1
  have b1 := F1.binds (ps := ["size", "column"]) fun _ _ _ _ _ _ us hl => match us, hl with | [_, _], _ => rfl
  have F2 := fun_mk (st := s_box_fields) l2 c2 k2
  have b2 := F2.binds (ps := ["high", "wide", "box"]) fun _ _ _ _ _ _ us hl => match us, hl with | [_, _, _], _ => rfl
  have F3 := fun_mk (st := s_groups_of) l3 c3 k3
  have b3 := F3.binds (ps := ["high", "wide"]) fun _ _ _ _ _ _ us hl => match us, hl with | [_, _], _ => rfl
  have F4 := fun_mk (st := s_refuse_no_sheet) l4 c4 k4
  have b4 := F4.binds (ps := ["high", "wide", "sheet"]) fun _ _ _ _ _ _ us hl => match us, hl with | [_, _, _], _ => rfl
  have F5 := fun_mk (st := s_keeps_numbers) l5 c5 k5
  have b5 := F5.binds (ps := ["sheet", "filled"]) fun _ _ _ _ _ _ us hl => match us, hl with | [_, _], _ => rfl
  have F6 := fun_mk (st := s_has_twice) l6 c6 k6
  have b6 := F6.binds (ps := ["group", "filled"]) fun _ _ _ _ _ _ us hl => match us, hl with | [_, _], _ => rfl
  have F7 := fun_mk (st := s_fills) l7 c7 k7
  have b7 := F7.binds (ps := ["high", "wide", "sheet", "filled"]) fun _ _ _ _ _ _ us hl => match us, hl with | [_, _, _, _], _ => rfl
  have F8 := fun_mk (st := s_L_whole) l8 c8 k8
  have b8 := F8.binds (ps := ["_law_found"]) fun _ _ _ _ _ _ us hl => match us, hl with | [_], _ => rfl
  have F9 := fun_mk (st := s_L_at) l9 c9 k9
  have b9 := F9.binds (ps := ["_law_script", "_law_k"]) fun _ _ _ _ _ _ us hl => match us, hl with | [_, _], _ => rfl
  have F10 := fun_mk (st := s_L_same) l10 c10 k10
  have b10 := F10.binds (ps := ["_law_found", "_law_due"]) fun _ _ _ _ _ _ us hl => match us, hl with | [_, _], _ => rfl
  have F11 := fun_mk (st := s_L_shape_of) l11 c11 k11
  have b11 := F11.binds (ps := ["_law_cell"]) fun _ _ _ _ _ _ us hl => match us, hl with | [_], _ => rfl
  have F12 := fun_mk (st := s_L_all_groups) l12 c12 k12
  have b12 := F12.binds (ps := ["_law_high", "_law_wide"]) fun _ _ _ _ _ _ us hl => match us, hl with | [_, _], _ => rfl
  have F13 := fun_mk (st := s_L_full_sheet) l13 c13 k13
  have b13 := F13.binds (ps := ["_law_high", "_law_wide", "_law_cell"]) fun _ _ _ _ _ _ us hl => match us, hl with | [_, _, _], _ => rfl
  have F14 := fun_mk (st := s_L_sheet_by) l14 c14 k14
  have b14 := F14.binds (ps := ["_law_filled", "_law_cells", "_law_share"]) fun _ _ _ _ _ _ us hl => match us, hl with | [_, _, _], _ => rfl
  have F15 := fun_mk (st := s_L_no_twice) l15 c15 k15
  have b15 := F15.binds (ps := ["_law_groups", "_law_sheet", "_law_size"]) fun _ _ _ _ _ _ us hl => match us, hl with | [_, _, _], _ => rfl
  have F16 := fun_mk (st := s_L_is_filled_by) l16 c16 k16
  have b16 := F16.binds (ps := ["_law_groups", "_law_sheet", "_law_filled", "_law_size"]) fun _ _ _ _ _ _ us hl => match us, hl with | [_, _, _, _], _ => rfl
  have F17 := fun_mk (st := s_L_shape_for) l17 c17 k17
  have b17 := F17.binds (ps := ["_law_script"]) fun _ _ _ _ _ _ us hl => match us, hl with | [_], _ => rfl
  have F18 := fun_mk (st := s_law) l18 c18 k18
  have b18 := F18.binds (ps := ["_law_script"]) fun _ _ _ _ _ _ us hl => match us, hl with | [_], _ => rfl
  refine ⟨PySem.W.fnOf "law" "law" (defArgs s_law) (defBody s_law) (defScope s_law) .none kV18 dc18 pm18 an18 cd18 ct18, fun s v => .of_eq rfl, fun base _ _ => ?_⟩
  have B := all_ok (P := l.prog) (w := w) (base := base) F0 (PySem.W.mg_of X G a0) b0 F1 (PySem.W.mg_of X G a1) b1 F2 (PySem.W.mg_of X G a2) b2 F3 (PySem.W.mg_of X G a3) b3 F4 (PySem.W.mg_of X G a4) b4 F5 (PySem.W.mg_of X G a5) b5 F6 (PySem.W.mg_of X G a6) b6 F7 (PySem.W.mg_of X G a7) b7 F8 (PySem.W.mg_of X G a8) b8 F9 (PySem.W.mg_of X G a9) b9 F10 (PySem.W.mg_of X G a10) b10 F11 (PySem.W.mg_of X G a11) b11 F12 (PySem.W.mg_of X G a12) b12 F13 (PySem.W.mg_of X G a13) b13 F14 (PySem.W.mg_of X G a14) b14 F15 (PySem.W.mg_of X G a15) b15 F16 (PySem.W.mg_of X G a16) b16 F17 (PySem.W.mg_of X G a17) b17 F18 (PySem.W.mg_of X G a18) b18 (PySem.W.mg_none_of X G z_range) (PySem.W.mg_none_of X G z_len) (PySem.W.mg_none_of X G z_zip) (PySem.W.mg_none_of X G z_set) (PySem.W.mg_none_of X G z_isinstance) (PySem.W.mg_none_of X G z_bool) (PySem.W.mg_none_of X G z_int) (PySem.W.mg_none_of X G z_tuple) (PySem.W.mg_none_of X G z_list) (PySem.W.mg_none_of X G z_str) (PySem.W.mg_none_of X G z_sum) 9
  exact law_ok (B.2.2.2.2.2.2.2.2.2.2.2.2.2.2.2.2.2.2) K2.math
theorem walk {l : PySem.W.OpenLaw} {q : Program} {loose : List Str} {XP : (Str → Option Value) → Heap → Prop} {YP : World → Heap → Prop} {d : DefRec} {K : Params → Fg} (hn : l.most = some 63) (hdf : d.params.defaults = [])
    (hY : ∀ (w : World) (h : Heap), YP w h → (K w.params).In h)
    (F : ∀ (w : World) (mg : Str → Option Value) (fa : Addr) (h : Heap), (K w.params).In h → h.Ns mainGlobals mg → mg d.name = some (.ref fa) →
      ∃ fd : FuncData, (∀ (s : Shared) (u : Value), BindsTo s fd ⟨[u], []⟩ [("_law_script", u)]) ∧ ∀ base : Heap, (K w.params).In base → base.Ns mainGlobals mg → FnOk l.prog w (K w.params) mg base CX0 9 fa fd ["_law_script"] (spLaw (K w.params))) :
    PySem.W.WalkO q loose XP YP l.row.toRowW d [] (fun f vs => PySem.call f vs) :=
  L2.walk_of (n := 63) (k := 9) (x := "_law_script") (CX := fun _ => CX0) (sp := fun w => spLaw (K w.params)) hn (by decide) hdf ⟨rfl, by decide, by decide⟩ hY F (fun _ _ a ns hl hO hS => ⟨a, ns, rfl, hS, hl, hO, fun _ => rfl⟩) fun _ _ _ _ _ z => z
end D_K2
open PySem PySem.W PyProof.Rows
set_option maxRecDepth 100000 in
set_option maxHeartbeats 0 in
theorem PySem.Challenge.cw_bedsheet_k02_fills_holds : PySem.Challenge.rw_bedsheet_k02_fills.Holds := by
  w_on; o_law; k_head; (case hw => w_witness2)
  k_fill
  refine D_K2.walk (l := PySem.Challenge.rw_bedsheet_k02_fills) rfl rfl (fun w h Y => PySem.W.kIn_of Y) ?F
  case F =>
    intro w mg fa h KX G hmg
    refine' D_K2.all_mk KX G hmg ?a0 ?l0 ?c0 ?k0 ?a1 ?l1 ?c1 ?k1 ?a2 ?l2 ?c2 ?k2 ?a3 ?l3 ?c3 ?k3 ?a4 ?l4 ?c4 ?k4 ?a5 ?l5 ?c5 ?k5 ?a6 ?l6 ?c6 ?k6 ?a7 ?l7 ?c7 ?k7 ?a8 ?l8 ?c8 ?k8 ?a9 ?l9 ?c9 ?k9 ?a10 ?l10 ?c10 ?k10 ?a11 ?l11 ?c11 ?k11 ?a12 ?l12 ?c12 ?k12 ?a13 ?l13 ?c13 ?k13 ?a14 ?l14 ?c14 ?k14 ?a15 ?l15 ?c15 ?k15 ?a16 ?l16 ?c16 ?k16 ?a17 ?l17 ?c17 ?k17 ?a18 ?l18 ?c18 ?k18 ?z_range ?z_len ?z_zip ?z_set ?z_isinstance ?z_bool ?z_int ?z_tuple ?z_list ?z_str ?z_sum
    (case a0 => k_is); (case l0 => k_is); (case c0 => k_is); (case k0 => k_is)
    (case a1 => k_is); (case l1 => k_is); (case c1 => k_is); (case k1 => k_is)
    (case a2 => k_is); (case l2 => k_is); (case c2 => k_is); (case k2 => k_is)
    (case a3 => k_is); (case l3 => k_is); (case c3 => k_is); (case k3 => k_is)
    (case a4 => k_is); (case l4 => k_is); (case c4 => k_is); (case k4 => k_is)
    (case a5 => k_is); (case l5 => k_is); (case c5 => k_is); (case k5 => k_is)
    (case a6 => k_is); (case l6 => k_is); (case c6 => k_is); (case k6 => k_is)
    (case a7 => k_is); (case l7 => k_is); (case c7 => k_is); (case k7 => k_is)
    (case a8 => k_is); (case l8 => k_is); (case c8 => k_is); (case k8 => k_is)
    (case a9 => k_is); (case l9 => k_is); (case c9 => k_is); (case k9 => k_is)
    (case a10 => k_is); (case l10 => k_is); (case c10 => k_is); (case k10 => k_is)
    (case a11 => k_is); (case l11 => k_is); (case c11 => k_is); (case k11 => k_is)
    (case a12 => k_is); (case l12 => k_is); (case c12 => k_is); (case k12 => k_is)
    (case a13 => k_is); (case l13 => k_is); (case c13 => k_is); (case k13 => k_is)
    (case a14 => k_is); (case l14 => k_is); (case c14 => k_is); (case k14 => k_is)
    (case a15 => k_is); (case l15 => k_is); (case c15 => k_is); (case k15 => k_is)
    (case a16 => k_is); (case l16 => k_is); (case c16 => k_is); (case k16 => k_is)
    (case a17 => k_is); (case l17 => k_is); (case c17 => k_is); (case k17 => k_is)
    (case a18 => k_is); (case l18 => k_is); (case c18 => k_is); (case k18 => k_is)
    (case z_range => k_is)
    (case z_len => k_is)
    (case z_zip => k_is)
    (case z_set => k_is)
    (case z_isinstance => k_is)
    (case z_bool => k_is)
    (case z_int => k_is)
    (case z_tuple => k_is)
    (case z_list => k_is)
    (case z_str => k_is)
    (case z_sum => k_is)
