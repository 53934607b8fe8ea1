import PyProof.Rows.All
import Wide.All
import OpenK.AllK
import Wide.FinOn
import Lean
import PyProof.EqAt
import PyProof.EqKinds
import PyProof.TupleCall
import PySem.Challenge.RW_bedsheet_k03_follows
section
set_option Elab.async false
set_option linter.all false
set_option maxRecDepth 100000
namespace L2
open PySem PySem.Spec PyProof.Rows
abbrev Key := Sum Int Str
def keyIs : Key → Value → Bool
  | .inl k, v => Value.isInt k v
  | .inr x, v => Value.isStrOf x v
def keyH (w : World) : Key → Int
  | .inl k => hashInt k
  | .inr x => hashStr w x
theorem keyIs_shape : ∀ {k : Key} {v : Value}, keyIs k v = true → (∃ i t, k = Sum.inl i ∧ v = Value.int i t) ∨ (∃ x t, k = Sum.inr x ∧ v = Value.str x t)
  | .inl i, v, h => by
    obtain ⟨t, e⟩ := Value.isInt_shape (k := i) (v := v) h
    exact .inl ⟨i, t, rfl, e⟩
  | .inr x, v, h => by
    obtain ⟨t, e⟩ := Value.isStrOf_shape (x := x) (v := v) h
    exact .inr ⟨x, t, rfl, e⟩
theorem keyIs_int (i : Int) (t : Tok) : keyIs (.inl i) (.int i t) = true := by simp [keyIs, Value.isInt]
theorem keyIs_str (x : Str) (t : Tok) : keyIs (.inr x) (.str x t) = true := by simp [keyIs, Value.isStrOf]
theorem key_ll (a b : Int) : decide ((Sum.inl a : Key) = Sum.inl b) = (a == b) := by
  by_cases e : a = b
  · subst e; simp
  · have h : ¬ (Sum.inl a : Key) = Sum.inl b := fun q => e (Sum.inl.inj q)
    rw [decide_eq_false h]
    exact (beq_eq_false_iff_ne.mpr e).symm
theorem key_rr (a b : Str) : decide ((Sum.inr a : Key) = Sum.inr b) = decide (a = b) := by
  by_cases e : a = b
  · subst e; simp
  · have h : ¬ (Sum.inr a : Key) = Sum.inr b := fun q => e (Sum.inr.inj q)
    rw [decide_eq_false h, decide_eq_false e]
theorem key_lr (a : Int) (b : Str) : decide ((Sum.inl a : Key) = Sum.inr b) = false := decide_eq_false (fun q => nomatch q)
theorem key_rl (a : Str) (b : Int) : decide ((Sum.inr a : Key) = Sum.inl b) = false := decide_eq_false (fun q => nomatch q)
def mixKind (prog : Program) (w : World) : PySem.KeyKind prog w Key where
  is := keyIs
  hash := keyH w
  inj := fun v a b ha hb => by
    rcases keyIs_shape ha with ⟨i, t, rfl, rfl⟩ | ⟨x, t, rfl, rfl⟩
    · rcases keyIs_shape hb with ⟨j, u, rfl, e⟩ | ⟨y, u, rfl, e⟩
      · injection e with e1 _; rw [e1]
      · exact nomatch e
    · rcases keyIs_shape hb with ⟨j, u, rfl, e⟩ | ⟨y, u, rfl, e⟩
      · exact nomatch e
      · injection e with e1 _; rw [e1]
  byValue := fun k v h => by
    rcases keyIs_shape h with ⟨i, t, rfl, rfl⟩ | ⟨x, t, rfl, rfl⟩ <;> rfl
  pyHash := fun hv h => by
    rcases keyIs_shape hv with ⟨i, t, rfl, rfl⟩ | ⟨x, t, rfl, rfl⟩
    · exact wpAny_pyHash_int h
    · exact wpAny_pyHash_str h
  eqBool := fun hu hv h => by
    rcases keyIs_shape hu with ⟨i, t, rfl, rfl⟩ | ⟨x, t, rfl, rfl⟩
    · rcases keyIs_shape hv with ⟨j, u, rfl, rfl⟩ | ⟨y, u, rfl, rfl⟩
      · rw [key_ll] at h; exact wpAny_eqBool_int h
      · rw [key_lr] at h; exact SeqAt.EqAt.int_str i t y u _ _ _ _ h
    · rcases keyIs_shape hv with ⟨j, u, rfl, rfl⟩ | ⟨y, u, rfl, rfl⟩
      · rw [key_rl] at h; exact SeqAt.EqAt.str_int x t j u _ _ _ _ h
      · rw [key_rr] at h; exact wpAny_eqBool_str h
  «strs» := fun k x t v h => by
    rcases keyIs_shape h with ⟨i, u, rfl, e⟩ | ⟨y, u, rfl, e⟩
    · exact nomatch e
    · injection e with e1 _
      subst e1
      cases v <;> rfl
theorem mixKind_int (prog : Program) (w : World) (i : Int) (t : Tok) : (mixKind prog w).is (.inl i) (.int i t) = true := keyIs_int i t
theorem mixKind_str (prog : Program) (w : World) (x : Str) (t : Tok) : (mixKind prog w).is (.inr x) (.str x t) = true := keyIs_str x t
end L2
namespace L2
open PySem PySem.Spec PyProof.Rows
inductive V where
  | non | bl (b : Bool) | int (i : Int) | str (x : Str) | byt (b : Array UInt8) | flt (b : UInt64) | ref (a : Addr) | ty (n : String)
  deriving DecidableEq
def RelV : V → Value → Prop
  | .non, u => u = Value.none
  | .bl b, u => u = Value.bool b
  | .int i, u => ∃ t, u = Value.int i t
  | .str x, u => ∃ t, u = Value.str x t
  | .byt b, u => ∃ t, u = Value.bytes b t
  | .flt b, u => ∃ t, u = Value.float b t
  | .ref a, u => u = Value.ref a
  | .ty n, u => u = Value.type n
abbrev Vals : List V → List Value → Prop := Paired RelV
theorem Vals.length {xs : List V} {us : List Value} (r : Vals xs us) : xs.length = us.length := Paired.length r
theorem Vals.get : ∀ {xs : List V} {us : List Value} {i : Nat} {x : V}, Vals xs us → xs[i]? = some x → ∃ u, us[i]? = some u ∧ RelV x u
  | _, _, _, _, .nil, e => by simp at e
  | _, _, 0, _, .cons r _, e => by simp at e; subst e; exact ⟨_, rfl, r⟩
  | _, _, i + 1, x, .cons _ t, e => by
    obtain ⟨u, h1, h2⟩ := Vals.get (i := i) (x := x) t (by simpa using e)
    exact ⟨u, by simpa using h1, h2⟩
theorem Vals.set {x : V} {u : Value} (r : RelV x u) : ∀ {xs : List V} {us : List Value} (i : Nat), Vals xs us → Vals (xs.set i x) (us.set i u)
  | _, _, _, .nil => .nil
  | _, _, 0, .cons _ t => .cons r t
  | _, _, i + 1, .cons q t => .cons q (Vals.set r i t)
theorem Vals.append : ∀ {xs ys : List V} {us ws : List Value}, Vals xs us → Vals ys ws → Vals (xs ++ ys) (us ++ ws)
  | _, _, _, _, .nil, s => s
  | _, _, _, _, .cons r t, s => .cons r (Vals.append t s)
theorem Vals.take : ∀ {xs : List V} {us : List Value} (n : Nat), Vals xs us → Vals (xs.take n) (us.take n)
  | _, _, 0, _ => .nil
  | _, _, _ + 1, .nil => .nil
  | _, _, n + 1, .cons r t => .cons r (Vals.take n t)
theorem Vals.drop : ∀ {xs : List V} {us : List Value} (n : Nat), Vals xs us → Vals (xs.drop n) (us.drop n)
  | _, _, 0, r => r
  | _, _, _ + 1, .nil => .nil
  | _, _, n + 1, .cons _ t => Vals.drop n t
def RelO : Option V → Option Value → Prop
  | some v, some u => RelV v u
  | none, none => True
  | _, _ => False
def KV {κ : Type} : List (κ × V) → List (κ × Value) → Prop := Paired fun (p : κ × V) (q : κ × Value) => p.1 = q.1 ∧ RelV p.2 q.2
def kV : Key → V
  | .inl i => .int i
  | .inr x => .str x
inductive HO where
    | lst (xs : List V)
    | tup (xs : List V)
    | dK (kvs : List (Key × V)) | dT (kvs : List (List Key × V))
    | set (S : Int → Bool) (n : Nat)
    | ins (C dx : Addr) (fs : List (Str × V))
    | own (x : Addr)
    | xd (fs : List (Str × V))
    | met (f x : Addr)
    | rng (lo hi : Int)
    | frz (o : Obj) (u : HO)
    | tbl (ps : Array Value)
    | ext (φ : Heap → Prop)
abbrev Hp := Addr → Option HO
def upd (H : Hp) (a : Addr) (o : HO) : Hp := fun b => if b = a then some o else H b
theorem upd_same {H : Hp} {a : Addr} {o : HO} : upd H a o a = some o := by unfold upd; rw [if_pos rfl]
theorem upd_ne {H : Hp} {a b : Addr} {o : HO} (h : b ≠ a) : upd H a o b = H b := by unfold upd; rw [if_neg h]
theorem ne_of {H : Hp} {a b : Addr} {o u : HO} (h : H a = some o) (h' : H b = some u) (d : o ≠ u) : a ≠ b := by
  intro e; subst e; rw [h] at h'; exact d (Option.some.inj h')
theorem ne_of_none {H : Hp} {a b : Addr} {o : HO} (h : H a = some o) (h' : H b = none) : a ≠ b := by
  intro e; subst e; rw [h] at h'; cases h'
section
variable (P : Program) (w : World)
def ObjOk (H : Hp) (h : Heap) (a : Addr) : HO → Prop
  | .lst xs => xs.length ≤ sizeLine ∧ ∃ (its : List Value) (n : Nat), Vals xs its ∧ h.get? a = some { cls := .type "list", data := .seq its.toArray n }
  | .tup xs => xs.length ≤ sizeLine ∧ ∃ its : List Value, Vals xs its ∧ IsTup h a its.toArray
  | .dK kvs => kvs.length ≤ sizeLine ∧ (a == sysModules) = false ∧ ∃ vs, KV kvs vs ∧ h.DictOf (mixKind P w) a vs
  | .dT kvs => kvs.length ≤ sizeLine ∧ (a == sysModules) = false ∧ ∃ xs : List (List Key × Addr × Value),
      Paired (fun (p : List Key × V) (q : List Key × Addr × Value) => p.1 = q.1 ∧ H q.2.1 = some (.tup (p.1.map kV)) ∧ RelV p.2 q.2.2) kvs xs ∧
      ∃ o es ep, h.get? a = some o ∧ o.ExactDict ∧ o.data = .dict es ep ∧ es.toList = xs.map (entryOfKey (tupleKind (mixKind P w))) ∧ (xs.map (·.1)).Nodup
  | .set S n => h.SetOf (intKind P w) a S n
  | .ins C dx fs => H dx = some (.own a) ∧ fs.length ≤ 1000 ∧ dx ≠ a ∧ h.get? a = some (PySem.W.instObj C dx) ∧
      ∃ mA, h.Ns1 dx mA ∧ (∀ f, RelO (fs.lookup f) (mA f)) ∧ PySem.Within mA (fs.map (·.1))
  | .own _ => ∃ o, h.get? a = some o
  | .xd fs => ∃ mA, h.Ns1 a mA ∧ ∀ f, RelO (fs.lookup f) (mA f)
  | .rng lo hi => ∃ t u v, h.get? a = some { cls := .type "range", data := .fields #[.int lo t, .int hi u, .int 1 v] }
  | .frz o u => h.get? a = some o ∧ ObjOk H h a u
  | .tbl ps => h.get? a = some { cls := .none, data := .fields ps }
  | .met f x => h.get? a = some (PySem.W.methodObj (.ref f) (.ref x))
  | .ext φ => φ h ∧ (∃ o, h.get? a = some o) ∧ ∀ h1 h2 : Heap, φ h1 → (∀ o, h1.get? a = some o → h2.get? a = some o) → φ h2
def HOk (H : Hp) (h : Heap) : Prop := ∀ a o, H a = some o → ObjOk P w H h a o
end
section
variable {P : Program} {w : World} {H H' : Hp} {h h' : Heap} {a : Addr} {o : HO}
theorem ObjOk.lt (x : ObjOk P w H h a o) : a < h.objs.size := by
  cases o with
  | lst xs => obtain ⟨_, _, _, _, e⟩ := x; exact Heap.lt_size e
  | tup xs => obtain ⟨_, _, _, p⟩ := x; exact p.lt
  | dK kvs => obtain ⟨_, _, _, _, o, _, _, e, _⟩ := x; exact Heap.lt_size e
  | dT kvs => obtain ⟨_, _, _, _, o, _, _, e, _⟩ := x; exact Heap.lt_size e
  | set S n => obtain ⟨o, _, _, _, e, _⟩ := x; exact Heap.lt_size e
  | ins C dx fs => obtain ⟨_, _, _, e, _⟩ := x; exact Heap.lt_size e
  | own y => obtain ⟨_, e⟩ := x; exact Heap.lt_size e
  | xd fs => obtain ⟨_, ⟨_, _, _, e, _⟩, _⟩ := x; exact Heap.lt_size e
  | rng lo hi => obtain ⟨_, _, _, e⟩ := x; exact Heap.lt_size e
  | frz ob u => obtain ⟨e, _⟩ := x; exact Heap.lt_size e
  | tbl ps => exact Heap.lt_size (show h.get? a = some _ from x)
  | met f y => exact Heap.lt_size (show h.get? a = some _ from x)
  | ext φ => obtain ⟨_, ⟨_, e⟩, _⟩ := x; exact Heap.lt_size e
theorem Paired.mapP {α β : Type} {F G : α → β → Prop} : ∀ {l₁ : List α} {l₂ : List β}, Paired F l₁ l₂ → (∀ a b, F a b → G a b) → Paired G l₁ l₂
  | _, _, .nil, _ => .nil
  | _, _, .cons r t, f => .cons (f _ _ r) (Paired.mapP t f)
theorem ObjOk.stay (x : ObjOk P w H h a o) (k : ∀ b u, (b = a ∨ H b = some (.own a)) → h.get? b = some u → h'.get? b = some u)
    (ho : ∀ b, H b = some (.own a) → H' b = some (.own a)) (ht : ∀ b xs, H b = some (.tup xs) → H' b = some (.tup xs)) : ObjOk P w H' h' a o := by
  induction o with
  | lst xs => obtain ⟨z, its, n, r, e⟩ := x; exact ⟨z, its, n, r, k _ _ (.inl rfl) e⟩
  | tup xs => obtain ⟨z, its, r, ob, e, c⟩ := x; exact ⟨z, its, r, ob, k _ _ (.inl rfl) e, c⟩
  | dK kvs => obtain ⟨z, y, vs, r, ob, es, ep, e, c⟩ := x; exact ⟨z, y, vs, r, ob, es, ep, k _ _ (.inl rfl) e, c⟩
  | dT kvs =>
    obtain ⟨z, y, xs, r, ob, es, ep, e, c⟩ := x
    exact ⟨z, y, xs, Paired.mapP r fun p q z => ⟨z.1, ht _ _ z.2.1, z.2.2⟩, ob, es, ep, k _ _ (.inl rfl) e, c⟩
  | set S n => obtain ⟨ob, es, ep, t, e, c⟩ := x; exact ⟨ob, es, ep, t, k _ _ (.inl rfl) e, c⟩
  | ins C dx fs =>
    obtain ⟨d, z, ne, e, mA, ⟨od, es, ep, e2, c⟩, r⟩ := x
    exact ⟨ho _ d, z, ne, k _ _ (.inl rfl) e, mA, ⟨od, es, ep, k _ _ (.inr d) e2, c⟩, r⟩
  | own y => obtain ⟨ob, e⟩ := x; exact ⟨ob, k _ _ (.inl rfl) e⟩
  | xd fs => obtain ⟨mA, ⟨od, es, ep, e, c⟩, r⟩ := x; exact ⟨mA, ⟨od, es, ep, k _ _ (.inl rfl) e, c⟩, r⟩
  | rng lo hi => obtain ⟨t, u, v, e⟩ := x; exact ⟨t, u, v, k _ _ (.inl rfl) e⟩
  | frz ob u ih => obtain ⟨e, q⟩ := x; exact ⟨k _ _ (.inl rfl) e, ih q⟩
  | tbl ps =>
    have e : h.get? a = some { cls := .none, data := .fields ps } := x
    show h'.get? a = some { cls := .none, data := .fields ps }
    exact k a _ (.inl rfl) e
  | met f y =>
    have e : h.get? a = some (PySem.W.methodObj (.ref f) (.ref y)) := x
    show h'.get? a = some (PySem.W.methodObj (.ref f) (.ref y))
    exact k a _ (.inl rfl) e
  | ext φ => obtain ⟨p, ⟨o, e⟩, st⟩ := x; exact ⟨st _ _ p fun o q => k _ _ (.inl rfl) q, ⟨o, k _ _ (.inl rfl) e⟩, st⟩
theorem HOk.lt (x : HOk P w H h) (e : H a = some o) : a < h.objs.size := (x a o e).lt
theorem HOk.fresh (x : HOk P w H h) (e : h.objs.size ≤ a) : H a = none := by
  cases q : H a with
  | none => rfl
  | some u => exact absurd (Nat.lt_of_lt_of_le (x.lt q) e) (Nat.lt_irrefl _)
theorem HOk.kept (x : HOk P w H h) (k : ∀ b u, h.get? b = some u → h'.get? b = some u) : HOk P w H h' := fun a o e =>
  (x a o e).stay (fun b u _ q => k b u q) (fun _ q => q) fun _ _ q => q
theorem HOk.laid (x : HOk P w H h) (k : ∀ b u, h.get? b = some u → h'.get? b = some u) (hp : h.objs.size ≤ a) (new : ObjOk P w (upd H a o) h' a o) : HOk P w (upd H a o) h' := fun b u e => by
  have hn := x.fresh hp
  by_cases hb : b = a
  · subst hb; rw [upd_same] at e; cases e; exact new
  · rw [upd_ne hb] at e
    exact (x b u e).stay (fun c v _ q => k c v q) (fun c q => by rw [upd_ne (ne_of_none q hn)]; exact q) fun c xs q => by rw [upd_ne (ne_of_none q hn)]; exact q
end
def Rd (H : Hp) (a : Addr) (u : HO) : Prop := H a = some u ∨ ∃ o, H a = some (.frz o u)
theorem Rd.ok {P : Program} {w : World} {H : Hp} {h : Heap} {a : Addr} {u : HO} (r : Rd H a u) (x : HOk P w H h) : ObjOk P w H h a u := by
  rcases r with r | ⟨o, r⟩
  · exact x a u r
  · obtain ⟨_, q⟩ := x a _ r
    exact q
def Mut : Option HO → Prop
  | some (.lst _) => True
  | some (.dK _) => True
  | some (.dT _) => True
  | some (.set _ _) => True
  | some (.ins _ _ _) => True
  | some (.ext _) => True
  | _ => False
section
variable {P : Program} {w : World} {H : Hp} {h h' : Heap} {x e : Addr} {o' : HO}
theorem HOk.write (ok : HOk P w H h) (mu : Mut (H x)) (he : e = x ∨ H e = some (.own x)) (k : ∀ b u, b ≠ e → h.get? b = some u → h'.get? b = some u) (heo : ∃ u, h'.get? e = some u)
    (new : ObjOk P w (upd H x o') h' x o') : HOk P w (upd H x o') h' := fun b u q => by
  have nown : ∀ c y, H c = some (.own y) → c ≠ x := fun c y r z => by subst z; rw [r] at mu; exact mu
  have ntup : ∀ c xs, H c = some (.tup xs) → c ≠ x := fun c xs r z => by subst z; rw [r] at mu; exact mu
  by_cases hb : b = x
  · subst hb; rw [upd_same] at q; cases q; exact new
  · rw [upd_ne hb] at q
    by_cases hbe : b = e
    · have q' : H b = some (.own x) := by
        rcases he with z | z
        · exact absurd (hbe.trans z) hb
        · rw [hbe]; exact z
      rw [q] at q'; cases q'
      obtain ⟨v, hv⟩ := heo
      exact ⟨v, by rw [hbe]; exact hv⟩
    · refine (ok b u q).stay (fun c v hc r => k c v ?_ r) (fun c r => by rw [upd_ne (nown c b r)]; exact r) fun c xs r => by rw [upd_ne (ntup c xs r)]; exact r
      rcases hc with rfl | hc
      · exact hbe
      · rintro rfl
        rcases he with z | z
        · exact nown c b hc z
        · rw [hc] at z; cases z; exact hb rfl
end
structure Un (fs ex : List Addr) (H H' : Hp) (h h' : Heap) : Prop where
  keep : ∀ b o, h.get? b = some o → H b = none → b ∉ fs → b ∉ ex → h'.get? b = some o
  slot : ∀ b o, h.get? b = some o → H b = none → b ∈ fs → b ∉ ex → ∃ sl, h'.get? b = some { o with slots := sl }
  free : ∀ b o, h.get? b = some o → H b = none → b ∉ ex → H' b = none
  there : ∀ b o, h.get? b = some o → b ∉ ex → ∃ o', h'.get? b = some o'
  tups : ∀ b xs, H b = some (.tup xs) → H' b = some (.tup xs)
  frzs : ∀ b o u, H b = some (.frz o u) → H' b = some (.frz o u)
  tbls : ∀ b ps, H b = some (.tbl ps) → ∃ more, H' b = some (.tbl (ps ++ more))
section
variable {fs fs' ex ex' : List Addr} {H H1 H2 : Hp} {h h1 h2 h' : Heap} {a x e : Addr} {o : HO}
theorem Un.any (u : Un fs ex H H1 h h1) {b : Addr} {ob : Obj} (q : h.get? b = some ob) (n : H b = none) (hx : b ∉ ex) : ∃ sl, h1.get? b = some { ob with slots := sl } := by
  by_cases hb : b ∈ fs
  · exact u.slot b ob q n hb hx
  · exact ⟨ob.slots, u.keep b ob q n hb hx⟩
theorem Un.kept (k : ∀ b u, h.get? b = some u → h'.get? b = some u) : Un fs ex H H h h' :=
  ⟨fun b ob q _ _ _ => k b ob q, fun b ob q _ _ _ => ⟨ob.slots, k b ob q⟩, fun _ _ _ n _ => n, fun b ob q _ => ⟨ob, k b ob q⟩, fun _ _ q => q, fun _ _ _ q => q, fun _ ps q => ⟨#[], by rw [q]; simp⟩⟩
theorem Un.refl : Un fs ex H H h h := Un.kept fun _ _ q => q
theorem Un.laid (k : ∀ b u, h.get? b = some u → h'.get? b = some u) (hp : h.objs.size ≤ a) (hn : H a = none) : Un fs ex H (upd H a o) h h' where
  keep := fun b u q _ _ _ => k b u q
  slot := fun b u q _ _ _ => ⟨u.slots, k b u q⟩
  free := fun b u q n _ => by rw [upd_ne (Nat.ne_of_lt (Nat.lt_of_lt_of_le (Heap.lt_size q) hp))]; exact n
  there := fun b u q _ => ⟨u, k b u q⟩
  tups := fun b xs q => by rw [upd_ne (ne_of_none q hn)]; exact q
  frzs := fun b u xs q => by rw [upd_ne (ne_of_none q hn)]; exact q
  tbls := fun b ps q => ⟨#[], by rw [upd_ne (ne_of_none q hn), q]; simp⟩
theorem Un.write (mu : Mut (H x)) (he : e = x ∨ H e = some (.own x)) (k : ∀ b u, b ≠ e → h.get? b = some u → h'.get? b = some u) (heo : ∃ u, h'.get? e = some u) : Un fs ex H (upd H x o) h h' := by
  have hx : ∀ b, H b = none → b ≠ x := fun b n z => by subst z; rw [n] at mu; exact mu
  have hb : ∀ b, H b = none → b ≠ e := fun b n z => by
    subst z
    rcases he with r | r
    · exact hx b n r
    · rw [n] at r; cases r
  have hm : ∀ b u, H b = some u → ¬ Mut (some u) → b ≠ x := fun b u q nm z => by subst z; rw [q] at mu; exact nm mu
  refine ⟨fun b u q n _ _ => k b u (hb b n) q, fun b u q n _ _ => ⟨u.slots, k b u (hb b n) q⟩, fun b u q n _ => by rw [upd_ne (hx b n)]; exact n, fun b u q _ => ?_,
    fun b xs q => by rw [upd_ne (hm b _ q fun z => z)]; exact q, fun b u xs q => by rw [upd_ne (hm b _ q fun z => z)]; exact q, fun b ps q => ⟨#[], by rw [upd_ne (hm b _ q fun z => z), q]; simp⟩⟩
  by_cases hbe : b = e
  · subst hbe; exact heo
  · exact ⟨u, k b u hbe q⟩
end
def trk (h : Heap) (H : Hp) : List Addr := (List.range h.objs.size).filter fun a => (H a).isSome
def hidT (h : Heap) (H : Hp) : Heap := PySem.W.hideAll h (trk h H)
theorem hidT_size (h : Heap) (H : Hp) : (hidT h H).objs.size = h.objs.size := PySem.W.hideAll_size _ _
theorem hidT_get {h : Heap} {H : Hp} {b : Addr} {o : Obj} (e : h.get? b = some o) (n : H b = none) : (hidT h H).get? b = some o :=
  PySem.W.hideAll_get _ e fun hm => by
    have q : (H b).isSome = true := (List.mem_filter.mp hm).2
    rw [n] at q; simp at q
theorem of_hidT {h : Heap} {H : Hp} {b : Addr} {o : Obj} (e : (hidT h H).get? b = some o) : h.get? b = some o ∧ H b = none := by
  have e' : h.get? b = some o := PySem.W.of_hideAll (trk h H) e
  refine ⟨e', ?_⟩
  cases q : H b with
  | none => rfl
  | some x =>
    have hm : b ∈ trk h H := List.mem_filter.mpr ⟨List.mem_range.mpr (Heap.lt_size e'), by simp [q]⟩
    have z : (hidT h H).get? b = none := PySem.W.hideAll_none (trk h H) hm
    rw [z] at e; cases e
def allNews (g h : Heap) (L : Addr) : List (Addr × Obj) := (List.range h.objs.size).filterMap fun a => if a = L ∨ (g.get? a).isSome = true then none else (h.get? a).map fun o => (a, o)
def rest (g h : Heap) (L d : Addr) : List (Addr × Obj) := (allNews g h L).filter fun p => decide (p.1 ≠ d)
end L2
namespace L2
open PySem PySem.Spec PyProof.Rows
structure Mod (K : PySem.W.Frag) (mg : Str → Option Value) (base : Heap) : Prop where
  kin : K.In base
  glob : base.Ns mainGlobals mg
  blt : ∃ mb, base.Ns builtinsNs mb ∧ ∀ x : Str, x ≠ "__name__" → mb x = bootBuiltins x
  nolimit : base.NoLimit
structure Cx where
  prog : Program
  w : World
  K : PySem.W.Frag
  mg : Str → Option Value
  base : Heap
  A : Around
  N : List Str
  s₀ : Shared
  H₀ : Hp
  env : Env
  outer : List Env
  stack : List Env
  ex : List Addr
  fn : Str → Bool
  calm : Bool
  pn : List (Addr × Obj)
  xe : Value → Shared → Prop
def frs (l : List Env) : List Addr := l.filterMap (·.frame)
abbrev Cx.fs (X : Cx) : List Addr := frs X.outer
def Vis (sc : Scope) (x : Str) : Prop := sc.names.lookup x = some .local ∨ sc.names.lookup x = some .cell ∨ sc.names.lookup x = some .free
def Loc (sc : Scope) (x : Str) : Prop := sc.names.lookup x = some .local ∨ sc.names.lookup x = some .cell
def Look (env : Env) (h : Heap) (m : Str → Option Value) (x : Str) (u : Value) : Prop :=
  (env.kindOf x = some .local ∧ m x = some u) ∨ ((env.kindOf x = some .cell ∨ env.kindOf x = some .free) ∧ ∃ c, env.cells.lookup x = some c ∧ h.IsCell c (some u))
structure Cx.Ok (X : Cx) : Prop where
  mod : Mod X.K X.mg X.base
  kind : X.env.scope.kind = .function
  glob : X.env.globals = mainGlobals
  blt : X.env.builtins = builtinsNs
  above : X.s₀.heap.objs.size ≤ X.env.locals
  inj : ∀ x y c, X.env.cells.lookup x = some c → X.env.cells.lookup y = some c → x = y
  has : ∀ x, (X.env.kindOf x = some .cell ∨ X.env.kindOf x = some .free) → ∃ c, X.env.cells.lookup x = some c
  cab : ∀ x c, X.fn x = true → X.env.cells.lookup x = some c → X.s₀.heap.objs.size ≤ c
  hd : X.calm = true → X.A.handled = none
  frames : X.A.frames = some X.stack
  stk : X.stack = X.outer ∨ (X.stack = X.env :: X.outer ∧ X.env.frame = some X.env.locals)
  exf : ∀ b ∈ X.ex, b ≠ X.env.locals ∧ ∀ x c, X.env.cells.lookup x = some c → c ≠ b
  bs : ∀ b o, X.base.get? b = some o → X.s₀.heap.get? b = some o ∧ X.H₀ b = none
  bsz : X.base.objs.size ≤ X.s₀.heap.objs.size
  noex : ∀ b o, X.base.get? b = some o → b ∉ X.ex
  exfs : ∀ b ∈ X.ex, b ∉ X.fs
  funs : X.s₀.heap.FunFrames X.base X.outer
  frf : ∀ b ∈ X.fs, X.H₀ b = none
structure Inv (X : Cx) (pins : List (Addr × Obj)) (σ : List (Option V)) (H : Hp) (s : Shared) : Prop where
  ok : X.Ok
  os : s.os = X.s₀.os
  bare : AllBare s.gens
  base : Un X.fs X.ex X.H₀ H X.s₀.heap s.heap
  loc : ∃ m, s.heap.Ns X.env.locals m ∧ ∀ (i : Nat) (x : Str) (v : V), X.N[i]? = some x → σ[i]? = some (some v) → Vis X.env.scope x → ∃ u, RelV v u ∧ Look X.env s.heap m x u
  cell : ∀ x c, X.env.cells.lookup x = some c → ∃ v, s.heap.IsCell c v
  free : H X.env.locals = none
  freeC : ∀ x c, X.env.cells.lookup x = some c → H c = none
  pin : ∀ p ∈ X.pn ++ pins, s.heap.get? p.1 = some p.2 ∧ H p.1 = none ∧ p.1 ≠ X.env.locals ∧ p.1 ∉ X.fs ∧ ∀ v, p.2.data ≠ .cell v
  hok : HOk X.prog X.w H s.heap
  len : σ.length = X.N.length
section
variable {X : Cx} {pins : List (Addr × Obj)} {σ : List (Option V)} {H H' : Hp} {s : Shared} {h' : Heap}
theorem Cx.Ok.nofr (ok : X.Ok) {b : Addr} {o : Obj} (e : X.base.get? b = some o) : b ∉ X.fs := fun hb => by
  have := (ok.funs.mem hb).1
  rw [e] at this; cases this
theorem Inv.bs (I : Inv X pins σ H s) : ∀ b o, X.base.get? b = some o → s.heap.get? b = some o ∧ H b = none := fun b o e =>
  ⟨I.base.keep b o (I.ok.bs b o e).1 (I.ok.bs b o e).2 (I.ok.nofr e) (I.ok.noex b o e), I.base.free b o (I.ok.bs b o e).1 (I.ok.bs b o e).2 (I.ok.noex b o e)⟩
theorem Inv.bk (I : Inv X pins σ H s) : ∀ b o, X.base.get? b = some o → s.heap.get? b = some o := fun b o e => (I.bs b o e).1
theorem Inv.mod (I : Inv X pins σ H s) : Mod X.K X.mg X.base := I.ok.mod
theorem Inv.kIn (I : Inv X pins σ H s) : X.K.In s.heap := I.ok.mod.kin.keeps I.bk
theorem Inv.lt (I : Inv X pins σ H s) : X.env.locals < s.heap.objs.size := let ⟨_, hn, _⟩ := I.loc; hn.lt
theorem Inv.sz (I : Inv X pins σ H s) : X.s₀.heap.objs.size ≤ s.heap.objs.size := Nat.le_trans I.ok.above (Nat.le_of_lt I.lt)
theorem Inv.nofs (I : Inv X pins σ H s) {a : Addr} (h : s.heap.objs.size ≤ a) : a ∉ X.fs := fun hb => by
  obtain ⟨_, o, ho, _⟩ := I.ok.funs.mem hb
  exact absurd (Nat.lt_of_lt_of_le (Heap.lt_size ho) (Nat.le_trans I.sz h)) (Nat.lt_irrefl _)
theorem Inv.cne (I : Inv X pins σ H s) : ∀ x c, X.env.cells.lookup x = some c → c ≠ X.env.locals := fun x c e z => by
  obtain ⟨v, o, ho, hd⟩ := I.cell x c e
  obtain ⟨m, ⟨o', es, ep, ho', hd', _⟩, _⟩ := I.loc
  rw [z, ho'] at ho; cases ho; rw [hd'] at hd; cases hd
theorem Inv.funs (I : Inv X pins σ H s) : s.heap.FunFrames X.base X.outer := by
  have all : ∀ (l : List Env), (∀ b ∈ frs l, b ∈ X.fs) → X.s₀.heap.FunFrames X.base l → s.heap.FunFrames X.base l := by
    intro l
    induction l with
    | nil => intro _ _; trivial
    | cons env r ih =>
      intro hs hl
      obtain ⟨hk, ⟨L, o, hf, hn, ho, hd⟩, hr⟩ := hl
      have hL : L ∈ X.fs := hs L (by unfold frs; rw [List.filterMap_cons, hf]; exact List.mem_cons_self)
      obtain ⟨sl, e⟩ := I.base.slot L o ho (I.ok.frf L hL) hL fun z => I.ok.exfs L z hL
      exact ⟨hk, ⟨L, _, hf, hn, e, hd⟩, ih (fun b hb => hs b (by unfold frs; rw [List.filterMap_cons, hf]; exact List.mem_cons_of_mem _ hb)) hr⟩
  exact all X.outer (fun _ hb => hb) I.ok.funs
theorem Inv.stack (I : Inv X pins σ H s) : s.heap.FunFrames X.base X.stack := by
  rcases I.ok.stk with e | ⟨e, hf⟩
  · rw [e]; exact I.funs
  · rw [e]
    obtain ⟨m, hn, _⟩ := I.loc
    refine .cons (by rw [I.ok.kind]; decide) hf hn ?_ I.funs
    exact Heap.get?_none_of_le (Nat.le_trans I.ok.bsz I.ok.above)
theorem Inv.stkSub (I : Inv X pins σ H s) : ∀ b ∈ frs X.stack, b ∈ X.env.locals :: X.fs := fun b hb => by
  rcases I.ok.stk with e | ⟨e, hf⟩
  · rw [e] at hb; exact List.mem_cons_of_mem _ hb
  · rw [e] at hb
    unfold frs at hb
    rw [List.filterMap_cons, hf] at hb
    exact hb
theorem Inv.stkFree (I : Inv X pins σ H s) : ∀ b ∈ frs X.stack, H b = none := fun b hb => by
  rcases List.mem_cons.mp (I.stkSub b hb) with e | hb
  · rw [e]; exact I.free
  · obtain ⟨_, o, ho, _⟩ := I.ok.funs.mem hb
    exact I.base.free b o ho (I.ok.frf b hb) fun z => I.ok.exfs b z hb
theorem Inv.step {g' : Array GenState} {t' : Nat} {d' : Drawn} {ch : List Addr} (I : Inv X pins σ H s)
    (hch : ∀ b ∈ ch, (b ∈ X.ex ∨ X.s₀.heap.objs.size ≤ b) ∧ b ≠ X.env.locals ∧ (∀ x c, X.env.cells.lookup x = some c → c ≠ b) ∧ ∀ p ∈ X.pn ++ pins, p.1 ≠ b)
    (keep : ∀ b o, b ≠ X.env.locals → b ∉ X.fs → b ∉ ch → s.heap.get? b = some o → H b = none → h'.get? b = some o)
    (slot : ∀ b o, b ≠ X.env.locals → b ∈ X.fs → b ∉ ch → s.heap.get? b = some o → H b = none → ∃ sl, h'.get? b = some { o with slots := sl }) (free : ∀ b o, b ∉ ch → s.heap.get? b = some o → H b = none → H' b = none)
    (there : ∀ b o, b ∉ ch → s.heap.get? b = some o → ∃ o', h'.get? b = some o')
    (tups : ∀ b xs, H b = some (.tup xs) → H' b = some (.tup xs)) (frzs : ∀ b o u, H b = some (.frz o u) → H' b = some (.frz o u)) (tbls : ∀ b ps, H b = some (.tbl ps) → ∃ more, H' b = some (.tbl (ps ++ more)))
    (ns : ∀ m, s.heap.Ns X.env.locals m → h'.Ns X.env.locals m) (hok : HOk X.prog X.w H' h') (hg : AllBare g') :
    Inv X pins σ H' { s with heap := h', gens := g', drawn := d', toks := t' } := by
  have neL : ∀ b o, X.s₀.heap.get? b = some o → b ≠ X.env.locals := fun b o e => Nat.ne_of_lt (Nat.lt_of_lt_of_le (Heap.lt_size e) I.ok.above)
  have neC : ∀ b o, X.s₀.heap.get? b = some o → b ∉ X.ex → b ∉ ch := fun b o e hx hb => by
    rcases (hch b hb).1 with z | z
    · exact hx z
    · exact absurd (Nat.lt_of_lt_of_le (Heap.lt_size e) z) (Nat.lt_irrefl _)
  have cellK : ∀ x c, X.env.cells.lookup x = some c → ∀ v, s.heap.IsCell c v → h'.IsCell c v := fun x c e v ⟨o, ho, hd⟩ => by
    have nch : c ∉ ch := fun z => (hch c z).2.2.1 x c e rfl
    by_cases hc : c ∈ X.fs
    · obtain ⟨sl, q⟩ := slot c o (I.cne x c e) hc nch ho (I.freeC x c e)
      exact ⟨_, q, hd⟩
    · exact ⟨o, keep c o (I.cne x c e) hc nch ho (I.freeC x c e), hd⟩
  refine ⟨I.ok, I.os, hg, ⟨fun b o e n hb hx => ?_, fun b o e n hb hx => ?_, fun b o e n hx => ?_, fun b o e hx => ?_, fun b xs e => tups b xs (I.base.tups b xs e), fun b o xs e => frzs b o xs (I.base.frzs b o xs e), fun b ps e => ?_⟩, ?_, fun x c e => ?_, ?_, fun x c e => ?_, fun p hp => ?_, hok, I.len⟩
  · exact keep b o (neL b o e) hb (neC b o e hx) (I.base.keep b o e n hb hx) (I.base.free b o e n hx)
  · obtain ⟨sl, e1⟩ := I.base.slot b o e n hb hx
    obtain ⟨sl', e2⟩ := slot b _ (neL b o e) hb (neC b o e hx) e1 (I.base.free b o e n hx)
    exact ⟨sl', e2⟩
  · obtain ⟨o', e1⟩ := I.base.there b o e hx
    exact free b o' (neC b o e hx) e1 (I.base.free b o e n hx)
  · obtain ⟨o', e1⟩ := I.base.there b o e hx
    exact there b o' (neC b o e hx) e1
  · obtain ⟨m1, e1⟩ := I.base.tbls b ps e
    obtain ⟨m2, e2⟩ := tbls b _ e1
    exact ⟨m1 ++ m2, by rw [e2, Array.append_assoc]⟩
  · obtain ⟨m, hn, hl⟩ := I.loc
    refine ⟨m, ns m hn, fun i x v e1 e2 e3 => ?_⟩
    obtain ⟨u, r, l⟩ := hl i x v e1 e2 e3
    refine ⟨u, r, ?_⟩
    rcases l with l | ⟨k, c, e, z⟩
    · exact .inl l
    · exact .inr ⟨k, c, e, cellK x c e _ z⟩
  · obtain ⟨v, z⟩ := I.cell x c e
    exact ⟨v, cellK x c e v z⟩
  · obtain ⟨m, ⟨o, _, _, ho, _⟩, _⟩ := I.loc
    exact free _ o (fun z => (hch _ z).2.1 rfl) ho I.free
  · obtain ⟨v, o, ho, hd⟩ := I.cell x c e
    exact free c o (fun z => (hch c z).2.2.1 x c e rfl) ho (I.freeC x c e)
  · obtain ⟨e, n, ne, nf, d⟩ := I.pin p hp
    have nch : p.1 ∉ ch := fun z => (hch p.1 z).2.2.2 p hp rfl
    exact ⟨keep p.1 p.2 ne nf nch e n, free p.1 p.2 nch e n, ne, nf, d⟩
theorem Inv.un {t' : Nat} (I : Inv X pins σ H s) (u : Un X.fs [] H H' s.heap h') (hok : HOk X.prog X.w H' h') : Inv X pins σ H' { s with heap := h', toks := t' } := by
  obtain ⟨m, ⟨o, es, ep, ho, r⟩, _⟩ := id I.loc
  obtain ⟨sl, hL⟩ := u.any ho I.free (by simp)
  exact I.step (g' := s.gens) (d' := s.drawn) (ch := []) (fun _ z => nomatch z) (fun b o _ hb _ e n => u.keep b o e n hb (by simp)) (fun b o _ hb _ e n => u.slot b o e n hb (by simp)) (fun b o _ e n => u.free b o e n (by simp)) (fun b o _ e => u.there b o e (by simp)) u.tups u.frzs u.tbls (fun m' hm => by
    obtain ⟨o', es', ep', ho', r'⟩ := hm
    rw [ho] at ho'; cases ho'
    exact ⟨_, es', ep', hL, r'⟩) hok I.bare
theorem Inv.call {g' : Array GenState} {t' : Nat} {d' : Drawn} {ch : List Addr} (I : Inv X pins σ H s) (u : Un (frs X.stack) ch H H' s.heap h') (hok : HOk X.prog X.w H' h') (hg : AllBare g')
    (hch : ∀ b ∈ ch, (b ∈ X.ex ∨ X.s₀.heap.objs.size ≤ b) ∧ b ≠ X.env.locals ∧ (∀ x c, X.env.cells.lookup x = some c → c ≠ b) ∧ ∀ p ∈ X.pn ++ pins, p.1 ≠ b) :
    Inv X pins σ H' { s with heap := h', gens := g', drawn := d', toks := t' } := by
  obtain ⟨m, ⟨o, es, ep, ho, r⟩, _⟩ := id I.loc
  obtain ⟨sl, hL⟩ := u.any ho I.free fun z => (hch _ z).2.1 rfl
  exact I.step (ch := ch) hch (fun b o hL hb hc e n => u.keep b o e n (fun z => (List.mem_cons.mp (I.stkSub b z)).elim hL hb) hc) (fun b o _ _ hc e n => u.any e n hc) (fun b o hc e n => u.free b o e n hc) (fun b o hc e => u.there b o e hc) u.tups u.frzs u.tbls (fun m' hm => by
    obtain ⟨o', es', ep', ho', r'⟩ := hm
    rw [ho] at ho'; cases ho'
    exact ⟨_, es', ep', hL, r'⟩) hok hg
theorem Inv.turned {t' : Nat} {it : Addr} (I : Inv X pins σ H s) (k : ∀ b o, b ≠ it → s.heap.get? b = some o → h'.get? b = some o) (hn : H it = none) (hL : it ≠ X.env.locals)
    (h1 : it ∈ X.ex ∨ X.s₀.heap.objs.size ≤ it) (h2 : ∀ x c, X.env.cells.lookup x = some c → c ≠ it) (h3 : ∀ p ∈ X.pn ++ pins, p.1 ≠ it) : Inv X pins σ H { s with heap := h', toks := t' } := by
  have nit : ∀ b u, H b = some u → b ≠ it := fun b u e z => by rw [z, hn] at e; cases e
  refine I.step (g' := s.gens) (d' := s.drawn) (ch := [it]) (fun b hb => ?_) (fun b o _ _ hc e _ => k b o (fun z => hc (by simp [z])) e) (fun b o _ _ hc e _ => ⟨o.slots, k b o (fun z => hc (by simp [z])) e⟩) (fun _ _ _ _ n => n)
    (fun b o hc e => ⟨o, k b o (fun z => hc (by simp [z])) e⟩) (fun _ _ e => e) (fun _ _ _ e => e) (fun b ps e => ⟨#[], by rw [e]; simp⟩) (fun m hm => ?_) (fun b u e => ?_) I.bare
  · have e : b = it := by simpa using hb
    subst e
    exact ⟨h1, hL, h2, h3⟩
  · obtain ⟨o, es, ep, ho, r⟩ := hm
    exact ⟨o, es, ep, k _ o (Ne.symm hL) ho, r⟩
  · refine (I.hok b u e).stay (fun c v hc q => k c v ?_ q) (fun _ q => q) fun _ _ q => q
    rcases hc with z | z
    · rw [z]; exact nit b u e
    · exact nit c _ z
theorem Inv.tok (I : Inv X pins σ H s) (t : Nat) : Inv X pins σ H { s with toks := t } := I.un (h' := s.heap) (t' := t) Un.refl I.hok
theorem Inv.kept {t' : Nat} (I : Inv X pins σ H s) (k : ∀ b u, s.heap.get? b = some u → h'.get? b = some u) : Inv X pins σ H { s with heap := h', toks := t' } := I.un (Un.kept k) (I.hok.kept k)
theorem Inv.laid {a : Addr} {o : HO} {t' : Nat} (I : Inv X pins σ H s) (k : ∀ b u, s.heap.get? b = some u → h'.get? b = some u) (hp : s.heap.objs.size ≤ a) (new : ObjOk X.prog X.w (upd H a o) h' a o) :
    Inv X pins σ (upd H a o) { s with heap := h', toks := t' } := I.un (Un.laid k hp (I.hok.fresh hp)) (I.hok.laid k hp new)
theorem Inv.write {x e : Addr} {o : HO} {t' : Nat} (I : Inv X pins σ H s) (mu : Mut (H x)) (he : e = x ∨ H e = some (.own x)) (k : ∀ b u, b ≠ e → s.heap.get? b = some u → h'.get? b = some u) (heo : ∃ u, h'.get? e = some u)
    (new : ObjOk X.prog X.w (upd H x o) h' x o) : Inv X pins σ (upd H x o) { s with heap := h', toks := t' } := I.un (Un.write mu he k heo) (I.hok.write mu he k heo new)
theorem Inv.pins_of {pins' : List (Addr × Obj)} (I : Inv X pins σ H s) (h : ∀ p ∈ pins', s.heap.get? p.1 = some p.2 ∧ H p.1 = none ∧ p.1 ≠ X.env.locals ∧ p.1 ∉ X.fs ∧ ∀ v, p.2.data ≠ .cell v) : Inv X pins' σ H s :=
  ⟨I.ok, I.os, I.bare, I.base, I.loc, I.cell, I.free, I.freeC, fun p hp => (List.mem_append.mp hp).elim (fun z => I.pin p (List.mem_append_left _ z)) (h p), I.hok, I.len⟩
theorem nodup_ix {N : List Str} (hN : N.Nodup) {i j : Nat} {x : Str} (a : N[i]? = some x) (b : N[j]? = some x) : i = j := by
  obtain ⟨h1, e1⟩ := List.getElem?_eq_some_iff.mp a
  obtain ⟨h2, e2⟩ := List.getElem?_eq_some_iff.mp b
  exact (List.getElem_inj hN).mp (e1.trans e2.symm)
theorem store_ok2 {M : Model} {A : Around} {E : Value → Shared → Prop} {i : Nat} {x : Str} {v : V} {u : Value} {Q : Unit → Shared → Prop} (I : Inv X pins σ H s) (hN : X.N.Nodup) (hi : X.N[i]? = some x) (hx : Loc X.env.scope x) (r : RelV v u)
    (h : ∀ s', Inv X pins (σ.set i (some v)) H s' → (∃ a, Heap.SameBut a s.heap s'.heap ∧ (a = X.env.locals ∨ X.env.cells.lookup x = some a)) → Q () s') (hf : X.fn x = true ∨ X.env.scope.names.lookup x = some .local := by first | exact .inl rfl | exact .inr rfl | assumption) : wpAny M A (storeName X.env x u) Q E s := by
  obtain ⟨m, hn, hl⟩ := id I.loc
  have hcls : (X.env.scope.kind == .class || (X.env.scope.kind == .module && X.env.locals != X.env.globals)) = false := by rw [I.ok.kind]; rfl
  have hiσ : i < σ.length := by rw [I.len]; exact (List.getElem?_eq_some_iff.mp hi).1
  have cne := I.cne
  have tracked : ∀ {a : Addr} {h' : Heap}, (∃ o, s.heap.get? a = some o ∧ H a = none) → Heap.SameBut a s.heap h' → HOk X.prog X.w H h' := fun {a h'} ha hs b ob e => by
    obtain ⟨_, _, hfree⟩ := ha
    refine (I.hok b ob e).stay (fun c w' hc q => (hs.2 c ?_).trans q) (fun _ q => q) fun _ _ q => q
    rintro rfl
    rcases hc with rfl | hc
    · rw [hfree] at e; cases e
    · rw [hfree] at hc; cases hc
  rcases hx with hk | hk
  · refine wpAny_storeName_local hk hn (fun h' hn' hs => ?_) hcls
    obtain ⟨oL, _, _, hoL, _⟩ := id hn
    refine h _ ⟨I.ok, I.os, I.bare, ⟨fun b o e n hb hx => ?_, fun b o e n hb hx => ?_, I.base.free, fun b o e hx => ?_, I.base.tups, I.base.frzs, I.base.tbls⟩, ⟨_, hn', fun j y v' e1 e2 e3 => ?_⟩, fun y c e => ?_, I.free, I.freeC, fun p hp => ?_, tracked ⟨oL, hoL, I.free⟩ hs, by simpa using I.len⟩ ⟨_, hs, .inl rfl⟩
    · exact (hs.2 b (Nat.ne_of_lt (Nat.lt_of_lt_of_le (Heap.lt_size e) I.ok.above))).trans (I.base.keep b o e n hb hx)
    · obtain ⟨sl, e1⟩ := I.base.slot b o e n hb hx
      exact ⟨sl, (hs.2 b (Nat.ne_of_lt (Nat.lt_of_lt_of_le (Heap.lt_size e) I.ok.above))).trans e1⟩
    · obtain ⟨o', e1⟩ := I.base.there b o e hx
      exact ⟨o', (hs.2 b (Nat.ne_of_lt (Nat.lt_of_lt_of_le (Heap.lt_size e) I.ok.above))).trans e1⟩
    · by_cases hj : j = i
      · subst hj
        rw [hi] at e1; cases e1
        rw [List.getElem?_set_self hiσ] at e2
        cases e2
        exact ⟨u, r, .inl ⟨hk, by simp⟩⟩
      · rw [List.getElem?_set_ne (Ne.symm hj)] at e2
        obtain ⟨u', r', q⟩ := hl j y v' e1 e2 e3
        refine ⟨u', r', ?_⟩
        rcases q with ⟨k, e⟩ | ⟨k, c, e, z⟩
        · refine .inl ⟨k, ?_⟩
          have : y ≠ x := fun e => hj (nodup_ix hN e1 (e ▸ hi))
          simp [this, e]
        · exact .inr ⟨k, c, e, z.sameBut hs (cne y c e)⟩
    · obtain ⟨w', z⟩ := I.cell y c e
      exact ⟨w', z.sameBut hs (cne y c e)⟩
    · obtain ⟨e, n, ne, nf, d⟩ := I.pin p hp
      exact ⟨(hs.2 p.1 ne).trans e, n, ne, nf, d⟩
  · have hfn : X.fn x = true := by
      rcases hf with z | z
      · exact z
      · rw [z] at hk; cases hk
    obtain ⟨c, hc⟩ := I.ok.has x (.inl hk)
    obtain ⟨w', z⟩ := I.cell x c hc
    refine wpAny_storeName_cell I.ok.kind hk hc z (fun h' hc' hs => ?_)
    obtain ⟨oc, hoc, hocd⟩ := id z
    refine h { s with heap := h' } ⟨I.ok, I.os, I.bare, ⟨fun b o e n hb hx => ?_, fun b o e n hb hx => ?_, I.base.free, fun b o e hx => ?_, I.base.tups, I.base.frzs, I.base.tbls⟩, ⟨m, hn.sameBut hs (Ne.symm (cne x c hc)), fun j y v' e1 e2 e3 => ?_⟩, fun y c' e => ?_, I.free, I.freeC, fun p hp => ?_, tracked ⟨oc, hoc, I.freeC x c hc⟩ hs, by simpa using I.len⟩ ⟨c, hs, .inr hc⟩
    · exact (hs.2 b (Nat.ne_of_lt (Nat.lt_of_lt_of_le (Heap.lt_size e) (I.ok.cab x c hfn hc)))).trans (I.base.keep b o e n hb hx)
    · obtain ⟨sl, e1⟩ := I.base.slot b o e n hb hx
      exact ⟨sl, (hs.2 b (Nat.ne_of_lt (Nat.lt_of_lt_of_le (Heap.lt_size e) (I.ok.cab x c hfn hc)))).trans e1⟩
    · obtain ⟨o', e1⟩ := I.base.there b o e hx
      exact ⟨o', (hs.2 b (Nat.ne_of_lt (Nat.lt_of_lt_of_le (Heap.lt_size e) (I.ok.cab x c hfn hc)))).trans e1⟩
    · by_cases hj : j = i
      · subst hj
        rw [hi] at e1; cases e1
        rw [List.getElem?_set_self hiσ] at e2
        cases e2
        exact ⟨u, r, .inr ⟨.inl hk, c, hc, hc'⟩⟩
      · rw [List.getElem?_set_ne (Ne.symm hj)] at e2
        obtain ⟨u', r', q⟩ := hl j y v' e1 e2 e3
        refine ⟨u', r', ?_⟩
        rcases q with q | ⟨k, c', e, z'⟩
        · exact .inl q
        · refine .inr ⟨k, c', e, z'.sameBut hs ?_⟩
          rintro rfl
          exact hj (nodup_ix hN e1 (I.ok.inj _ _ _ e hc ▸ hi))
    · by_cases hcc : c' = c
      · subst hcc; exact ⟨_, hc'⟩
      · obtain ⟨w2, z2⟩ := I.cell y c' e
        exact ⟨w2, z2.sameBut hs hcc⟩
    · obtain ⟨e, n, ne, nf, d⟩ := I.pin p hp
      refine ⟨(hs.2 p.1 ?_).trans e, n, ne, nf, d⟩
      intro q
      rw [q, hoc] at e
      have q' : oc = p.2 := Option.some.inj e
      exact d w' (by rw [← q']; exact hocd)
theorem store_ok {M : Model} {A : Around} {E : Value → Shared → Prop} {i : Nat} {x : Str} {v : V} {u : Value} {Q : Unit → Shared → Prop} (I : Inv X pins σ H s) (hN : X.N.Nodup) (hi : X.N[i]? = some x) (hx : Loc X.env.scope x) (r : RelV v u)
    (h : ∀ s', Inv X pins (σ.set i (some v)) H s' → Q () s') (hf : X.fn x = true ∨ X.env.scope.names.lookup x = some .local := by first | exact .inl rfl | exact .inr rfl | assumption) : wpAny M A (storeName X.env x u) Q E s :=
  store_ok2 I hN hi hx r (fun s' I' _ => h s' I') hf
theorem Inv.call' {s' : Shared} {ch : List Addr} (I : Inv X pins σ H s) (ho : s'.os = s.os) (u : Un (frs X.stack) ch H H' s.heap s'.heap) (hok : HOk X.prog X.w H' s'.heap) (hg : AllBare s'.gens)
    (hch : ∀ b ∈ ch, (b ∈ X.ex ∨ X.s₀.heap.objs.size ≤ b) ∧ b ≠ X.env.locals ∧ (∀ x c, X.env.cells.lookup x = some c → c ≠ b) ∧ ∀ p ∈ X.pn ++ pins, p.1 ≠ b) : Inv X pins σ H' s' := by
  obtain ⟨h', g', d', t', o'⟩ := s'
  have e : o' = s.os := ho
  subst e
  exact I.call (g' := g') (t' := t') (d' := d') u hok hg hch
end
abbrev XK := Value → Option Addr → Hp → Prop
abbrev St := List (Option V)
abbrev VK := V → Hp → Prop
abbrev TE := St → Hp → VK → Prop
abbrev TT := St → Hp → (Bool → Hp → Prop) → Prop
abbrev TA := St → Hp → (List V → Hp → Prop) → Prop
structure Ends where
  nx : St → Hp → Prop
  rt : VK
  bk : St → Hp → Prop := fun _ _ => False
  ct : St → Hp → Prop := fun _ _ => False
abbrev TS := Ends → St → Hp → Prop
def EP (X : Cx) (pins : List (Addr × Obj)) (σ : St) (Q : VK) (u : Value) (s' : Shared) : Prop := ∃ v H', Inv X pins σ H' s' ∧ RelV v u ∧ Q v H'
def TP (X : Cx) (pins : List (Addr × Obj)) (σ : St) (Q : Bool → Hp → Prop) (b : Bool) (s' : Shared) : Prop := ∃ H', Inv X pins σ H' s' ∧ Q b H'
def AP (X : Cx) (pins : List (Addr × Obj)) (σ : St) (Q : List V → Hp → Prop) (us : List Value) (s' : Shared) : Prop := ∃ vs H', Inv X pins σ H' s' ∧ Vals vs us ∧ Q vs H'
def SP (X : Cx) (pins : List (Addr × Obj)) (D : Ends) (f : Flow) (s' : Shared) : Prop :=
  match f with
  | .next => ∃ σ' H', Inv X pins σ' H' s' ∧ D.nx σ' H'
  | .brk => ∃ σ' H', Inv X pins σ' H' s' ∧ D.bk σ' H'
  | .cont => ∃ σ' H', Inv X pins σ' H' s' ∧ D.ct σ' H'
  | .ret u => ∃ v σ' H', Inv X pins σ' H' s' ∧ RelV v u ∧ D.rt v H'
def PE (X : Cx) (e : Expr) (t : TE) : Prop :=
  ∀ (pins : List (Addr × Obj)) (s : Shared) (σ : St) (H : Hp) (Q : VK), Inv X pins σ H s → t σ H Q → wpAny (model X.prog X.w) X.A (eval e X.env) (EP X pins σ Q) X.xe s
def PT (X : Cx) (e : Expr) (t : TT) : Prop :=
  ∀ (pins : List (Addr × Obj)) (s : Shared) (σ : St) (H : Hp) (Q : Bool → Hp → Prop), Inv X pins σ H s → t σ H Q → wpAny (model X.prog X.w) X.A (isTrue e X.env (eval e X.env)) (TP X pins σ Q) X.xe s
def PW (X : Cx) (e : Expr) (t : TT) : Prop :=
  ∀ (whole : Sem Value) (pins : List (Addr × Obj)) (s : Shared) (σ : St) (H : Hp) (Q : Bool → Hp → Prop), Inv X pins σ H s → t σ H Q → wpAny (model X.prog X.w) X.A (isTrue e X.env whole) (TP X pins σ Q) X.xe s
theorem PW.pt {X : Cx} {e : Expr} {t : TT} (h : PW X e t) : PT X e t := h _
def PA (X : Cx) (es : List Expr) (t : TA) : Prop :=
  ∀ (pos : Pos) (pins : List (Addr × Obj)) (s : Shared) (σ : St) (H : Hp) (Q : List V → Hp → Prop), Inv X pins σ H s → t σ H Q → wpAny (model X.prog X.w) X.A (spliced (backTo pos (starEach es X.env))) (AP X pins σ Q) X.xe s
def PS (X : Cx) (st : Stmt) (t : TS) : Prop :=
  ∀ (pins : List (Addr × Obj)) (s : Shared) (σ : St) (H : Hp) (D : Ends), Inv X pins σ H s → t D σ H → wpAny (model X.prog X.w) X.A (exec st X.env) (SP X pins D) X.xe s
def PSs (X : Cx) (st : List Stmt) (t : TS) : Prop :=
  ∀ (pins : List (Addr × Obj)) (s : Shared) (σ : St) (H : Hp) (D : Ends), Inv X pins σ H s → t D σ H → wpAny (model X.prog X.w) X.A (execs st X.env) (SP X pins D) X.xe s
theorem thn {α : Type} {t : Sem α} {Q Q' : α → Shared → Prop} {M : Model} {A : Around} {E : Value → Shared → Prop} {s : Shared} (h : wpAny M A t Q E s) (hQ : ∀ a s, Q a s → Q' a s) : wpAny M A t Q' E s := wpAny_mono h hQ fun _ _ x => x
end L2
namespace L2
open PySem PySem.Spec PyProof.Rows
section
variable {X : Cx}
theorem bin {a b : Expr} {ta tb : TE} (ha : PE X a ta) (hb : PE X b tb) {pins : List (Addr × Obj)} {s : Shared} {σ : St} {H : Hp} {R : V → V → Hp → Prop} (I : Inv X pins σ H s) (h : ta σ H fun x H1 => tb σ H1 fun y H2 => R x y H2)
    {α : Type} {Q : α → Shared → Prop} {f : Value → Value → Sem α}
    (hf : ∀ v u s2 x y H2, Inv X pins σ H2 s2 → RelV x v → RelV y u → R x y H2 → wpAny (model X.prog X.w) X.A (f v u) Q X.xe s2) :
    wpAny (model X.prog X.w) X.A (eval a X.env) (fun v s₁ => wpAny (model X.prog X.w) X.A (eval b X.env) (fun u s₂ => wpAny (model X.prog X.w) X.A (f v u) Q X.xe s₂) X.xe s₁) X.xe s := by
  refine thn (ha pins s σ H _ I h) fun v s1 ⟨x, H1, I1, r1, q1⟩ => ?_
  refine thn (hb pins s1 σ H1 _ I1 q1) fun u s2 ⟨y, H2, I2, r2, q2⟩ => ?_
  exact hf v u s2 x y H2 I2 r1 r2 q2
def tVar (i : Nat) : TE := fun σ H Q => ∃ v, σ[i]? = some (some v) ∧ Q v H
def tC (v : V) : TE := fun _ H Q => Q v H
theorem pe_var {i : Nat} {x : Str} {pos : Pos} (hN : X.N[i]? = some x) (hv : Vis X.env.scope x) (hd : (x == ("__debug__" : Str)) = false := by decide) (hcd : (x == ("__classdict__" : Str)) = false := by decide) : PE X (.Name x pos) (tVar i) := by
  intro pins s σ H Q I h
  obtain ⟨v, e, h⟩ := h
  obtain ⟨m, hn, hl⟩ := I.loc
  obtain ⟨u, r, l⟩ := hl i x v hN e hv
  have fin : EP X pins σ Q u s := ⟨v, H, I, r, h⟩
  rcases l with ⟨hk, hm⟩ | ⟨hk, c, hc, hcell⟩
  · exact wpAny_Name (wpAny_loadName_local I.ok.kind hk hn hm fin) hd
  · rcases hk with hk | hk
    · exact wpAny_Name (wpAny_loadName_cell I.ok.kind hk hc hcell fin) hd
    · exact wpAny_Name (wpAny_loadName_free I.ok.kind hk hc hcell fin hcd) hd
theorem pe_int {i j pos} : PE X (.Constant (.int i) j pos) (tC (.int i)) := fun _ _ _ H _ I h => wpAny_Constant_int ⟨.int i, H, I.tok _, ⟨_, rfl⟩, h⟩
theorem pe_bl {b j pos} : PE X (.Constant (.bool b) j pos) (tC (.bl b)) := fun _ _ _ H _ I h => Constant_bool ⟨.bl b, H, I, rfl, h⟩
theorem pe_str {x j pos} : PE X (.Constant (.str x) j pos) (tC (.str x)) := fun _ _ _ H _ I h => Calls.Constant_str ⟨.str x, H, I.tok _, ⟨_, rfl⟩, h⟩
def Gl (X : Cx) (x : Str) : Prop := X.env.kindOf x = some .globalImplicit
theorem ld_glob {E : Value → Shared → Prop} {pins : List (Addr × Obj)} {s : Shared} {σ : St} {H : Hp} {x : Str} {u : Value} {pos : Pos} {Q : Value → Shared → Prop} (I : Inv X pins σ H s) (hg : Gl X x) (hm : X.mg x = some u) (h : Q u s)
    (hd : (x == ("__debug__" : Str)) = false := by decide) : wpAny (model X.prog X.w) X.A (eval (.Name x pos) X.env) Q E s :=
  Calls.Name_function_global I.ok.kind hg (Calls.loadGlobal_global (by rw [I.ok.glob]; exact I.mod.glob.keeps I.bk) hm h) hd
theorem ld_blt {E : Value → Shared → Prop} {pins : List (Addr × Obj)} {s : Shared} {σ : St} {H : Hp} {x : Str} {u : Value} {pos : Pos} {Q : Value → Shared → Prop} (I : Inv X pins σ H s) (hg : Gl X x) (hm : X.mg x = none) (hv : bootBuiltins x = some u) (h : Q u s)
    (hn : x ≠ "__name__" := by decide) (hd : (x == ("__debug__" : Str)) = false := by decide) : wpAny (model X.prog X.w) X.A (eval (.Name x pos) X.env) Q E s := by
  obtain ⟨mb, h1, h2⟩ := I.mod.blt
  exact Calls.Name_function_global I.ok.kind hg (Calls.loadGlobal_builtin (by rw [I.ok.glob]; exact I.mod.glob.keeps I.bk) hm (by rw [I.ok.blt]; exact h1.keeps I.bk) ((h2 x hn).trans hv) h) hd
theorem pe_bltn {x : Str} {v : V} {u : Value} {pos : Pos} (hg : Gl X x) (hm : X.mg x = none) (hv : bootBuiltins x = some u) (r : RelV v u) (hn : x ≠ "__name__" := by decide) (hd : (x == ("__debug__" : Str)) = false := by decide) : PE X (.Name x pos) (tC v) :=
  fun _ _ _ H _ I h => ld_blt I hg hm hv ⟨v, H, I, r, h⟩ hn hd
variable {a b : Expr} {ta tb : TE} {pos : Pos}
def PC (X : Cx) (op : CmpOp) (a b : Expr) (t : TE) : Prop :=
  ∀ (pins : List (Addr × Obj)) (s : Shared) (σ : St) (H : Hp) (Q : VK), Inv X pins σ H s → t σ H Q →
    wpAny (model X.prog X.w) X.A (eval a X.env) (fun v s₁ => wpAny (model X.prog X.w) X.A (eval b X.env) (fun u s₂ => wpAny (model X.prog X.w) X.A (compareOp op v u) (EP X pins σ Q) X.xe s₂) X.xe s₁) X.xe s
theorem nobehind (b : Expr) {op : CmpOp} (h : op ≠ .In) (h2 : op ≠ .NotIn) : behindInMarks op b = false := by
  have e1 : (op == CmpOp.In) = false := by cases op <;> first | rfl | exact absurd rfl h
  have e2 : (op == CmpOp.NotIn) = false := by cases op <;> first | rfl | exact absurd rfl h2
  cases b <;> simp [behindInMarks, e1, e2]
def tIsN (ta : TE) : TE := fun σ H Q => ta σ H fun x H1 => Q (.bl (decide (x = .non))) H1
def tNotN (ta : TE) : TE := fun σ H Q => ta σ H fun x H1 => Q (.bl (!decide (x = .non))) H1
theorem RelV.none_iff {x : V} {v : Value} (r : RelV x v) : (v == Value.none) = decide (x = .non) := by
  cases x with
  | non => cases r; rfl
  | bl _ => cases r; rfl
  | int _ => obtain ⟨t, rfl⟩ := r; rfl
  | str _ => obtain ⟨t, rfl⟩ := r; rfl
  | byt _ => obtain ⟨t, rfl⟩ := r; rfl
  | flt _ => obtain ⟨t, rfl⟩ := r; rfl
  | ref _ => cases r; rfl
  | ty _ => cases r; rfl
theorem pc_isN {j pos'} (ha : PE X a ta) : PC X .Is a (.Constant .none j pos') (tIsN ta) := by
  intro pins s σ H Q I h
  refine thn (ha pins s σ H _ I h) fun v s1 ⟨x, H1, I1, r1, q1⟩ => ?_
  exact Constant_none (is_none_gen ⟨.bl _, H1, I1, by rw [r1.none_iff]; rfl, q1⟩)
theorem pc_notN {j pos'} (ha : PE X a ta) : PC X .IsNot a (.Constant .none j pos') (tNotN ta) := by
  intro pins s σ H Q I h
  refine thn (ha pins s σ H _ I h) fun v s1 ⟨x, H1, I1, r1, q1⟩ => ?_
  exact Constant_none (isnot_none_gen ⟨.bl _, H1, I1, by rw [r1.none_iff]; rfl, q1⟩)
def tB (t : TE) : TT := fun σ H Q => t σ H fun x H1 => ∃ c, x = .bl c ∧ Q c H1
theorem pt_cmp {op : CmpOp} {t : TE} (h : PC X op a b t) (h1 : behindInMarks op b = false := by first | exact nobehind _ (by decide) (by decide) | rfl) : PT X (.Compare a [op] [b] pos) (tB t) := by
  intro pins s σ H Q I hw
  refine wpAny_isTrue_Compare1 (thn (h pins s σ H _ I hw) fun v s1 h1 => thn h1 fun u s2 h2 => thn h2 fun c s3 ⟨x, H1, I1, r1, q1⟩ => ?_) h1
  obtain ⟨d, rfl, q⟩ := q1
  cases r1
  exact wpAny_truthy_bool ⟨H1, I1, q⟩
theorem pt_val {e : Expr} {t : TE} (h : PE X e t) (he : ∀ whole, isTrue e X.env whole = (do let v ← whole; standAt e.pos; holding [v] (truthy v)) := by intro _; rfl) : PT X e (tB t) := by
  intro pins s σ H Q I hw
  refine isTrue_plain (thn (h pins s σ H _ I hw) fun v s1 ⟨x, H1, I1, r1, q1⟩ => ?_) (he _)
  obtain ⟨d, rfl, q⟩ := q1
  cases r1
  exact wpAny_truthy_bool ⟨H1, I1, q⟩
variable {tA tB' : TT} {rest : List Expr}
def tAnd (t u : TT) : TT := fun σ H Q => t σ H fun c H1 => if c = true then u σ H1 Q else Q false H1
def tOr (t u : TT) : TT := fun σ H Q => t σ H fun c H1 => if c = true then Q true H1 else u σ H1 Q
def tNot (t : TT) : TT := fun σ H Q => t σ H fun c H1 => Q (!c) H1
theorem pw_and1 (ha : PT X a tA) : PW X (.BoolOp .And [a] pos) tA := by
  intro wh pins s σ H Q I h
  refine isTrue_and (thn (ha pins s σ H Q I h) fun c s1 e => ?_)
  cases c with
  | true => exact isTrue_and_nil e
  | false => exact e
theorem pw_or1 (ha : PT X a tA) : PW X (.BoolOp .Or [a] pos) tA := by
  intro wh pins s σ H Q I h
  refine isTrue_or (thn (ha pins s σ H Q I h) fun c s1 e => ?_)
  cases c with
  | false => exact isTrue_or_nil e
  | true => exact e
theorem pw_and (ha : PT X a tA) (hb : PW X (.BoolOp .And (b :: rest) pos) tB') : PW X (.BoolOp .And (a :: b :: rest) pos) (tAnd tA tB') := by
  intro wh pins s σ H Q I h
  refine isTrue_and (thn (ha pins s σ H _ I h) fun c s1 ⟨H1, I1, q1⟩ => ?_)
  cases c with
  | true => exact hb wh pins s1 σ H1 Q I1 q1
  | false => exact ⟨H1, I1, q1⟩
theorem pw_or (ha : PT X a tA) (hb : PW X (.BoolOp .Or (b :: rest) pos) tB') : PW X (.BoolOp .Or (a :: b :: rest) pos) (tOr tA tB') := by
  intro wh pins s σ H Q I h
  refine isTrue_or (thn (ha pins s σ H _ I h) fun c s1 ⟨H1, I1, q1⟩ => ?_)
  cases c with
  | true => exact ⟨H1, I1, q1⟩
  | false => exact hb wh pins s1 σ H1 Q I1 q1
theorem pt_not (ha : PT X a tA) : PT X (.UnaryOp .Not a pos) (tNot tA) := by
  intro pins s σ H Q I h
  exact isTrue_not (ha pins s σ H (fun c H1 => Q (!c) H1) I h)
def tAndV (ta tb : TE) : TE := fun σ H Q => ta σ H fun x H1 => ∃ c, x = .bl c ∧ if c = true then tb σ H1 Q else Q (.bl false) H1
def tNotV (ta : TE) : TE := fun σ H Q => ta σ H fun x H1 => ∃ c, x = .bl c ∧ Q (.bl (!c)) H1
theorem pe_one {op} {t : TE} (h : PE X a t) : PE X (.BoolOp op [a] pos) t := fun pins s σ H Q I hw => BoolOp_one (h pins s σ H Q I hw)
theorem pe_and (ha : PE X a ta) (hb : PE X (.BoolOp .And (b :: rest) pos) tb) : PE X (.BoolOp .And (a :: b :: rest) pos) (tAndV ta tb) := by
  intro pins s σ H Q I h
  refine BoolOp_and (thn (ha pins s σ H _ I h) fun v s1 ⟨x, H1, I1, r1, q1⟩ => ?_)
  obtain ⟨c, rfl, q1⟩ := q1
  cases r1
  refine wpAny_truthy_bool ?_
  cases c with
  | true => exact hb pins s1 σ H1 Q I1 q1
  | false => exact ⟨.bl false, H1, I1, rfl, q1⟩
theorem pe_not (ha : PE X a ta) : PE X (.UnaryOp .Not a pos) (tNotV ta) := by
  intro pins s σ H Q I h
  refine UnaryOp_ (thn (ha pins s σ H _ I h) fun v s1 ⟨x, H1, I1, r1, q1⟩ => ?_)
  obtain ⟨c, rfl, q1⟩ := q1
  cases r1
  exact not_of (wpAny_truthy_bool ⟨.bl (!c), H1, I1, rfl, q1⟩)
end
end L2
namespace L2
open PySem PySem.Spec PyProof.Rows
def SqL (K : PySem.W.Frag) (H : Hp) (a : Addr) (xs : List V) : Prop :=
  Rd H a (.lst xs) ∨
    ∃ (o : Obj) (its : Array Value) (n : Nat), K.lookup a = some o ∧ o.cls = .type "list" ∧ o.dict = none ∧ o.data = .seq its n ∧ its.size ≤ sizeLine ∧ Vals xs its.toList
def SqT (K : PySem.W.Frag) (H : Hp) (a : Addr) (xs : List V) : Prop :=
  Rd H a (.tup xs) ∨
    ∃ (o : Obj) (its : Array Value) (n : Nat), K.lookup a = some o ∧ o.cls = .type "tuple" ∧ o.data = .seq its n ∧ its.size ≤ sizeLine ∧ Vals xs its.toList
def absV : Value → Option V
  | .none => some .non
  | .bool b => some (.bl b)
  | .int i _ => some (.int i)
  | .str x _ => some (.str x)
  | .bytes b _ => some (.byt b)
  | .float b _ => some (.flt b)
  | .ref a => some (.ref a)
  | .type n => some (.ty n)
  | _ => none
theorem RelV.abs {x : V} {u : Value} (r : RelV x u) : absV u = some x := by
  cases x with
  | non => cases r; rfl
  | bl _ => cases r; rfl
  | int _ => obtain ⟨t, rfl⟩ := r; rfl
  | str _ => obtain ⟨t, rfl⟩ := r; rfl
  | byt _ => obtain ⟨t, rfl⟩ := r; rfl
  | flt _ => obtain ⟨t, rfl⟩ := r; rfl
  | ref _ => cases r; rfl
  | ty _ => cases r; rfl
theorem RelV.inj {x y : V} {u : Value} (r : RelV x u) (q : RelV y u) : x = y := Option.some.inj (r.abs.symm.trans q.abs)
theorem Vals.inj : ∀ {xs ys : List V} {us : List Value}, Vals xs us → Vals ys us → xs = ys
  | _, _, _, .nil, .nil => rfl
  | _, _, _, .cons r t, .cons r' t' => by rw [r.inj r', Vals.inj t t']
section
variable {X : Cx} {pins : List (Addr × Obj)} {σ : St} {H : Hp} {s : Shared} {a : Addr} {xs ys : List V}
theorem SqL.of {K : PySem.W.Frag} (h : H a = some (.lst xs)) : SqL K H a xs := .inl (.inl h)
theorem SqT.of {K : PySem.W.Frag} (h : H a = some (.tup xs)) : SqT K H a xs := .inl (.inl h)
theorem Inv.list (I : Inv X pins σ H s) (h : SqL X.K H a xs) : ∃ its : List Value, Vals xs its ∧ PlainL s.heap a its.toArray ∧ xs.length ≤ sizeLine := by
  rcases h with h | ⟨o, its, n, hk, hc, hd, hs, hz, r⟩
  · obtain ⟨z, its, n, r, e⟩ := h.ok I.hok
    exact ⟨its, r, ⟨_, n, e, rfl, rfl, rfl⟩, z⟩
  · refine ⟨its.toList, r, ⟨o, n, I.kIn a o hk, hc, hd, by simpa using hs⟩, ?_⟩
    have e := r.length
    simp only [Array.length_toList] at e
    omega
theorem Inv.tuple (I : Inv X pins σ H s) (h : SqT X.K H a xs) : ∃ its : List Value, Vals xs its ∧ IsTup s.heap a its.toArray ∧ xs.length ≤ sizeLine := by
  rcases h with h | ⟨o, its, n, hk, hc, hs, hz, r⟩
  · obtain ⟨z, its, r, p⟩ := h.ok I.hok
    exact ⟨its, r, p, z⟩
  · refine ⟨its.toList, r, ⟨o, I.kIn a o hk, hc, n, by simpa using hs⟩, ?_⟩
    have e := r.length
    simp only [Array.length_toList] at e
    omega
theorem Inv.list_inj (I : Inv X pins σ H s) (h : SqL X.K H a xs) (h' : SqL X.K H a ys) : xs = ys := by
  obtain ⟨its, r, ⟨o, n, e, _, _, d⟩, _⟩ := I.list h
  obtain ⟨its', r', ⟨o', n', e', _, _, d'⟩, _⟩ := I.list h'
  rw [e] at e'; cases e'
  rw [d] at d'
  injection d' with d1 _
  have : its = its' := by simpa using congrArg Array.toList d1
  subst this
  exact r.inj r'
theorem Inv.tuple_inj (I : Inv X pins σ H s) (h : SqT X.K H a xs) (h' : SqT X.K H a ys) : xs = ys := by
  obtain ⟨its, r, ⟨o, e, _, n, d⟩, _⟩ := I.tuple h
  obtain ⟨its', r', ⟨o', e', _, n', d'⟩, _⟩ := I.tuple h'
  rw [e] at e'; cases e'
  rw [d] at d'
  injection d' with d1 _
  have : its = its' := by simpa using congrArg Array.toList d1
  subst this
  exact r.inj r'
end
abbrev Cx.wish (X : Cx) (E : Value → Shared → Prop) : Cx := { X with xe := E }
abbrev Cx.nox (X : Cx) : Cx := X.wish fun _ _ => False
theorem Cx.Ok.wish {X : Cx} (ok : X.Ok) (E : Value → Shared → Prop) : (X.wish E).Ok :=
  ⟨ok.mod, ok.kind, ok.glob, ok.blt, ok.above, ok.inj, ok.has, ok.cab, ok.hd, ok.frames, ok.stk, ok.exf, ok.bs, ok.bsz, ok.noex, ok.exfs, ok.funs, ok.frf⟩
theorem Cx.Ok.unwish {X : Cx} {E : Value → Shared → Prop} (ok : (X.wish E).Ok) : X.Ok :=
  ⟨ok.mod, ok.kind, ok.glob, ok.blt, ok.above, ok.inj, ok.has, ok.cab, ok.hd, ok.frames, ok.stk, ok.exf, ok.bs, ok.bsz, ok.noex, ok.exfs, ok.funs, ok.frf⟩
section
variable {X : Cx} {pins : List (Addr × Obj)} {σ : St} {H : Hp} {s : Shared} {E : Value → Shared → Prop}
theorem Inv.wish (I : Inv X pins σ H s) (E : Value → Shared → Prop) : Inv (X.wish E) pins σ H s := ⟨I.ok.wish E, I.os, I.bare, I.base, I.loc, I.cell, I.free, I.freeC, I.pin, I.hok, I.len⟩
theorem Inv.unwish (I : Inv (X.wish E) pins σ H s) : Inv X pins σ H s := ⟨I.ok.unwish, I.os, I.bare, I.base, I.loc, I.cell, I.free, I.freeC, I.pin, I.hok, I.len⟩
theorem SP.unwish {D : Ends} {f : Flow} {s' : Shared} (h : SP (X.wish E) pins D f s') : SP X pins D f s' := by
  cases f with
  | next => obtain ⟨σ', H', I, q⟩ := h; exact ⟨σ', H', I.unwish, q⟩
  | brk => obtain ⟨σ', H', I, q⟩ := h; exact ⟨σ', H', I.unwish, q⟩
  | cont => obtain ⟨σ', H', I, q⟩ := h; exact ⟨σ', H', I.unwish, q⟩
  | ret u => obtain ⟨v, σ', H', I, r, q⟩ := h; exact ⟨v, σ', H', I.unwish, r, q⟩
theorem PSs.nox {st : List Stmt} {t : TS} (h : PSs X.nox st t) : PSs X st t := fun pins s σ H D I hw =>
  wpAny_mono (h pins s σ H D (I.wish _) hw) (fun _ _ q => q.unwish) fun _ _ z => False.elim z
end
section
variable {X : Cx} {st : Stmt} {rest : List Stmt} {t u : TS} {e : Expr} {te : TE} {pos : Pos}
def tNext : TS := fun D σ H => D.nx σ H
def tSeq (t u : TS) : TS := fun D σ H => t { D with nx := u D } σ H
theorem pss_nil : PSs X [] tNext := fun _ _ σ H _ I h => wpAny_execs_nil ⟨σ, H, I, h⟩
theorem pss_cons (h1 : PS X st t) (h2 : PSs X rest u) : PSs X (st :: rest) (tSeq t u) := by
  intro pins s σ H D I h
  refine wpAny_execs_cons (thn (h1 pins s σ H { D with nx := u D } I h) fun f s1 q => ?_)
  cases f with
  | next =>
    obtain ⟨σ', H', I', q⟩ := q
    exact h2 pins s1 σ' H' D I' q
  | ret v => exact q
  | brk => exact q
  | cont => exact q
theorem pss_one (h1 : PS X st t) : PSs X [st] t := by
  intro pins s σ H D I h
  refine wpAny_execs_cons (thn (h1 pins s σ H D I h) fun f s1 q => ?_)
  cases f with
  | next => exact wpAny_execs_nil q
  | ret v => exact q
  | brk => exact q
  | cont => exact q
def tBreak : TS := fun D σ H => D.bk σ H
theorem ps_break : PS X (.Break pos) tBreak := fun _ _ σ H _ I h => wpAny_Break ⟨σ, H, I, h⟩
theorem Inv.quiet {pins : List (Addr × Obj)} {σ : St} {H : Hp} {s : Shared} (I : Inv X pins σ H s) : interactive X.env = false := by simp [interactive, I.ok.kind]
def tDrop (te : TE) : TS := fun D σ H => te σ H fun _ H1 => D.nx σ H1
theorem ps_expr (he : PE X e te) (hs : swapsWith e none pos.line X.env = pure false := by rfl) : PS X (.Expr e pos) (tDrop te) := by
  intro pins s σ H D I h
  exact wpAny_Expr_any (thn (he pins s σ H _ I h) fun v s1 ⟨x, H1, I1, r1, q1⟩ => ⟨σ, H1, I1, q1⟩) I.quiet hs
def tRet (te : TE) : TS := fun D σ H => te σ H D.rt
theorem ps_ret (he : PE X e te) : PS X (.Return (some e) pos) (tRet te) := by
  intro pins s σ H D I h
  exact wpAny_Return_some (thn (he pins s σ H _ I h) fun v s1 ⟨x, H1, I1, r1, q1⟩ => ⟨x, σ, H1, I1, r1, q1⟩)
def tIfS (c : TT) (t u : TS) : TS := fun D σ H => c σ H fun b H1 => if b = true then t D σ H1 else u D σ H1
theorem ps_if {c : Expr} {a b : List Stmt} {tc : TT} (hc : PT X c tc) (ha : PSs X a t) (hb : PSs X b u) : PS X (.If c a b pos) (tIfS tc t u) := by
  intro pins s σ H D I h
  refine wpAny_If (thn (hc pins s σ H _ I h) fun d s1 ⟨H1, I1, q1⟩ => ?_)
  cases d with
  | true => exact ha pins s1 σ H1 D I1 q1
  | false => exact hb pins s1 σ H1 D I1 q1
def tNever : TS := fun _ _ _ => False
theorem ps_never : PS X st tNever := fun _ _ _ _ _ _ h => h.elim
end
abbrev TG := V → St → Hp → (St → Hp → Prop) → Prop
abbrev TGs := List V → St → Hp → (St → Hp → Prop) → Prop
def PG (X : Cx) (target : Expr) (t : TG) : Prop :=
  ∀ (pins : List (Addr × Obj)) (s : Shared) (σ : St) (H : Hp) (v : V) (u : Value) (Q : St → Hp → Prop), Inv X pins σ H s → RelV v u → t v σ H Q →
    wpAny (model X.prog X.w) X.A (assign target X.env u) (fun _ s' => ∃ σ' H', Inv X pins σ' H' s' ∧ Q σ' H') X.xe s
def PGs (X : Cx) (ts : List Expr) (t : TGs) : Prop :=
  ∀ (pins : List (Addr × Obj)) (s : Shared) (σ : St) (H : Hp) (vs : List V) (us : List Value) (Q : St → Hp → Prop), Inv X pins σ H s → Vals vs us → t vs σ H Q →
    wpAny (model X.prog X.w) X.A (assignInOrder ((assignEach ts X.env).map (·.2)) us) (fun _ s' => ∃ σ' H', Inv X pins σ' H' s' ∧ Q σ' H') X.xe s
abbrev TSet := V → V → V → Hp → (Hp → Prop) → Prop
def PSet (X : Cx) (t : TSet) : Prop :=
  ∀ (pins : List (Addr × Obj)) (s : Shared) (σ : St) (H : Hp) (o i v : V) (ov iv u : Value) (Q : Hp → Prop), Inv X pins σ H s → RelV o ov → RelV i iv → RelV v u → t o i v H Q →
    wpAny (model X.prog X.w) X.A (setItem ov iv u) (fun _ s' => ∃ H', Inv X pins σ H' s' ∧ Q H') X.xe s
section
variable {X : Cx} {pos : Pos}
def gName (i : Nat) : TG := fun v σ H Q => Q (σ.set i (some v)) H
theorem pg_name {i : Nat} {x : Str} (hN : X.N.Nodup) (hi : X.N[i]? = some x) (hx : Loc X.env.scope x) (hf : X.fn x = true ∨ X.env.scope.names.lookup x = some .local := by first | exact .inl rfl | exact .inr rfl | assumption) : PG X (.Name x pos) (gName i) := by
  intro pins s σ H v u Q I r h
  exact wpAny_assign_Name (store_ok I hN hi hx r (fun s' I' => ⟨_, H, I', h⟩) hf)
def gNil : TGs := fun vs σ H Q => vs = [] ∧ Q σ H
def gCons (t : TG) (u : TGs) : TGs := fun vs σ H Q => ∃ v r, vs = v :: r ∧ t v σ H fun σ' H' => u r σ' H' Q
theorem pgs_nil : PGs X [] gNil := by
  intro pins s σ H vs us Q I r h
  obtain ⟨e, h⟩ := h
  subst e
  cases r
  exact assignInOrder_nil ⟨σ, H, I, h⟩
theorem pgs_cons {e : Expr} {es : List Expr} {t : TG} {u : TGs} (h1 : PG X e t) (h2 : PGs X es u)
    (hs : (assignEach (e :: es) X.env).map (·.2) = assign e X.env :: (assignEach es X.env).map (·.2) := by rfl) : PGs X (e :: es) (gCons t u) := by
  intro pins s σ H vs us Q I r h
  obtain ⟨v, vr, e1, h⟩ := h
  subst e1
  cases r with
  | cons r rr =>
    rw [hs]
    refine assignInOrder_cons (thn (h1 pins s σ H _ _ _ I r h) fun _ s1 ⟨σ1, H1, I1, q1⟩ => ?_)
    exact h2 pins s1 σ1 H1 _ _ Q I1 rr q1
def gTup (K : PySem.W.Frag) (n : Nat) (t : TGs) : TG := fun v σ H Q => ∃ a xs, v = .ref a ∧ SqT K H a xs ∧ xs.length = n ∧ t xs σ H Q
theorem pg_tup {es : List Expr} {k : Nat} {t : TGs} {n : Nat} (hc : X.calm = true) (h : PGs X es t)
    (hn : (assignEach es X.env).length = n := by rfl) (hst : (assignEach es X.env).findIdx? (·.1) = none := by rfl) : PG X (.Tuple es k pos) (gTup X.K n t) := by
  intro pins s σ H v u Q I r hw
  obtain ⟨a, xs, e1, hq, hl, hw⟩ := hw
  subst e1
  cases r
  obtain ⟨its, rv, ht, hz⟩ := I.tuple hq
  refine assign_Tuple_tuple (I.ok.hd hc) ht (by simp [hn, ← hl, rv.length]) hst fun h' hx => ?_
  have I1 : Inv X pins σ H { s with heap := h' } := I.kept (t' := s.toks) fun b o e => hx b o (Nat.ne_of_lt (Heap.lt_size e)) e
  exact h pins _ σ H xs _ Q I1 (by simpa using rv) hw
def gSub (to ti : TE) (t : TSet) : TG := fun v σ H Q => to σ H fun o H1 => ti σ H1 fun i H2 => t o i v H2 fun H3 => Q σ H3
theorem pg_sub {o i : Expr} {to ti : TE} {t : TSet} (ho : PE X o to) (hi : PE X i ti) (hs : PSet X t)
    (ha : ∀ v, assign (.Subscript o i pos) X.env v = (do
      let ov ← holding [v] (eval o X.env)
      let iv ← holding [v, ov] (eval i X.env)
      standAt pos
      holding [v, ov, iv] (setItem ov iv v)
      release [v, ov, iv] []) := by intro _; rfl) : PG X (.Subscript o i pos) (gSub to ti t) := by
  intro pins s σ H v u Q I r h
  rw [ha]
  refine wpAny_bind (wpAny_holding (thn (ho pins s σ H _ I h) fun ov s1 ⟨x, H1, I1, r1, q1⟩ => ?_))
  refine wpAny_bind (wpAny_holding (thn (hi pins s1 σ H1 _ I1 q1) fun iv s2 ⟨y, H2, I2, r2, q2⟩ => ?_))
  refine wpAny_bind (wpAny_standAt (wpAny_bind (wpAny_holding (thn (hs pins s2 σ H2 x y v ov iv u _ I2 r1 r2 r q2) fun _ s3 ⟨H3, I3, q3⟩ => ?_))))
  exact wpAny_release ⟨σ, H3, I3, q3⟩
def tAsg (te : TE) (g : TG) : TS := fun D σ H => te σ H fun x H1 => g x σ H1 D.nx
theorem ps_asg {tg e : Expr} {te : TE} {g : TG} (he : PE X e te) (hg : PG X tg g) (hs : swapsWithSole [tg] e pos.line X.env = pure false := by rfl) (hw : swappedStores [tg] e X.env = pure none := by rfl)
    (h1 : (assignEach [tg] X.env).map (·.2) = [assign tg X.env] := by rfl) : PS X (.Assign [tg] e pos) (tAsg te g) := by
  intro pins s σ H D I h
  refine wpAny_Assign_stores (thn (he pins s σ H _ I h) fun v s1 ⟨x, H1, I1, r1, q1⟩ => ?_) hs hw
  rw [h1]
  exact thn (hg pins s1 σ H1 x v _ I1 r1 q1) fun _ s2 q => q
theorem ps_set {i : Nat} {x : Str} {e : Expr} {te : TE} {pos' : Pos} (hN : X.N.Nodup) (hi : X.N[i]? = some x) (hx : Loc X.env.scope x) (he : PE X e te) (hs : swapsWith e (some (.Name x pos')) pos.line X.env = pure false := by rfl) (hf : X.fn x = true ∨ X.env.scope.names.lookup x = some .local := by first | exact .inl rfl | exact .inr rfl | assumption) :
    PS X (.Assign [.Name x pos'] e pos) (tAsg te (gName i)) := by
  intro pins s σ H D I h
  refine wpAny_Assign_Name (thn (he pins s σ H _ I h) fun v s1 ⟨y, H1, I1, r1, q1⟩ => ?_) hs
  exact store_ok I1 hN hi hx r1 (fun s2 I2 => ⟨_, H1, I2, q1⟩) hf
end
section
variable {X : Cx} {pos : Pos}
def tWhile (c : TT) (tb : TS) : TS := fun D σ H => ∃ W : Nat → St → Hp → Prop, (∃ m, W m σ H) ∧ ∀ m σ H, W m σ H →
  c σ H fun b H1 => if b = true then ∃ N : St → Hp → Prop, (∀ σ' H', N σ' H' → ∃ m', m' < m ∧ W m' σ' H') ∧ tb { D with nx := N, ct := N, bk := D.nx } σ H1 else D.nx σ H1
theorem ps_while {c : Expr} {body : List Stmt} {tc : TT} {tb : TS} (hp : PassesOwn (model X.prog X.w) X.A X.env X.xe) (hc : PT X c tc) (hb : PSs X body tb) : PS X (.While c body [] pos) (tWhile tc tb) := by
  intro pins s σ H D I h
  obtain ⟨W, ⟨m0, w0⟩, turn⟩ := h
  refine wpAny_While (codeAny_whileLoop (fun n s' => ∃ σ' H', Inv X pins σ' H' s' ∧ W n σ' H') ?_ m0 ⟨σ, H, I, w0⟩)
  rintro n s1 ⟨σ1, H1, I1, w1⟩
  refine wpAny_passesOwn hp (thn (hc pins s1 σ1 H1 _ I1 (turn n σ1 H1 w1)) fun b s2 ⟨H2, I2, q2⟩ => ?_)
  cases b with
  | true =>
    obtain ⟨N, hN, q2⟩ := q2
    rw [if_pos rfl]
    refine wpAny_passesOwn hp (thn (hb pins s2 σ1 H2 _ I2 q2) fun f s3 q3 => ?_)
    cases f with
    | next =>
      obtain ⟨σ3, H3, I3, n3⟩ := q3
      obtain ⟨m', hm, w3⟩ := hN σ3 H3 n3
      exact ⟨m', hm, σ3, H3, I3, w3⟩
    | cont =>
      obtain ⟨σ3, H3, I3, n3⟩ := q3
      obtain ⟨m', hm, w3⟩ := hN σ3 H3 n3
      exact ⟨m', hm, σ3, H3, I3, w3⟩
    | brk => exact q3
    | ret v => exact q3
  | false =>
    rw [if_neg Bool.false_ne_true]
    exact wpAny_execs_nil ⟨σ1, H2, I2, q2⟩
end
structure It where
  go : Nat → Hp → Prop
  yld : Nat → Hp → V → Hp → Prop
  stop : Nat → Hp → Prop
def FpOk (X : Cx) (pins : List (Addr × Obj)) (H : Hp) (b : Addr) : Prop :=
  H b = none ∧ b ≠ X.env.locals ∧ b ∉ X.fs ∧ (b ∈ X.ex ∨ X.s₀.heap.objs.size ≤ b) ∧ (∀ x c, X.env.cells.lookup x = some c → c ≠ b) ∧ ∀ p ∈ X.pn ++ pins, p.1 ≠ b
theorem Inv.fpOk {X : Cx} {pins : List (Addr × Obj)} {σ : St} {H H' : Hp} {s : Shared} {b : Addr} (I : Inv X pins σ H s) (hb : s.heap.objs.size ≤ b) (hn : H' b = none) : FpOk X pins H' b := by
  refine ⟨hn, Nat.ne_of_gt (Nat.lt_of_lt_of_le I.lt hb), I.nofs hb, .inr (Nat.le_trans I.sz hb), fun x c e z => ?_, fun p hp z => ?_⟩
  · obtain ⟨v, q⟩ := I.cell x c e
    exact absurd (Nat.lt_of_lt_of_le q.lt (by rw [z]; exact hb)) (Nat.lt_irrefl _)
  · exact absurd (Nat.lt_of_lt_of_le (Heap.lt_size (I.pin p hp).1) (by rw [z]; exact hb)) (Nat.lt_irrefl _)
structure Turn (P : Program) (w : World) (K : PySem.W.Frag) (tg : Expr) (J : It) (fp : List Addr) (it : Addr) (tn : Nat → Heap → Prop) : Prop where
  mem : it ∈ fp
  obj : ∀ i h, tn i h → ∀ b ∈ fp, ∃ o, h.get? b = some o ∧ ∀ v, o.data ≠ .cell v
  keep : ∀ i h h', tn i h → (∀ b ∈ fp, ∀ o, h.get? b = some o → h'.get? b = some o) → tn i h'
  item : ∀ (X : Cx), X.prog = P → X.w = w → X.K = K → X.calm = true → ∀ (i : Nat) (pins : List (Addr × Obj)) (s : Shared) (σ : St) (H : Hp) (E : Value → Shared → Prop), Inv X pins σ H s → (∀ b ∈ fp, FpOk X pins H b) → tn i s.heap → J.go i H →
    wpAny (model P w) X.A (pyNext (.ref it)) (fun r s1 => ∃ u, r = some u ∧
      wpAny (model P w) X.A (letOwnedTupleGo tg (.ref it) u) (fun _ s2 => ∃ x H', Inv X pins σ H' s2 ∧ RelV x u ∧ J.yld i H x H' ∧ tn (i + 1) s2.heap ∧ ∀ b ∈ fp, H' b = none) E s1) E s
  done : ∀ (X : Cx), X.prog = P → X.w = w → X.K = K → X.calm = true → ∀ (i : Nat) (pins : List (Addr × Obj)) (s : Shared) (σ : St) (H : Hp) (E : Value → Shared → Prop), Inv X pins σ H s → (∀ b ∈ fp, FpOk X pins H b) → tn i s.heap → J.stop i H →
    wpAny (model P w) X.A (pyNext (.ref it)) (fun r s1 => r = none ∧ Inv X pins σ H s1) E s
  self : ∀ (A : Around) (i : Nat) (s : Shared) (Q : Value → Shared → Prop) (E : Value → Shared → Prop), tn i s.heap → Q (.ref it) s → wpAny (model P w) A (pyIter (.ref it)) Q E s
abbrev TI := St → Hp → (It → Hp → Prop) → Prop
def PIE (X : Cx) (pins : List (Addr × Obj)) (σ : St) (tg : Expr) (R : It → Hp → Prop) (itv : Value) (s2 : Shared) : Prop :=
  ∃ (it : Addr) (fp : List Addr) (tn : Nat → Heap → Prop) (J : It) (H' : Hp), itv = .ref it ∧ Inv X pins σ H' s2 ∧ Turn X.prog X.w X.K tg J fp it tn ∧ tn 0 s2.heap ∧ (∀ b ∈ fp, FpOk X pins H' b) ∧ R J H'
def PI (X : Cx) (tg iter : Expr) (wi : TI) : Prop :=
  ∀ (pins : List (Addr × Obj)) (s : Shared) (σ : St) (H : Hp) (R : It → Hp → Prop), Inv X pins σ H s → wi σ H R →
    wpAny (model X.prog X.w) X.A (eval iter X.env) (fun v s1 => wpAny (model X.prog X.w) X.A (pyIter v) (PIE X pins σ tg R) X.xe s1) X.xe s
theorem go_of {M : Model} {A : Around} {E : Value → Shared → Prop} {s : Shared} {tg : Expr} {it : Addr} {u : Value} {o : Obj} {n : String} {vs : Array Value} {Q : Unit → Shared → Prop} (ho : s.heap.get? it = some o) (hc : o.cls = .type n) (hd : o.data = .fields vs)
    (hn : ["enumerate", "zip", "dict_itemiterator", "dict_reverseitemiterator", "odict_iterator", "itertools.zip_longest", "itertools.pairwise"].contains n = false) (hQ : Q () s) : wpAny M A (letOwnedTupleGo tg (.ref it) u) Q E s := by
  unfold letOwnedTupleGo
  cases tg <;> first
    | exact wpAny_pure hQ
    | (cases u <;> first
        | exact wpAny_pure hQ
        | (refine wpAny_bind (wpAny_load ho ?_)
           rw [hc, hd]
           show wpAny M A (if (["enumerate", "zip", "dict_itemiterator", "dict_reverseitemiterator", "odict_iterator", "itertools.zip_longest", "itertools.pairwise"].contains n && vs[0]? == some (rawInt _)) = true then _ else _) Q E s
           rw [if_neg (by intro h; rw [hn, Bool.false_and] at h; cases h)]
           exact wpAny_pure hQ))
def Itl (K : PySem.W.Frag) (a : Addr) : It :=
  ⟨fun i H => ∃ xs x, SqL K H a xs ∧ xs[i]? = some x, fun i H x H' => H' = H ∧ ∀ xs, SqL K H a xs → xs[i]? = some x, fun i H => ∃ xs, SqL K H a xs ∧ xs.length ≤ i⟩
def Itt (K : PySem.W.Frag) (a : Addr) : It :=
  ⟨fun i H => ∃ xs x, SqT K H a xs ∧ xs[i]? = some x, fun i H x H' => H' = H ∧ ∀ xs, SqT K H a xs → xs[i]? = some x, fun i H => ∃ xs, SqT K H a xs ∧ xs.length ≤ i⟩
def Itr (lo : Int) (n : Nat) : It := ⟨fun i _ => i < n, fun i H x H' => H' = H ∧ x = .int (lo + i), fun i _ => n ≤ i⟩
theorem turn_list {P : Program} {w : World} {K : PySem.W.Frag} {tg : Expr} (a it : Addr) : Turn P w K tg (Itl K a) [it] it (fun i h => h.IsListIter it a i) where
  mem := by simp
  obj := fun i h st b hb => by
    have e : b = it := by simpa using hb
    subst e
    obtain ⟨o, e, c, d⟩ := st
    exact ⟨o, e, fun v z => by rw [d] at z; cases z⟩
  keep := fun i h h' st k => st.at fun o e => k it (by simp) o e
  item := by
    intro X hP hw hK hc i pins s σ H E I hf st hg
    subst hP hw hK
    obtain ⟨xs, x, hq, hx⟩ := hg
    obtain ⟨its, rv, p, hz⟩ := I.list hq
    obtain ⟨u, hu, ru⟩ := rv.get hx
    obtain ⟨f0, f1, f2, f3, f4, f5⟩ := hf it (by simp)
    refine wpAny_pyNext_list_item st p.isList (x := u) (by simpa using hu) fun h' st' sb => ?_
    have I1 : Inv X pins σ H { s with heap := h' } := I.turned (t' := s.toks) (fun b o hb e => (sb.2 b hb).trans e) f0 f1 f3 f4 f5
    obtain ⟨o, e, c, d⟩ := id st'
    exact ⟨u, rfl, go_of (s := { s with heap := h' }) e c d (by decide) ⟨x, H, I1, ru, ⟨rfl, fun ys hy => by rw [I.list_inj hy hq]; exact hx⟩, st', fun b hb => (hf b hb).1⟩⟩
  done := by
    intro X hP hw hK hc i pins s σ H E I hf st hg
    subst hP hw hK
    obtain ⟨xs, hq, hx⟩ := hg
    obtain ⟨its, rv, p, hz⟩ := I.list hq
    obtain ⟨f0, f1, f2, f3, f4, f5⟩ := hf it (by simp)
    have hl := rv.length
    exact wpAny_pyNext_list_end (I.ok.hd hc) st p.isList (by simp; omega) fun h' eb => ⟨rfl, I.turned (t' := s.toks) (fun b o hb e => eb b o hb e) f0 f1 f3 f4 f5⟩
  self := fun _ _ _ _ _ st h => wpAny_pyIter_listiter st h
theorem turn_tuple {P : Program} {w : World} {K : PySem.W.Frag} {tg : Expr} (a it : Addr) : Turn P w K tg (Itt K a) [it] it (fun i h => h.IsTupleIter it a i) where
  mem := by simp
  obj := fun i h st b hb => by
    have e : b = it := by simpa using hb
    subst e
    obtain ⟨o, e, c, d⟩ := st
    exact ⟨o, e, fun v z => by rw [d] at z; cases z⟩
  keep := fun i h h' st k => st.at fun o e => k it (by simp) o e
  item := by
    intro X hP hw hK hc i pins s σ H E I hf st hg
    subst hP hw hK
    obtain ⟨xs, x, hq, hx⟩ := hg
    obtain ⟨its, rv, p, hz⟩ := I.tuple hq
    obtain ⟨u, hu, ru⟩ := rv.get hx
    obtain ⟨f0, f1, f2, f3, f4, f5⟩ := hf it (by simp)
    refine wpAny_pyNext_tuple_item st (show s.heap.IsTuple a its.toArray from p) (x := u) (by simpa using hu) fun h' st' sb => ?_
    have I1 : Inv X pins σ H { s with heap := h' } := I.turned (t' := s.toks) (fun b o hb e => (sb.2 b hb).trans e) f0 f1 f3 f4 f5
    obtain ⟨o, e, c, d⟩ := id st'
    exact ⟨u, rfl, go_of (s := { s with heap := h' }) e c d (by decide) ⟨x, H, I1, ru, ⟨rfl, fun ys hy => by rw [I.tuple_inj hy hq]; exact hx⟩, st', fun b hb => (hf b hb).1⟩⟩
  done := by
    intro X hP hw hK hc i pins s σ H E I hf st hg
    subst hP hw hK
    obtain ⟨xs, hq, hx⟩ := hg
    obtain ⟨its, rv, p, hz⟩ := I.tuple hq
    obtain ⟨f0, f1, f2, f3, f4, f5⟩ := hf it (by simp)
    have hl := rv.length
    exact wpAny_pyNext_tuple_end (I.ok.hd hc) st (show s.heap.IsTuple a its.toArray from p) (by simp; omega) fun h' eb => ⟨rfl, I.turned (t' := s.toks) (fun b o hb e => eb b o hb e) f0 f1 f3 f4 f5⟩
  self := fun _ _ _ _ _ st h => wpAny_pyIter_tupleiter st h
theorem turn_range {P : Program} {w : World} {K : PySem.W.Frag} {tg : Expr} (it : Addr) (lo : Int) (n : Nat) : Turn P w K tg (Itr lo n) [it] it (fun i h => IsRangeIter h it (lo + (i : Nat) * 1) ((n : Int) - (i : Nat)) 1) where
  mem := by simp
  obj := fun i h st b hb => by
    have e : b = it := by simpa using hb
    subst e
    exact ⟨_, st, fun v z => by
      have z' : Data.fields _ = Data.cell v := z
      cases z'⟩
  keep := fun i h h' st k => k it (by simp) _ st
  item := by
    intro X hP hw hK hc i pins s σ H E I hf st hg
    subst hP hw hK
    obtain ⟨f0, f1, f2, f3, f4, f5⟩ := hf it (by simp)
    have W := Walks.range (prog := X.prog) (w := X.w) (I.ok.hd hc) it lo 1 n
    refine W.item i s _ _ hg st fun v h' tk hv st' kk => ?_
    obtain ⟨t, rfl⟩ := hv
    have I1 : Inv X pins σ H { s with heap := h', toks := tk } := I.turned (fun b o hb e => kk b o (by simpa using hb) e) f0 f1 f3 f4 f5
    refine ⟨_, rfl, go_of (s := { s with heap := h', toks := tk }) (n := "range_iterator") st' rfl rfl (by decide) ⟨.int (lo + i), H, I1, ⟨t, ?_⟩, ⟨rfl, rfl⟩, st', fun b hb => (hf b hb).1⟩⟩
    rw [Int.mul_one]
  done := by
    intro X hP hw hK hc i pins s σ H E I hf st hg
    subst hP hw hK
    obtain ⟨f0, f1, f2, f3, f4, f5⟩ := hf it (by simp)
    exact wpAny_pyNext_range_end (I.ok.hd hc) st (by have : n ≤ i := hg; omega) fun h' eb => ⟨rfl, I.turned (t' := s.toks) (fun b o hb e => eb b o hb e) f0 f1 f3 f4 f5⟩
  self := fun _ _ _ _ _ st h => wpAny_pyIter_rangeiter st h
end L2
namespace L2
open PySem PySem.Spec PyProof.Rows
section
variable {X : Cx} {tg : Expr}
def iList (K : PySem.W.Frag) (tl : TE) : TI := fun σ H R => tl σ H fun x H1 => ∃ a, x = .ref a ∧ (∃ xs, SqL K H1 a xs) ∧ R (Itl K a) H1
def iTup (K : PySem.W.Frag) (tl : TE) : TI := fun σ H R => tl σ H fun x H1 => ∃ a, x = .ref a ∧ (∃ xs, SqT K H1 a xs) ∧ R (Itt K a) H1
theorem pi_list {l : Expr} {tl : TE} (hl : PE X l tl) : PI X tg l (iList X.K tl) := by
  intro pins s σ H R I h
  refine thn (hl pins s σ H _ I h) fun v s1 ⟨x, H1, I1, r1, q1⟩ => ?_
  obtain ⟨a, e, ⟨xs, hq⟩, q⟩ := q1
  subst e
  cases r1
  obtain ⟨its, rv, p, hz⟩ := I1.list hq
  refine wpAny_pyIter_list p.isList ?_
  refine ⟨s1.heap.objs.size, [s1.heap.objs.size], _, _, H1, rfl, I1.kept (t' := s1.toks) fun b o e => Heap.get?_push_of_some _ e, turn_list a _, ⟨_, Heap.get?_push_size _ rfl, rfl, rfl⟩, fun b hb => ?_, q⟩
  have e : b = s1.heap.objs.size := by simpa using hb
  subst e
  exact I1.fpOk (Nat.le_refl _) (I1.hok.fresh (Nat.le_refl _))
theorem pi_tup {l : Expr} {tl : TE} (hl : PE X l tl) : PI X tg l (iTup X.K tl) := by
  intro pins s σ H R I h
  refine thn (hl pins s σ H _ I h) fun v s1 ⟨x, H1, I1, r1, q1⟩ => ?_
  obtain ⟨a, e, ⟨xs, hq⟩, q⟩ := q1
  subst e
  cases r1
  obtain ⟨its, rv, p, hz⟩ := I1.tuple hq
  refine wpAny_pyIter_tuple (show s1.heap.IsTuple a its.toArray from p) ?_
  refine ⟨s1.heap.objs.size, [s1.heap.objs.size], _, _, H1, rfl, I1.kept (t' := s1.toks) fun b o e => Heap.get?_push_of_some _ e, turn_tuple a _, ⟨_, Heap.get?_push_size _ rfl, rfl, rfl⟩, fun b hb => ?_, q⟩
  have e : b = s1.heap.objs.size := by simpa using hb
  subst e
  exact I1.fpOk (Nat.le_refl _) (I1.hok.fresh (Nat.le_refl _))
theorem range_it {pins : List (Addr × Obj)} {σ : St} {H : Hp} {s : Shared} {R : It → Hp → Prop} {E : Value → Shared → Prop} {lo hi : Int} {t u v : Tok} {tk : Nat} (I : Inv X pins σ H s) (h1 : -(2 ^ 62) ≤ lo) (h2 : lo < 2 ^ 62) (h3 : -(2 ^ 62) ≤ hi) (h4 : hi < 2 ^ 62)
    (q : R (Itr lo (hi - lo).toNat) H) : wpAny (model X.prog X.w) X.A (pyIter (.ref s.heap.objs.size)) (PIE X pins σ tg R) E { s with heap := s.heap.push { cls := .type "range", data := .fields #[.int lo t, .int hi u, .int 1 v] }, toks := tk } := by
  refine wpAny_pyIter_range (IsRange.new ..) (small_one h1 h2 h3 h4) ?_
  have I1 : Inv X pins σ H { s with heap := s.heap.push { cls := .type "range", data := .fields #[.int lo t, .int hi u, .int 1 v] }, toks := tk } := I.kept fun b o e => Heap.get?_push_of_some _ e
  refine ⟨(s.heap.push { cls := .type "range", data := .fields #[.int lo t, .int hi u, .int 1 v] }).objs.size, [(s.heap.push { cls := .type "range", data := .fields #[.int lo t, .int hi u, .int 1 v] }).objs.size], _, _, H, rfl,
    I1.kept (t' := tk) fun b o e => Heap.get?_push_of_some _ e, turn_range _ lo (hi - lo).toNat, ?_, fun b hb => ?_, q⟩
  · have e1 : lo + ((0 : Nat) : Int) * 1 = lo := by simp
    have e2 : (((hi - lo).toNat : Nat) : Int) - ((0 : Nat) : Int) = Builtin.Range.rangeSize lo hi 1 := by rw [rangeSize_one]; split <;> omega
    show IsRangeIter _ _ (lo + ((0 : Nat) : Int) * 1) ((((hi - lo).toNat : Nat) : Int) - ((0 : Nat) : Int)) 1
    rw [e1, e2]
    exact Heap.get?_push_size _ rfl
  · have e : b = (s.heap.push { cls := .type "range", data := .fields #[.int lo t, .int hi u, .int 1 v] }).objs.size := by simpa using hb
    subst e
    exact I1.fpOk (Nat.le_refl _) (I1.hok.fresh (Nat.le_refl _))
def iRng1 (ta : TA) : TI := fun σ H R => ta σ H fun vs H1 => ∃ j : Int, vs = [.int j] ∧ -(2 ^ 62) ≤ j ∧ j < 2 ^ 62 ∧ R (Itr 0 j.toNat) H1
def iRng2 (ta : TA) : TI := fun σ H R => ta σ H fun vs H1 => ∃ i j : Int, vs = [.int i, .int j] ∧ (-(2 ^ 62) ≤ i ∧ i < 2 ^ 62 ∧ -(2 ^ 62) ≤ j ∧ j < 2 ^ 62) ∧ R (Itr i (j - i).toNat) H1
theorem pi_range1 {a : Expr} {ta : TA} {p pos : Pos} (hg : Gl X "range") (hm : X.mg "range" = none) (ha : PA X [a] ta) (hs : starEach [a] X.env = [(false, eval a X.env)] := by rfl) : PI X tg (.Call (.Name "range" p) [a] [] pos) (iRng1 ta) := by
  intro pins s σ H R I h
  refine Call_ (ld_blt I hg hm boot_range (PyProof.Rows.callWith_type1 (thn (ha pos pins s σ H _ I h) fun us s1 ⟨vs, H1, I1, r1, q1⟩ => ?_) hs rfl))
  obtain ⟨j, e, q1, q2, q⟩ := q1
  subst e
  cases r1 with
  | cons r rr =>
    cases rr
    obtain ⟨t, rfl⟩ := r
    exact call_range_1 (range_it I1 (by omega) (by omega) q1 q2 (by simpa using q))
theorem pi_range2 {a b : Expr} {ta : TA} {p pos : Pos} (hg : Gl X "range") (hm : X.mg "range" = none) (ha : PA X [a, b] ta) (hs : starEach [a, b] X.env = [(false, eval a X.env), (false, eval b X.env)] := by rfl) (hs2 : starEach [b] X.env = [(false, eval b X.env)] := by rfl) :
    PI X tg (.Call (.Name "range" p) [a, b] [] pos) (iRng2 ta) := by
  intro pins s σ H R I h
  refine Call_ (ld_blt I hg hm boot_range (PyProof.Rows.callWith_type1 (thn (ha pos pins s σ H _ I h) fun us s1 ⟨vs, H1, I1, r1, q1⟩ => ?_) (by rw [hs, hs2]) (by rw [hs2]; rfl)))
  obtain ⟨i, j, e, ⟨q1, q2, q3, q4⟩, q⟩ := q1
  subst e
  cases r1 with
  | cons r rr =>
    cases rr with
    | cons r' rr =>
      cases rr
      obtain ⟨t, rfl⟩ := r
      obtain ⟨t', rfl⟩ := r'
      exact call_range_2 (range_it I1 q1 q2 q3 q4 q)
def tFor (wi : TI) (g : TG) (tb : TS) : TS := fun D σ H => wi σ H fun J H1 => ∃ W : Nat → Nat → St → Hp → Prop, (∃ m, W 0 m σ H1) ∧ ∀ i m σ H, W i m σ H →
  (J.stop i H ∧ D.nx σ H) ∨ (J.go i H ∧ ∃ N : St → Hp → Prop, (∀ σ' H', N σ' H' → ∃ m', m' < m ∧ W (i + 1) m' σ' H') ∧ ∀ x H', J.yld i H x H' → g x σ H' fun σ2 H2 => tb { D with nx := N, ct := N, bk := D.nx } σ2 H2)
def pinsAt (fp : List Addr) (h : Heap) : List (Addr × Obj) := fp.filterMap fun b => (h.get? b).map fun o => (b, o)
theorem mem_pinsAt {fp : List Addr} {h : Heap} {b : Addr} {o : Obj} (hb : b ∈ fp) (e : h.get? b = some o) : (b, o) ∈ pinsAt fp h := List.mem_filterMap.mpr ⟨b, hb, by rw [e]; rfl⟩
theorem of_pinsAt {fp : List Addr} {h : Heap} {p : Addr × Obj} (hp : p ∈ pinsAt fp h) : p.1 ∈ fp ∧ h.get? p.1 = some p.2 := by
  obtain ⟨b, hb, e⟩ := List.mem_filterMap.mp hp
  cases q : h.get? b with
  | none => rw [q] at e; cases e
  | some o =>
    rw [q] at e
    have e' : (b, o) = p := Option.some.inj e
    subst e'
    exact ⟨hb, q⟩
theorem Inv.pinned {pins : List (Addr × Obj)} {σ : St} {H : Hp} {s : Shared} {fp : List Addr} (I : Inv X pins σ H s) (hf : ∀ b ∈ fp, FpOk X pins H b) (ho : ∀ b ∈ fp, ∃ o, s.heap.get? b = some o ∧ ∀ v, o.data ≠ .cell v) : Inv X (pins ++ pinsAt fp s.heap) σ H s :=
  I.pins_of fun p hp => (List.mem_append.mp hp).elim (fun z => I.pin p (List.mem_append_right _ z)) fun z => by
    obtain ⟨hb, e⟩ := of_pinsAt z
    obtain ⟨f0, f1, f2, _⟩ := hf p.1 hb
    obtain ⟨o, e', d⟩ := ho p.1 hb
    rw [e] at e'; cases e'
    exact ⟨e, f0, f1, f2, d⟩
theorem Inv.unpinned {pins pl : List (Addr × Obj)} {σ : St} {H : Hp} {s : Shared} (I : Inv X (pins ++ pl) σ H s) : Inv X pins σ H s := I.pins_of fun p hp => I.pin p (List.mem_append_right _ (List.mem_append_left _ hp))
theorem ps_for {iter : Expr} {body : List Stmt} {wi : TI} {g : TG} {tb : TS} {pos : Pos} (hp : PassesOwn (model X.prog X.w) X.A X.env X.xe) (hc : X.calm = true) (hi : PI X tg iter wi) (hg : PG X tg g) (hb : PSs X body tb)
    (hs : ∀ x, foldedSetIterable iter X.env x = pure x := by intro _; rfl) : PS X (.For tg iter body [] pos) (tFor wi g tb) := by
  intro pins s σ H D I h
  refine wpAny_For (thn (hi pins s σ H _ I h) fun v s1 h1 => thn h1 fun itv s2 h2 => ?_) hs
  obtain ⟨it, fp, tn, J, H2, e, I2, T, st2, f2, W, ⟨m0, w0⟩, turn⟩ := h2
  subst e
  -- what stays true of the iterator's objects through the loop
  have stat : ∀ {H' : Hp}, (∀ b ∈ fp, H' b = none) → ∀ b ∈ fp, FpOk X pins H' b := fun hn b hb => ⟨hn b hb, (f2 b hb).2⟩
  refine codeAny_forLoop_any (fun n s' => ∃ i σ' H', Inv X pins σ' H' s' ∧ tn i s'.heap ∧ (∀ b ∈ fp, H' b = none) ∧ W i n σ' H') ?_ m0 ⟨0, σ, H2, I2, st2, fun b hb => (f2 b hb).1, w0⟩
  rintro n s3 ⟨i, σ3, H3, I3, st3, fr3, w3⟩
  rcases turn i n σ3 H3 w3 with ⟨stop, qn⟩ | ⟨go, N, hN, step⟩
  · refine wpAny_passesOwn hp (thn (T.done X rfl rfl rfl hc i pins s3 σ3 H3 X.xe I3 (stat fr3) st3 stop) fun r s4 ⟨hr, I4⟩ => ?_)
    subst hr
    exact wpAny_execs_nil ⟨σ3, H3, I4, qn⟩
  · refine wpAny_passesOwn hp (thn (T.item X rfl rfl rfl hc i pins s3 σ3 H3 X.xe I3 (stat fr3) st3 go) fun r s4 ⟨u, hr, h4⟩ => ?_)
    subst hr
    refine wpAny_passesOwn hp (thn h4 fun _ s5 ⟨x, H5, I5, r5, y5, st5, fr5⟩ => ?_)
    have I5' := I5.pinned (stat fr5) (T.obj _ _ st5)
    refine wpAny_passesOwn hp (thn (hg _ s5 σ3 H5 x u _ I5' r5 (step x H5 y5)) fun _ s6 ⟨σ6, H6, I6, q6⟩ => ?_)
    refine wpAny_passesOwn hp (thn (hb _ s6 σ6 H6 _ I6 q6) fun f s7 q7 => ?_)
    have again : ∀ {σ7 : St} {H7 : Hp}, Inv X (pins ++ pinsAt fp s5.heap) σ7 H7 s7 → N σ7 H7 → ∃ m, m < n ∧ ∃ i σ' H', Inv X pins σ' H' s7 ∧ tn i s7.heap ∧ (∀ b ∈ fp, H' b = none) ∧ W i m σ' H' := fun {σ7 H7} I7 n7 => by
      obtain ⟨m', hm, w7⟩ := hN σ7 H7 n7
      refine ⟨m', hm, i + 1, σ7, H7, I7.unpinned, T.keep _ _ _ st5 fun b hb o e => (I7.pin (b, o) (List.mem_append_right _ (List.mem_append_right _ (mem_pinsAt hb e)))).1, fun b hb => ?_, w7⟩
      obtain ⟨o, e, d⟩ := T.obj _ _ st5 b hb
      exact (I7.pin (b, o) (List.mem_append_right _ (List.mem_append_right _ (mem_pinsAt hb e)))).2.1
    cases f with
    | next => obtain ⟨σ7, H7, I7, n7⟩ := q7; exact again I7 n7
    | cont => obtain ⟨σ7, H7, I7, n7⟩ := q7; exact again I7 n7
    | brk => obtain ⟨σ7, H7, I7, q7⟩ := q7; exact ⟨σ7, H7, I7.unpinned, q7⟩
    | ret v => obtain ⟨x7, σ7, H7, I7, r7, q7⟩ := q7; exact ⟨x7, σ7, H7, I7.unpinned, r7, q7⟩
end
end L2
namespace L2
open PySem PySem.Spec PyProof.Rows
abbrev R2 := V → V → Hp → VK → Prop
def OpR (X : Cx) (f : Value → Value → Sem Value) (r : R2) : Prop :=
  ∀ (pins : List (Addr × Obj)) (s : Shared) (σ : St) (H : Hp) (x y : V) (v u : Value) (Q : VK), Inv X pins σ H s → RelV x v → RelV y u → r x y H Q →
    wpAny (model X.prog X.w) X.A (f v u) (EP X pins σ Q) X.xe s
def UnR (X : Cx) (f : Value → Sem Value) (r : V → Hp → VK → Prop) : Prop :=
  ∀ (pins : List (Addr × Obj)) (s : Shared) (σ : St) (H : Hp) (x : V) (v : Value) (Q : VK), Inv X pins σ H s → RelV x v → r x H Q →
    wpAny (model X.prog X.w) X.A (f v) (EP X pins σ Q) X.xe s
def CallR (X : Cx) (f : Value) (r : List V → Hp → VK → Prop) : Prop :=
  ∀ (pins : List (Addr × Obj)) (s : Shared) (σ : St) (H : Hp) (xs : List V) (us : List Value) (Q : VK), Inv X pins σ H s → Vals xs us → r xs H Q →
    wpAny (model X.prog X.w) X.A (call f us) (EP X pins σ Q) X.xe s
def tOp (r : R2) (ta tb : TE) : TE := fun σ H Q => ta σ H fun x H1 => tb σ H1 fun y H2 => r x y H2 Q
def tUn (r : V → Hp → VK → Prop) (ta : TE) : TE := fun σ H Q => ta σ H fun x H1 => r x H1 Q
def rI (C : Int → Int → Prop) (g : Int → Int → V) : R2 := fun x y H Q => ∃ i j, x = .int i ∧ y = .int j ∧ C i j ∧ Q (g i j) H
def rI0 (g : Int → Int → V) : R2 := fun x y H Q => ∃ i j, x = .int i ∧ y = .int j ∧ Q (g i j) H
def rU (g : Int → V) : V → Hp → VK → Prop := fun x H Q => ∃ i, x = .int i ∧ Q (g i) H
section
variable {X : Cx} {a b c : Expr} {ta tb tc : TE} {pos : Pos}
theorem binT (ha : PE X a ta) (hb : PE X b tb) {pins : List (Addr × Obj)} {s : Shared} {σ : St} {H : Hp} {R : V → V → Hp → Prop} (I : Inv X pins σ H s)
    (h : ta σ H fun x H1 => tb σ H1 fun y H2 => R x y H2) {Q : Value → Shared → Prop} {f : Value → Value → Sem Value}
    (hf : ∀ v u s2 x y H2, Inv X pins σ H2 s2 → RelV x v → RelV y u → R x y H2 → wpAny (model X.prog X.w) X.A (f v u) Q X.xe s2) :
    wpAny (model X.prog X.w) X.A (eval a X.env) (fun v s₁ => wpAny (model X.prog X.w) X.A (eval b X.env) (fun u s₂ => wpAny (model X.prog X.w) X.A (f v u) Q X.xe s₂) X.xe s₁) X.xe s := by
  refine thn (ha pins s σ H _ I h) fun v s1 ⟨x, H1, I1, r1, q1⟩ => ?_
  refine thn (hb pins s1 σ H1 _ I1 q1) fun u s2 ⟨y, H2, I2, r2, q2⟩ => ?_
  exact hf v u s2 x y H2 I2 r1 r2 q2
theorem pe_op {op : Operator} {r : R2} (ho : OpR X (binaryOp op) r) (ha : PE X a ta) (hb : PE X b tb) : PE X (.BinOp a op b pos) (tOp r ta tb) := by
  intro pins s σ H Q I h
  exact wpAny_BinOp (binT ha hb I h fun v u s2 x y H2 I2 rx ry q => ho pins s2 σ H2 x y v u Q I2 rx ry q)
theorem pe_un {op : UnaryOp} {r : V → Hp → VK → Prop} (ho : UnR X (unaryOp op) r) (ha : PE X a ta) : PE X (.UnaryOp op a pos) (tUn r ta) := by
  intro pins s σ H Q I h
  exact UnaryOp_ (thn (ha pins s σ H _ I h) fun v s1 ⟨x, H1, I1, r1, q1⟩ => ho pins s1 σ H1 x v Q I1 r1 q1)
theorem opI {f : Value → Value → Sem Value} {C : Int → Int → Prop} {g : Int → Int → Int}
    (rule : ∀ (i j : Int) (t u : Tok) (s : Shared) (Q : Value → Shared → Prop) (E : Value → Shared → Prop), C i j → Q (.int (g i j) s.toks) { s with toks := s.toks + 1 } → wpAny (model X.prog X.w) X.A (f (.int i t) (.int j u)) Q E s) :
    OpR X f (rI C fun i j => .int (g i j)) := by
  intro pins s σ H x y v u Q I rx ry h
  obtain ⟨i, j, rfl, rfl, hc, q⟩ := h
  obtain ⟨t, rfl⟩ := rx
  obtain ⟨t', rfl⟩ := ry
  exact rule i j t t' s _ _ hc ⟨.int (g i j), H, I.tok _, ⟨_, rfl⟩, q⟩
theorem opI0 {f : Value → Value → Sem Value} {g : Int → Int → Int}
    (rule : ∀ (i j : Int) (t u : Tok) (s : Shared) (Q : Value → Shared → Prop) (E : Value → Shared → Prop), Q (.int (g i j) s.toks) { s with toks := s.toks + 1 } → wpAny (model X.prog X.w) X.A (f (.int i t) (.int j u)) Q E s) :
    OpR X f (rI0 fun i j => .int (g i j)) := by
  intro pins s σ H x y v u Q I rx ry h
  obtain ⟨i, j, rfl, rfl, q⟩ := h
  obtain ⟨t, rfl⟩ := rx
  obtain ⟨t', rfl⟩ := ry
  exact rule i j t t' s _ _ ⟨.int (g i j), H, I.tok _, ⟨_, rfl⟩, q⟩
theorem opB0 {f : Value → Value → Sem Value} {g : Int → Int → Bool}
    (rule : ∀ (i j : Int) (t u : Tok) (s : Shared) (Q : Value → Shared → Prop) (E : Value → Shared → Prop), Q (.bool (g i j)) s → wpAny (model X.prog X.w) X.A (f (.int i t) (.int j u)) Q E s) :
    OpR X f (rI0 fun i j => .bl (g i j)) := by
  intro pins s σ H x y v u Q I rx ry h
  obtain ⟨i, j, rfl, rfl, q⟩ := h
  obtain ⟨t, rfl⟩ := rx
  obtain ⟨t', rfl⟩ := ry
  exact rule i j t t' s _ _ ⟨.bl (g i j), H, I, rfl, q⟩
def CDiv (i j : Int) : Prop := 0 < j ∧ j < 1073741824
def CPow (i j : Int) : Prop := 0 ≤ j ∧ j ≤ 1000000 ∧ i.natAbs < 2 ^ 64
def CMul (i j : Int) : Prop := (-(2 ^ 64) < i ∧ i < 2 ^ 64) ∨ (-(2 ^ 64) < j ∧ j < 2 ^ 64)
theorem CMul.ok {i j : Int} (h : CMul i j) : IntMulOk i j := by
  rcases h with ⟨h1, h2⟩ | ⟨h1, h2⟩
  · exact .of_left (intBits_le_64 h1 h2)
  · exact .of_right (intBits_le_64 h1 h2)
theorem op_add : OpR X (binaryOp .Add) (rI0 fun i j => .int (i + j)) := opI0 fun _ _ _ _ _ _ _ q => add_int q
theorem op_sub : OpR X (binaryOp .Sub) (rI0 fun i j => .int (i - j)) := opI0 fun _ _ _ _ _ _ _ q => sub_int q
theorem op_mul : OpR X (binaryOp .Mult) (rI CMul fun i j => .int (i * j)) := opI fun _ _ _ _ _ _ _ hc q => mul_int q hc.ok
theorem op_fdiv : OpR X (binaryOp .FloorDiv) (rI CDiv fun i j => .int (i / j)) := opI fun i j _ _ _ _ _ hc q => by
  have h1 : (0 : Int) < j := hc.1
  have h2 : j < 1073741824 := hc.2
  exact floordiv_int (by omega) (by rw [Int.fdiv_eq_ediv_of_nonneg i (by omega)]; exact q) (.inl (PyProof.noPylong_small (by omega)))
theorem op_mod : OpR X (binaryOp .Mod) (rI (fun _ j => 0 < j) fun i j => .int (i % j)) := opI fun i j _ _ _ _ _ hc q => by
  have h1 : (0 : Int) < j := hc
  exact mod_int' (by omega) (by rw [Int.fmod_eq_emod_of_nonneg i (by omega)]; exact q)
theorem op_pow : OpR X (binaryOp .Pow) (rI CPow fun i j => .int (i ^ j.toNat)) := opI fun _ _ _ _ _ _ _ hc q => pow_int_small hc.1 hc.2.1 hc.2.2 q
theorem unI {f : Value → Sem Value} {g : Int → Int}
    (rule : ∀ (i : Int) (t : Tok) (s : Shared) (Q : Value → Shared → Prop) (E : Value → Shared → Prop), Q (.int (g i) s.toks) { s with toks := s.toks + 1 } → wpAny (model X.prog X.w) X.A (f (.int i t)) Q E s) :
    UnR X f (rU fun i => .int (g i)) := by
  intro pins s σ H x v Q I rx h
  obtain ⟨i, rfl, q⟩ := h
  obtain ⟨t, rfl⟩ := rx
  exact rule i t s _ _ ⟨.int (g i), H, I.tok _, ⟨_, rfl⟩, q⟩
theorem un_neg : UnR X (unaryOp .USub) (rU fun i => .int (-i)) := unI fun _ _ _ _ _ q => neg_int q
end
def scal : V → V → Bool
  | .non, .non => true | .non, .int _ => true | .int _, .non => true | .non, .bl _ => true | .bl _, .non => true | .non, .str _ => true | .str _, .non => true
  | .int _, .int _ => true | .bl _, .bl _ => true | .str _, .str _ => true | .byt _, .byt _ => true
  | .int _, .str _ => true | .str _, .int _ => true | .bl _, .str _ => true | .str _, .bl _ => true
  | _, _ => false
def rEq : R2 := fun x y H Q => scal x y = true ∧ Q (.bl (decide (x = y))) H
def rNe : R2 := fun x y H Q => scal x y = true ∧ Q (.bl (!decide (x = y))) H
theorem dec_int {i j : Int} : decide (V.int i = V.int j) = (i == j) := by
  rw [Bool.eq_iff_iff]
  simp
theorem dec_bl {i j : Bool} : decide (V.bl i = V.bl j) = (i == j) := by
  rw [Bool.eq_iff_iff]
  simp
theorem dec_str {i j : Str} : decide (V.str i = V.str j) = (i == j) := by
  rw [Bool.eq_iff_iff]
  simp
theorem dec_byt {i j : Array UInt8} : decide (V.byt i = V.byt j) = (i.toList == j.toList) := by
  rw [Bool.eq_iff_iff]
  cases i
  cases j
  simp
section
variable {X : Cx} {a b c : Expr} {ta tb tc : TE} {pos : Pos}
theorem fin_bl {pins : List (Addr × Obj)} {σ : St} {H : Hp} {s : Shared} {Q : VK} {k k' : Bool} (I : Inv X pins σ H s) (q : Q (.bl k) H) (e : k = k') : EP X pins σ Q (.bool k') s := by
  subst e
  exact ⟨.bl k, H, I, rfl, q⟩
theorem op_eq : OpR X (compareOp .Eq) rEq := by
  intro pins s σ H x y v u Q I rx ry h
  obtain ⟨hs, q⟩ := h
  cases x with
  | non =>
    cases rx
    cases y with
    | non => cases ry; exact PySem.EqNone.eq_none_none (fin_bl I q (by simp))
    | bl j => cases ry; exact PySem.EqNone.eq_none_bool (fin_bl I q (by simp))
    | int j => obtain ⟨t', rfl⟩ := ry; exact PySem.EqNone.eq_none_int (fin_bl I q (by simp))
    | str j => obtain ⟨t', rfl⟩ := ry; exact PySem.EqNone.eq_none_str (fin_bl I q (by simp))
    | _ => exact absurd (show false = true from hs) Bool.false_ne_true
  | bl i =>
    cases rx
    cases y with
    | non => cases ry; exact PySem.EqNone.eq_bool_none (fin_bl I q (by simp))
    | bl j => cases ry; exact eq_bool (fin_bl I q dec_bl)
    | str j => obtain ⟨t', rfl⟩ := ry; exact PySem.EqMixed.eq_bool_str (fin_bl I q (by simp))
    | _ => exact absurd (show false = true from hs) Bool.false_ne_true
  | int i =>
    obtain ⟨t, rfl⟩ := rx
    cases y with
    | non => cases ry; exact PySem.EqNone.eq_int_none (fin_bl I q (by simp))
    | int j => obtain ⟨t', rfl⟩ := ry; exact eq_int (fin_bl I q dec_int)
    | str j => obtain ⟨t', rfl⟩ := ry; exact PySem.EqMixed.eq_int_str (fin_bl I q (by simp))
    | _ => exact absurd (show false = true from hs) Bool.false_ne_true
  | str i =>
    obtain ⟨t, rfl⟩ := rx
    cases y with
    | non => cases ry; exact PySem.EqNone.eq_str_none (fin_bl I q (by simp))
    | bl j => cases ry; exact PySem.EqMixed.eq_str_bool (fin_bl I q (by simp))
    | int j => obtain ⟨t', rfl⟩ := ry; exact PySem.EqMixed.eq_str_int (fin_bl I q (by simp))
    | str j => obtain ⟨t', rfl⟩ := ry; exact eq_str (fin_bl I q dec_str)
    | _ => exact absurd (show false = true from hs) Bool.false_ne_true
  | byt i =>
    obtain ⟨t, rfl⟩ := rx
    cases y with
    | byt j => obtain ⟨t', rfl⟩ := ry; exact PySem.W.eq_bytes (fin_bl I q dec_byt)
    | _ => exact absurd (show false = true from hs) Bool.false_ne_true
  | _ => cases y <;> exact absurd (show false = true from hs) Bool.false_ne_true
theorem op_ne : OpR X (compareOp .NotEq) rNe := by
  intro pins s σ H x y v u Q I rx ry h
  obtain ⟨hs, q⟩ := h
  cases x with
  | non =>
    cases rx
    cases y with
    | non => cases ry; exact PySem.EqNone.ne_none_none (fin_bl I q (by simp))
    | bl j => cases ry; exact PySem.EqNone.ne_none_bool (fin_bl I q (by simp))
    | int j => obtain ⟨t', rfl⟩ := ry; exact PySem.EqNone.ne_none_int (fin_bl I q (by simp))
    | str j => obtain ⟨t', rfl⟩ := ry; exact PySem.EqNone.ne_none_str (fin_bl I q (by simp))
    | _ => exact absurd (show false = true from hs) Bool.false_ne_true
  | bl i =>
    cases rx
    cases y with
    | non => cases ry; exact PySem.EqNone.ne_bool_none (fin_bl I q (by simp))
    | bl j => cases ry; exact ne_bool (fin_bl I q (congrArg not dec_bl))
    | str j => obtain ⟨t', rfl⟩ := ry; exact PySem.EqMixed.ne_bool_str (fin_bl I q (by simp))
    | _ => exact absurd (show false = true from hs) Bool.false_ne_true
  | int i =>
    obtain ⟨t, rfl⟩ := rx
    cases y with
    | non => cases ry; exact PySem.EqNone.ne_int_none (fin_bl I q (by simp))
    | int j => obtain ⟨t', rfl⟩ := ry; exact ne_int (fin_bl I q (congrArg not dec_int))
    | str j => obtain ⟨t', rfl⟩ := ry; exact PySem.EqMixed.ne_int_str (fin_bl I q (by simp))
    | _ => exact absurd (show false = true from hs) Bool.false_ne_true
  | str i =>
    obtain ⟨t, rfl⟩ := rx
    cases y with
    | non => cases ry; exact PySem.EqNone.ne_str_none (fin_bl I q (by simp))
    | bl j => cases ry; exact PySem.EqMixed.ne_str_bool (fin_bl I q (by simp))
    | int j => obtain ⟨t', rfl⟩ := ry; exact PySem.EqMixed.ne_str_int (fin_bl I q (by simp))
    | str j => obtain ⟨t', rfl⟩ := ry; exact ne_str (fin_bl I q (congrArg not dec_str))
    | _ => exact absurd (show false = true from hs) Bool.false_ne_true
  | byt i =>
    obtain ⟨t, rfl⟩ := rx
    cases y with
    | byt j => obtain ⟨t', rfl⟩ := ry; exact PySem.W.ne_bytes (fin_bl I q (congrArg not dec_byt))
    | _ => exact absurd (show false = true from hs) Bool.false_ne_true
  | _ => cases y <;> exact absurd (show false = true from hs) Bool.false_ne_true
theorem op_lt : OpR X (compareOp .Lt) (rI0 fun i j => .bl (decide (i < j))) := opB0 fun _ _ _ _ _ _ _ q => lt_int q
theorem op_le : OpR X (compareOp .LtE) (rI0 fun i j => .bl (decide (i ≤ j))) := opB0 fun _ _ _ _ _ _ _ q => le_int q
theorem op_gt : OpR X (compareOp .Gt) (rI0 fun i j => .bl (decide (j < i))) := opB0 fun _ _ _ _ _ _ _ q => gt_int q
theorem op_ge : OpR X (compareOp .GtE) (rI0 fun i j => .bl (decide (j ≤ i))) := opB0 fun _ _ _ _ _ _ _ q => ge_int q
theorem OpR.or {f : Value → Value → Sem Value} {r r' : R2} (h : OpR X f r) (h' : OpR X f r') : OpR X f (fun x y H Q => r x y H Q ∨ r' x y H Q) := by
  intro pins s σ H x y v u Q I rx ry q
  rcases q with q | q
  · exact h pins s σ H x y v u Q I rx ry q
  · exact h' pins s σ H x y v u Q I rx ry q
theorem pe_cmpR {op : CmpOp} {r : R2} (ho : OpR X (compareOp op) r) (ha : PE X a ta) (hb : PE X b tb) (hm : behindInMarks op b = false) : PE X (.Compare a [op] [b] pos) (tOp r ta tb) := by
  intro pins s σ H Q I h
  exact wpAny_Compare1 (binT ha hb I h fun v u s2 x y H2 I2 rx ry q => ho pins s2 σ H2 x y v u Q I2 rx ry q) hm
def tTest (t : TE) : TT := fun σ H Q => t σ H fun x H' => ∃ k, x = .bl k ∧ Q k H'
theorem pt_cmpR {op : CmpOp} {r : R2} (ho : OpR X (compareOp op) r) (ha : PE X a ta) (hb : PE X b tb) (hm : behindInMarks op b = false) : PT X (.Compare a [op] [b] pos) (tTest (tOp r ta tb)) := by
  intro pins s σ H Q I h
  refine wpAny_isTrue_Compare1 (thn (ha pins s σ H _ I h) fun v s1 ⟨x, H1, I1, r1, q1⟩ => thn (hb pins s1 σ H1 _ I1 q1) fun u s2 ⟨y, H2, I2, r2, q2⟩ =>
    thn (ho pins s2 σ H2 x y v u _ I2 r1 r2 q2) fun c s3 ⟨z, H3, I3, r3, k, e, q3⟩ => ?_) hm
  subst e
  cases r3
  exact wpAny_truthy_bool ⟨H3, I3, q3⟩
def tChain (r r' : R2) (ta tb tc : TE) : TE := fun σ H Q => ta σ H fun x H1 => tb σ H1 fun y H2 => r x y H2 fun z H3 => ∃ k, z = .bl k ∧
  (if k = true then tc σ H3 fun w' H4 => r' y w' H4 Q else Q (.bl false) H3)
theorem pe_chain {op op' : CmpOp} {r r' : R2} (ho : OpR X (compareOp op) r) (ho' : OpR X (compareOp op') r') (ha : PE X a ta) (hb : PE X b tb) (hc : PE X c tc)
    (hm : lastMarks [op, op'] [b, c] = false := by with_unfolding_all rfl) : PE X (.Compare a [op, op'] [b, c] pos) (tChain r r' ta tb tc) := by
  intro pins s σ H Q I h
  refine Compare_chain (thn (ha pins s σ H _ I h) fun v s1 ⟨x, H1, I1, r1, q1⟩ => chain_link (thn (hb pins s1 σ H1 _ I1 q1) fun u s2 ⟨y, H2, I2, r2, q2⟩ =>
    thn (ho pins s2 σ H2 x y v u _ I2 r1 r2 q2) fun d s3 ⟨z, H3, I3, r3, k, e, q3⟩ => ?_)) hm
  subst e
  cases r3
  refine wpAny_truthy_bool ?_
  cases k with
  | false => exact ite_ff ⟨.bl false, H3, I3, rfl, q3⟩
  | true => exact ite_tt (chain_last (thn (hc pins s3 σ H3 _ I3 q3) fun w' s4 ⟨z', H4, I4, r4, q4⟩ => ho' pins s4 σ H4 y z' u w' Q I4 r2 r4 q4))
theorem line63 : (sizeLine : Nat) < 2 ^ 63 := by rw [sizeLine_eq]; decide
theorem vals1 {x : V} {us : List Value} (r : Vals [x] us) : ∃ u, us = [u] ∧ RelV x u := by
  cases r with
  | cons r1 r2 => cases r2; exact ⟨_, rfl, r1⟩
theorem call_int1 : CallR X (.type "int") (fun xs H Q => (∃ i, xs = [.int i] ∧ Q (.int i) H) ∨ ∃ k, xs = [.bl k] ∧ Q (.int (if k then 1 else 0)) H) := by
  intro pins s σ H xs us Q I r h
  rcases h with ⟨i, rfl, q⟩ | ⟨k, rfl, q⟩
  · obtain ⟨u, rfl, t, rfl⟩ := vals1 r
    exact call_int_int ⟨.int i, H, I, ⟨_, rfl⟩, q⟩
  · obtain ⟨u, rfl, r1⟩ := vals1 r
    cases r1
    exact call_int_bool ⟨.int (if k then 1 else 0), H, I.tok _, ⟨_, rfl⟩, q⟩
end
end L2
namespace L2
open PySem PySem.Spec PyProof.Rows
structure ObjM (h : Heap) (x dx C : Addr) (mA : Str → Option Value) : Prop where
  obj : h.get? x = some (PySem.W.instObj C dx)
  ns : h.Ns1 dx mA
  ne : dx ≠ x
theorem lookIn_ns {h : Heap} {dx : Addr} {mA : Str → Option Value} (n : h.Ns1 dx mA) : ∃ od, h.get? dx = some od ∧ ∀ name, PySem.W.lookIn name od = some (mA name) := by
  obtain ⟨o, es, ep, ho, hd, hk, _, hm⟩ := n
  refine ⟨o, ho, fun name => ?_⟩
  have e := hm name
  unfold nsFind findBy at e
  rw [← Array.find?_toList] at e
  unfold PySem.W.lookIn
  rw [hd]
  dsimp only
  split
  · rename_i y q
    rw [q] at e
    exact congrArg some e
  · rename_i q
    rw [q] at e
    have a : es.toList.any (·.refKey) = false := by
      rw [List.any_eq_false]
      intro y hy
      obtain ⟨z, t, hkey⟩ := hk y (Array.mem_toList_iff.mp hy)
      simp [DictEntry.refKey, hkey]
    have a' : ¬ es.toList.any (·.refKey) = true := by rw [a]; exact Bool.false_ne_true
    rw [if_neg a']
    exact congrArg some e
theorem ObjM.look {h : Heap} {x dx C : Addr} {mA : Str → Option Value} (I : ObjM h x dx C mA) : ∃ od, PySem.W.InstAt h x (PySem.W.instObj C dx) C (some od) ∧ ∀ name, PySem.W.lookIn name od = some (mA name) :=
  let ⟨od, ho, hl⟩ := lookIn_ns I.ns
  ⟨od, ⟨I.obj, rfl, rfl, ho⟩, hl⟩
section
variable {prog : Program} {w : World} {A : Around} {E : Value → Shared → Prop} {s : Shared} {K : PySem.W.Frag} {x dx C f : Addr} {mA : Str → Option Value} {name : Str} {v : Value}
theorem get_map {expr : Bool} {Q : Value → Shared → Prop} (X : K.In s.heap) (I : ObjM s.heap x dx C mA) (hg : PySem.W.plainGet K C name = true) (hh : PySem.W.hasDictIn K C = true)
    (ha : PySem.W.findIn K (.ref C) name = some none) (hv : mA name = some v) (hv' : PySem.W.handedIn v = true) (h : Q v { s with toks := s.toks + 1 }) :
    wpAny (model prog w) A (getAttr (.ref x) name expr) Q E s := by
  obtain ⟨od, J, hl⟩ := I.look
  exact PySem.W.get_value X J (PySem.W.plainGet_of hg).1 (PySem.W.findObj_own hh ha rfl (by rw [hl, hv])) hv' h
theorem get_meth {pl : Sem Bool} {Q : Value × List Value → Shared → Prop} (X : K.In s.heap) (I : ObjM s.heap x dx C mA) (hg : PySem.W.plainGet K C name = true)
    (hf : PySem.W.findIn K (.ref C) name = some (some (.ref f))) (ht : PySem.W.isFn K (.ref f) = true) (hv : mA name = none) (h : Q (.ref f, [.ref x]) s) :
    wpAny (model prog w) A (getMethod (.ref x) name pl) Q E s := by
  obtain ⟨od, J, hl⟩ := I.look
  exact PySem.W.method_fn X J (PySem.W.plainGet_of hg).1 (PySem.W.plainGet_of hg).2 hf (beq_iff_eq.mp ht) (by show (PySem.W.lookIn name od).map (·.isSome) = some false; rw [hl, hv]; rfl) h
theorem set_map {ns : List Str} {Q : Unit → Shared → Prop} (X : K.In s.heap) (I : ObjM s.heap x dx C mA)
    (hs : PySem.W.findIn K (.ref C) "__setattr__" = some (some (.builtin "object.__setattr__"))) (hp : PySem.W.plainOver K C = true) (ht : PySem.W.takerIn K C name = some none) (hh : PySem.W.hasDictIn K C = true)
    (hw : PySem.Within mA ns) (hsz : ns.length ≤ sizeLine)
    (h : ∀ h', ObjM h' x dx C (fun y => if y = name then some v else mA y) → Heap.SameBut dx s.heap h' → Q () { s with heap := h', toks := s.toks + 2 }) :
    wpAny (model prog w) A (setAttr (.ref x) name v) Q E s := by
  obtain ⟨od, J, hl⟩ := I.look
  refine PySem.W.set_plain X J hs (PySem.W.osa_open (s := { s with toks := s.toks + 1 }) (r := none) X J hp ht fun b => ?_)
  obtain ⟨cd, hc, hd'⟩ := PySem.W.any_some hh
  have hx : s.heap.get? x = some ⟨.ref C, some dx, .plain, #[]⟩ := I.obj
  refine wpAny_bind (wpAny_pure (wpAny_bind (wpAny_bind (wpAny_loadPart hx (wpAny_bind (PySem.W.Looks.here (s := { s with toks := s.toks + 1 }) (PySem.W.looks_clsIn X hc) ?_))))))
  rw [hd']
  refine wpAny_pure (a := some dx) (wpAny_bind (wpAny_pure (wpAny_bind ?_)))
  refine wpAny_nsSet1 (s := { s with toks := s.toks + 1 }) I.ns fun h' hn2 hs2 => ?_
  obtain ⟨oD, esD, epD, hoD, hdD, hcD⟩ := hn2.count (PySem.Within.cons name v hw)
  refine wpAny_bind (wpAny_lookBehind hoD (by rw [hdD]; exact pastItsLine_dict (Nat.le_trans hcD (by rw [List.length_cons]; omega))) ?_)
  exact wpAny_pure (h _ ⟨(hs2.2 _ (Ne.symm I.ne)).trans I.obj, hn2, I.ne⟩ hs2)
theorem make_map {R : Result → Shared → Prop} {vs : List Value} {kw : List (Str × Value)} (X : K.In s.heap) (hm : PySem.W.makesIn K C = true)
    (hi : PySem.W.findIn K (.ref C) "__init__" = some (some (.ref f))) (hf : PySem.W.typeIn K (.ref f) = some (.type "function"))
    (h : codeAny (model prog w) (A.under (.builtin "type.__call__" ⟨.ref C :: vs, kw⟩)) (.call (.ref f) ⟨.ref (s.heap.objs.size + 1) :: vs, kw⟩) (PySem.W.InitBack (s.heap.objs.size + 1) R)
      { s with heap := (s.heap.push PySem.W.emptyDict).push (PySem.W.instObj C s.heap.objs.size) }) :
    codeAny (model prog w) A (.call (.ref C) ⟨vs, kw⟩) R s := by
  obtain ⟨hh, g, d, t, os⟩ := s
  exact PySem.W.make_core (PySem.W.makes_of X hm) (PySem.W.looks_findIn X hi) (fun self => PySem.W.bind_fn X self hf) (.inl rfl) h
end
def putF (f : Str) (v : V) : List (Str × V) → List (Str × V)
  | [] => [(f, v)]
  | (g, x) :: r => if g = f then (g, v) :: r else (g, x) :: putF f v r
theorem lookup_putF (f g : Str) (v : V) : ∀ fs : List (Str × V), (putF f v fs).lookup g = if g = f then some v else fs.lookup g
  | [] => by
    show List.lookup g [(f, v)] = _
    by_cases h : g = f
    · have hb : (g == f) = true := beq_iff_eq.mpr h
      simp only [List.lookup, hb, if_pos h]
    · have hb : (g == f) = false := beq_eq_false_iff_ne.mpr h
      simp only [List.lookup, hb, if_neg h]
  | (k, x) :: r => by
    have ih := lookup_putF f g v r
    rw [show putF f v ((k, x) :: r) = (if k = f then (k, v) :: r else (k, x) :: putF f v r) from rfl]
    by_cases hk : k = f
    · rw [if_pos hk]
      by_cases h : g = k
      · have hb : (g == k) = true := beq_iff_eq.mpr h
        simp only [List.lookup, hb, if_pos (h.trans hk)]
      · have hb : (g == k) = false := beq_eq_false_iff_ne.mpr h
        simp only [List.lookup, hb, if_neg (fun e : g = f => h (e.trans hk.symm))]
    · rw [if_neg hk]
      by_cases h : g = k
      · have hb : (g == k) = true := beq_iff_eq.mpr h
        simp only [List.lookup, hb, if_neg (fun e : g = f => hk (h.symm.trans e))]
      · have hb : (g == k) = false := beq_eq_false_iff_ne.mpr h
        simp only [List.lookup, hb]
        exact ih
theorem keys_putF (f : Str) (v : V) : ∀ fs : List (Str × V), f ∈ (putF f v fs).map (·.1) ∧ ∀ g, g ∈ fs.map (·.1) → g ∈ (putF f v fs).map (·.1)
  | [] => ⟨by simp [putF], fun g h => by simp at h⟩
  | (k, x) :: r => by
    obtain ⟨i1, i2⟩ := keys_putF f v r
    rw [show putF f v ((k, x) :: r) = (if k = f then (k, v) :: r else (k, x) :: putF f v r) from rfl]
    by_cases hk : k = f
    · rw [if_pos hk]
      subst hk
      exact ⟨by simp, fun g h => by simpa using h⟩
    · rw [if_neg hk]
      refine ⟨?_, fun g h => ?_⟩
      · rw [List.map_cons]
        exact List.mem_cons_of_mem _ i1
      · rw [List.map_cons] at h ⊢
        rcases List.mem_cons.mp h with e | e
        · exact List.mem_cons.mpr (.inl e)
        · exact List.mem_cons_of_mem _ (i2 g e)
theorem length_putF (f : Str) (v : V) : ∀ fs : List (Str × V), (putF f v fs).length ≤ fs.length + 1
  | [] => by simp [putF]
  | (k, x) :: r => by
    have ih := length_putF f v r
    rw [show putF f v ((k, x) :: r) = (if k = f then (k, v) :: r else (k, x) :: putF f v r) from rfl]
    by_cases hk : k = f
    · rw [if_pos hk, List.length_cons, List.length_cons]; omega
    · rw [if_neg hk, List.length_cons, List.length_cons]; omega
theorem RelO.some_of {v : V} {o : Option Value} (r : RelO (some v) o) : ∃ u, o = some u ∧ RelV v u := by
  cases o with
  | none => exact (show False from r).elim
  | some u => exact ⟨u, rfl, r⟩
theorem RelO.none_of {o : Option Value} (r : RelO none o) : o = none := by
  cases o with
  | none => rfl
  | some u => exact (show False from r).elim
theorem handed_of {v : V} {u : Value} (r : RelV v u) : PySem.W.handedIn u = true := by
  cases v with
  | non => cases (show u = Value.none from r); rfl
  | bl b => cases (show u = Value.bool b from r); rfl
  | int i => obtain ⟨t, e⟩ := (show ∃ t, u = Value.int i t from r); cases e; rfl
  | str x => obtain ⟨t, e⟩ := (show ∃ t, u = Value.str x t from r); cases e; rfl
  | byt b => obtain ⟨t, e⟩ := (show ∃ t, u = Value.bytes b t from r); cases e; rfl
  | flt b => obtain ⟨t, e⟩ := (show ∃ t, u = Value.float b t from r); cases e; rfl
  | ref a => cases (show u = Value.ref a from r); rfl
  | ty n => cases (show u = Value.type n from r); rfl
section
variable {P : Program} {w : World} {H H' : Hp} {h h' : Heap} {a C dx : Addr} {fs fs' : List (Str × V)}
theorem ins_get (hok : HOk P w H h) (e : H a = some (.ins C dx fs)) : ∃ mA, ObjM h a dx C mA ∧ (∀ f, RelO (fs.lookup f) (mA f)) ∧ PySem.Within mA (fs.map (·.1)) ∧ fs.length ≤ 1000 ∧ H dx = some (.own a) := by
  obtain ⟨d, z, ne, ob, mA, n, r, q⟩ := (show ObjOk P w H h a (.ins C dx fs) from hok a _ e)
  exact ⟨mA, ⟨ob, n, ne⟩, r, q, z, d⟩
end
structure Cls (K : PySem.W.Frag) (C : Addr) : Prop where
  pg : PySem.W.plainGet K C Str.empty = true
  hd : PySem.W.hasDictIn K C = true
  po : PySem.W.plainOver K C = true
  sa : PySem.W.findIn K (.ref C) "__setattr__" = some (some (.builtin "object.__setattr__"))
theorem Cls.get {K : PySem.W.Frag} {C : Addr} (c : Cls K C) (f : Str) : PySem.W.plainGet K C f = true := c.pg
def NoAttr (K : PySem.W.Frag) (C : Addr) (f : Str) : Prop := PySem.W.findIn K (.ref C) f = some none
theorem NoAttr.taker {K : PySem.W.Frag} {C : Addr} {f : Str} (n : NoAttr K C f) : PySem.W.takerIn K C f = some none := by
  unfold PySem.W.takerIn
  rw [show PySem.W.findIn K (.ref C) f = some none from n]
  rfl
structure Meth (K : PySem.W.Frag) (C : Addr) (m : Str) (f : Addr) : Prop where
  at_ : PySem.W.findIn K (.ref C) m = some (some (.ref f))
  fn : PySem.W.isFn K (.ref f) = true
  kp : PySem.W.keepIn K (.ref f) = true
section
variable {X : Cx} {pins : List (Addr × Obj)} {σ : St} {H : Hp} {s : Shared} {a C dx : Addr} {fs : List (Str × V)} {f : Str} {v : V} {A : Around} {E : Value → Shared → Prop}
theorem getattr_ok {b : Bool} {Q : Value → Shared → Prop} (I : Inv X pins σ H s) (e : H a = some (.ins C dx fs)) (c : Cls X.K C) (n : NoAttr X.K C f) (l : fs.lookup f = some v)
    (h : ∀ u s', Inv X pins σ H s' → RelV v u → Q u s') : wpAny (model X.prog X.w) A (getAttr (.ref a) f b) Q E s := by
  obtain ⟨mA, O, r, _, _, _⟩ := ins_get I.hok e
  obtain ⟨u, hu, ru⟩ := RelO.some_of (v := v) (o := mA f) (by rw [← l]; exact r f)
  exact get_map I.kIn O (c.get f) c.hd n hu (handed_of ru) (h u _ (I.tok _) ru)
theorem getmeth_ok {m : Str} {g : Addr} {pl : Sem Bool} {Q : Value × List Value → Shared → Prop} (I : Inv X pins σ H s) (e : H a = some (.ins C dx fs)) (c : Cls X.K C) (k : Meth X.K C m g) (l : fs.lookup m = none)
    (h : Q (.ref g, [.ref a]) s) : wpAny (model X.prog X.w) A (getMethod (.ref a) m pl) Q E s := by
  obtain ⟨mA, O, r, _, _, _⟩ := ins_get I.hok e
  have hn : mA m = none := RelO.none_of (by rw [← l]; exact r m)
  exact get_meth I.kIn O (c.get m) k.at_ k.fn hn h
theorem setattr_ok {y : V} {u : Value} {Q : Unit → Shared → Prop} (I : Inv X pins σ H s) (e : H a = some (.ins C dx fs)) (c : Cls X.K C) (n : NoAttr X.K C f) (hl : fs.length < 1000) (ry : RelV y u)
    (h : ∀ s', Inv X pins σ (upd H a (.ins C dx (putF f y fs))) s' → Q () s') : wpAny (model X.prog X.w) A (setAttr (.ref a) f u) Q E s := by
  obtain ⟨mA, O, r, wi, _, ho⟩ := ins_get I.hok e
  have hz : (fs.map (·.1)).length ≤ sizeLine := by rw [List.length_map, sizeLine_eq]; omega
  refine set_map I.kIn O c.sa c.po n.taker c.hd wi hz fun h' O' sb => h _ ?_
  have hd : ∃ o, h'.get? dx = some o := let ⟨o, _, _, e', _⟩ := O'.ns; ⟨o, e'⟩
  refine I.write (x := a) (e := dx) (by rw [e]; exact True.intro) (.inr ho) (fun b q hb z => (sb.2 b hb).trans z) hd ?_
  refine ⟨by rw [upd_ne O.ne]; exact ho, ?_, O.ne, O'.obj, _, O'.ns, fun g => ?_, fun g hg => ?_⟩
  · have := length_putF f y fs; omega
  · show RelO ((putF f y fs).lookup g) (if g = f then some u else mA g)
    rw [lookup_putF]
    by_cases q : g = f
    · rw [if_pos q, if_pos q]; exact ry
    · rw [if_neg q, if_neg q]; exact r g
  · by_cases q : g = f
    · rw [q]; exact (keys_putF f y fs).1
    · refine (keys_putF f y fs).2 g (wi g fun z => hg ?_)
      show (if g = f then some u else mA g) = none
      rw [if_neg q]; exact z
theorem Inv.made (I : Inv X pins σ H s) : Inv X pins σ (upd (upd H s.heap.objs.size (.own (s.heap.objs.size + 1))) (s.heap.objs.size + 1) (.ins C s.heap.objs.size []))
    { s with heap := (s.heap.push PySem.W.emptyDict).push (PySem.W.instObj C s.heap.objs.size) } := by
  have e1 : (s.heap.push PySem.W.emptyDict).get? s.heap.objs.size = some PySem.W.emptyDict := Heap.get?_push_size s.heap rfl
  have e2 : ((s.heap.push PySem.W.emptyDict).push (PySem.W.instObj C s.heap.objs.size)).get? (s.heap.objs.size + 1) = some (PySem.W.instObj C s.heap.objs.size) := by
    have := Heap.get?_push_size (s.heap.push PySem.W.emptyDict) (o := PySem.W.instObj C s.heap.objs.size) rfl
    rwa [Heap.size_push] at this
  have e3 : (s.heap.push PySem.W.emptyDict).Ns s.heap.objs.size (fun _ => none) := ⟨PySem.W.emptyDict, #[], _, e1, rfl, (fun e he => absurd he (by simp)), fun _ => rfl⟩
  have I1 := I.laid (a := s.heap.objs.size) (o := .own (s.heap.objs.size + 1)) (h' := s.heap.push PySem.W.emptyDict) (t' := s.toks) (fun b u q => Heap.get?_push_of_some _ q) (Nat.le_refl _) ⟨_, e1⟩
  refine I1.laid (a := s.heap.objs.size + 1) (o := .ins C s.heap.objs.size []) (t' := s.toks) (fun b u q => Heap.get?_push_of_some _ q) (Nat.le_of_eq (Heap.size_push _ _)) ?_
  have ne : s.heap.objs.size ≠ s.heap.objs.size + 1 := Nat.ne_of_lt (Nat.lt_succ_self _)
  refine ⟨by rw [upd_ne ne, upd_same], Nat.zero_le _, ne, e2, fun _ => none, (Heap.Ns1.of_empty e3).at fun o q => Heap.get?_push_of_some _ q, fun _ => True.intro, fun y hy => absurd rfl hy⟩
theorem attr_of {prog : Program} {w : World} {env : Env} {e : Expr} {f : Str} {pos : Pos} {s : Shared} {Q : Value → Shared → Prop} (hb : attributeBase e f env (eval e env) = eval e env)
    (h : wpAny (model prog w) A (eval e env) (fun o s₁ => wpAny (model prog w) A (getAttr o f true) Q E s₁) E s) : wpAny (model prog w) A (eval (.Attribute e f pos) env) Q E s :=
  Attribute_any_ h (by rw [arm_eval_Attribute, hb])
end
def tFld (K : PySem.W.Frag) (ta : TE) (f : Str) : TE := fun σ H Q => ta σ H fun x H1 => ∃ a C dx fs v, x = .ref a ∧ H1 a = some (.ins C dx fs) ∧ Cls K C ∧ NoAttr K C f ∧ fs.lookup f = some v ∧ Q v H1
def sFld (K : PySem.W.Frag) (ta tv : TE) (f : Str) : TS := fun D σ H => tv σ H fun y H1 => ta σ H1 fun x H2 => ∃ a C dx fs, x = .ref a ∧ H2 a = some (.ins C dx fs) ∧ Cls K C ∧ NoAttr K C f ∧ fs.length < 1000 ∧
  D.nx σ (upd H2 a (.ins C dx (putF f y fs)))
section
variable {X : Cx} {o e value : Expr} {f : Str} {pos pos' tpos : Pos} {ta tv : TE}
theorem pe_fld (he : PE X e ta) (hb : attributeBase e f X.env (eval e X.env) = eval e X.env) : PE X (.Attribute e f pos) (tFld X.K ta f) := by
  intro pins s σ H Q I h
  refine attr_of hb (thn (he pins s σ H _ I h) fun u s1 ⟨x, H1, I1, rx, a, C, dx, fs, v, ex, ea, c, n, l, q⟩ => ?_)
  subst ex
  obtain rfl : u = Value.ref a := rx
  exact getattr_ok I1 ea c n l fun u' s2 I2 ru => ⟨v, H1, I2, ru, q⟩
theorem ps_fld (ha : PE X o ta) (hv : PE X value tv) (hs : swapsWith value (some (.Attribute o f pos')) pos.line X.env = pure false) : PS X (.Assign [.Attribute o f pos'] value pos) (sFld X.K ta tv f) := by
  intro pins s σ H D I h
  refine plainObj_wpAny_Assign_Attribute (thn (hv pins s σ H _ I h) fun u s1 ⟨y, H1, I1, ry, q⟩ => thn (ha pins s1 σ H1 _ I1 q) fun ov s2 ⟨x, H2, I2, rx, a, C, dx, fs, ex, ea, c, n, l, q2⟩ => ?_) hs
  subst ex
  obtain rfl : ov = Value.ref a := rx
  exact setattr_ok I2 ea c n l ry fun s3 I3 => ⟨σ, _, I3, q2⟩
theorem methcall_of {pl : Sem Bool} {m : Str} {apos : Pos} {args : List Expr} {pins : List (Addr × Obj)} {s : Shared} {σ : St} {H : Hp} {Q : Value → Shared → Prop} {te : TE} (he : PE X e te) (I : Inv X pins σ H s)
    (h : te σ H fun x H1 => ∃ a C dx fs g, x = .ref a ∧ H1 a = some (.ins C dx fs) ∧ Cls X.K C ∧ Meth X.K C m g ∧ fs.lookup m = none ∧
      ∀ s1, Inv X pins σ H1 s1 → wpAny (model X.prog X.w) X.A (callWith pos (.ref g) [.ref a] (backTo pos (starEach args X.env)) (backToKw pos (keywordEach [] X.env))) Q X.xe s1)
    (ht : eval (.Call (.Attribute e m apos) args [] pos) X.env = (do
      let ov ← eval e X.env
      standAt apos.atName
      let (f, first) ← holding [ov] (getMethod ov m pl)
      callWith pos f first (backTo pos (starEach args X.env)) (backToKw pos (keywordEach [] X.env)))) :
    wpAny (model X.prog X.w) X.A (eval (.Call (.Attribute e m apos) args [] pos) X.env) Q X.xe s := by
  refine PySem.W.methodCall_KW (pl := pl) (thn (he pins s σ H _ I h) fun u s1 ⟨x, H1, I1, rx, a, C, dx, fs, g, ex, ea, c, k, l, q⟩ => ?_) ht
  subst ex
  obtain rfl : u = Value.ref a := rx
  exact getmeth_ok I1 ea c k l (q s1 I1)
end
section
variable {X : Cx} {pins : List (Addr × Obj)} {σ : St} {H : Hp} {s : Shared} {A : Around} {E : Value → Shared → Prop} {Q : Value → Shared → Prop} {c : Value} {b : Bool}
inductive TyOf (K : PySem.W.Frag) (H : Hp) : V → Value → Prop where
  | non : TyOf K H .non (.type "NoneType")
  | bl (x : Bool) : TyOf K H (.bl x) (.type "bool")
  | int (i : Int) : TyOf K H (.int i) (.type "int")
  | str (x : Str) : TyOf K H (.str x) (.type "str")
  | flt (x : UInt64) : TyOf K H (.flt x) (.type "float")
  | lst {a : Addr} {xs : List V} (e : H a = some (.lst xs)) : TyOf K H (.ref a) (.type "list")
  | frz {a : Addr} {o : Obj} {xs : List V} (e : H a = some (.frz o (.lst xs))) : TyOf K H (.ref a) (.type "list")
  | tup {a : Addr} {xs : List V} (e : H a = some (.tup xs)) : TyOf K H (.ref a) (.type "tuple")
  | dK {a : Addr} {kvs : List (Key × V)} (e : H a = some (.dK kvs)) : TyOf K H (.ref a) (.type "dict")
  | dT {a : Addr} {kvs : List (List Key × V)} (e : H a = some (.dT kvs)) : TyOf K H (.ref a) (.type "dict")
  | ins {a C dx : Addr} {fs : List (Str × V)} (e : H a = some (.ins C dx fs)) (cl : Cls K C) (ha : PySem.W.findIn K (.ref C) "__class__" = some (some (.builtin "object.__class__")))
      (hn : PySem.W.specialIn K (.builtin "object.__class__") "__get__" = some (some (.builtin "getset_descriptor.__get__"))) (htk : PySem.W.takesIn K (.builtin "object.__class__") = some true)
      (hm : PySem.W.mroIn K C (.type "object") = some true) : TyOf K H (.ref a) (.ref C)
end
end L2
namespace L2
open PySem PySem.Spec PyProof.Rows
structure Room (k : Nat) (A : Around) : Prop where
  hd : A.handled = none
  dp : A.depth + 3 * k + 5 < recursionLimit
  un : A.units + 16 * k + 200 < cLine
theorem Room.deeper {k : Nat} {A : Around} (r : Room (k + 1) A) (env : Env) : Room k (A.deeper env) :=
  ⟨r.hd, by have := r.dp; show A.depth + 1 + 3 * k + 5 < _; omega, by have := r.un; show A.units + 3 + 16 * k + 200 < _; omega⟩
theorem make_depth {A : Around} {C : Addr} {us : List Value} {kw : List (Str × Value)} : (A.under (.builtin "type.__call__" ⟨.ref C :: us, kw⟩)).depth = A.depth + 1 := by
  first | rfl | simp [Around.under, Code.weight, Code.isCreation, Code.isGuard, Code.isCaller, Code.frames, Code.isFrame, guardIds]
theorem make_units {A : Around} {C : Addr} {us : List Value} {kw : List (Str × Value)} : (A.under (.builtin "type.__call__" ⟨.ref C :: us, kw⟩)).units = A.units + 1 := by
  first | rfl | simp [Around.under, Code.cUnits, Code.frames, Code.isFrame]
theorem Room.make {k : Nat} {A : Around} (r : Room (k + 1) A) (C : Addr) (us : List Value) (kw : List (Str × Value)) : Room k (A.under (.builtin "type.__call__" ⟨.ref C :: us, kw⟩)) :=
  ⟨r.hd, by have := r.dp; rw [make_depth]; omega, by have := r.un; rw [make_units]; omega⟩
theorem Room.depth {k : Nat} {A : Around} (r : Room k A) : A.depth < recursionLimit := by have := r.dp; omega
theorem Room.units {k : Nat} {A : Around} (r : Room k A) : A.units + 64 < cLine := by have := r.un; omega
theorem Room.units0 {k : Nat} {A : Around} (r : Room k A) : A.units < cLine := by have := r.un; omega
def tNil : TA := fun _ H Q => Q [] H
def tCons (ta : TE) (tr : TA) : TA := fun σ H Q => ta σ H fun x H1 => tr σ H1 fun xs H2 => Q (x :: xs) H2
section
variable {X : Cx} {e : Expr} {es : List Expr} {te : TE} {t : TA} {pos : Pos}
theorem pa_nil : PA X [] tNil := fun _ _ _ _ H Q I h => Calls.spliced_nil ⟨[], H, I, .nil, h⟩
theorem pa_cons (ha : PE X e te) (hr : PA X es t) (hs : starEach (e :: es) X.env = (false, eval e X.env) :: starEach es X.env := by rfl) : PA X (e :: es) (tCons te t) := by
  intro pos pins s σ H Q I h
  rw [hs]
  show wpAny _ _ (spliced ((false, eval e X.env) :: backTo pos (starEach es X.env))) _ _ s
  refine Calls.spliced_cons (thn (ha pins s σ H _ I h) fun u s1 ⟨x, H1, I1, r1, q1⟩ => ?_)
  exact thn (hr pos pins s1 σ H1 _ I1 q1) fun us s2 ⟨xs, H2, I2, r2, q2⟩ => ⟨x :: xs, H2, I2, .cons r1 r2, q2⟩
def tTup (t : TA) : TE := fun σ H Q => t σ H fun xs H1 => xs.length ≤ sizeLine ∧ ∀ p, H1 p = none → Q (.ref p) (upd H1 p (.tup xs))
def tLst (t : TA) : TE := fun σ H Q => t σ H fun xs H1 => xs.length ≤ sizeLine ∧ ∀ p, H1 p = none → Q (.ref p) (upd H1 p (.lst xs))
theorem pe_tup {x1} (h : PA X es t) : PE X (.Tuple es x1 pos) (tTup t) := by
  intro pins s σ H Q I hq
  refine wpAny_Tuple_spliced (thn (h pos pins s σ H _ I hq) fun us s1 ⟨xs, H1, I1, r, z, q⟩ => ⟨by rw [← r.length]; exact z, ?_⟩)
  have hf : H1 s1.heap.objs.size = none := I1.hok.fresh (Nat.le_refl _)
  refine ⟨.ref s1.heap.objs.size, upd H1 s1.heap.objs.size (.tup xs), I1.laid (t' := s1.toks) (fun b u e => Heap.get?_push_of_some _ e) (Nat.le_refl _) ?_, rfl, q _ hf⟩
  exact ⟨z, us, r, ⟨_, Heap.get?_push_size _ rfl, rfl, _, rfl⟩⟩
theorem pe_lst (h : PA X es t) : PE X (.List es pos) (tLst t) := by
  intro pins s σ H Q I hq
  refine wpAny_List_spliced (thn (h pos pins s σ H _ I hq) fun us s1 ⟨xs, H1, I1, r, z, q⟩ => ⟨by rw [← r.length]; exact z, ?_⟩)
  have hf : H1 s1.heap.objs.size = none := I1.hok.fresh (Nat.le_refl _)
  refine ⟨.ref s1.heap.objs.size, upd H1 s1.heap.objs.size (.lst xs), I1.laid (t' := s1.toks) (fun b u e => Heap.get?_push_of_some _ e) (Nat.le_refl _) ?_, rfl, q _ hf⟩
  exact ⟨z, us, 0, r, Heap.get?_push_size _ rfl⟩
end
abbrev Sp := List V → Hp → VK → XK → Prop
abbrev CXT := List Env → Hp → Shared → XK → Value → Shared → Prop
structure Env0 (P : Program) (w : World) (K : PySem.W.Frag) (mg : Str → Option Value) (base : Heap) (A : Around) (outer : List Env) (s : Shared) (H : Hp) : Prop where
  frames : A.frames = some outer
  mod : Mod K mg base
  bs : ∀ b o, base.get? b = some o → s.heap.get? b = some o ∧ H b = none
  bsz : base.objs.size ≤ s.heap.objs.size
  funs : s.heap.FunFrames base outer
  frf : ∀ b ∈ frs outer, H b = none
  hok : HOk P w H s.heap
  bare : AllBare s.gens
def CE (outer : List Env) (P : Program) (w : World) (H : Hp) (s : Shared) (Q : VK) (u : Value) (s' : Shared) : Prop :=
  ∃ v H', s'.os = s.os ∧ AllBare s'.gens ∧ Un (frs outer) [] H H' s.heap s'.heap ∧ HOk P w H' s'.heap ∧ RelV v u ∧ Q v H'
def CR (CX : CXT) (outer : List Env) (P : Program) (w : World) (H : Hp) (s : Shared) (Q : VK) (E : XK) (r : Result) (s' : Shared) : Prop :=
  match r with
  | .ok (.ret u) => CE outer P w H s Q u s'
  | .ok _ => False
  | .error e => CX outer H s E e s'
structure FnOk (P : Program) (w : World) (K : PySem.W.Frag) (mg : Str → Option Value) (base : Heap) (CX : CXT) (k : Nat) (f : Addr) (fd : FuncData) (ps : List Str) (sp : Sp) : Prop where
  len : ∀ vs H Q E, sp vs H Q E → vs.length = ps.length
  run : ∀ (A : Around) (outer : List Env) (s : Shared) (H : Hp) (args : Args) (us : List Value) (vs : List V) (Q : VK) (E : XK), Room k A → Env0 P w K mg base A outer s H → BindsTo s fd args (ps.zip us) → Vals vs us → sp vs H Q E →
    codeAny (model P w) A (.call (.ref f) args) (CR CX outer P w H s Q E) s
theorem FnOk.imp {P : Program} {w : World} {K : PySem.W.Frag} {mg : Str → Option Value} {base : Heap} {CX : CXT} {k : Nat} {f : Addr} {fd : FuncData} {ps : List Str} {sp sp' : Sp} (F : FnOk P w K mg base CX k f fd ps sp)
    (h : ∀ vs H Q E, sp' vs H Q E → sp vs H Q E) : FnOk P w K mg base CX k f fd ps sp' :=
  ⟨fun vs H Q E q => F.len vs H Q E (h _ _ _ _ q), fun A outer s H args us vs Q E hr he hb hv hs => F.run A outer s H args us vs Q E hr he hb hv (h _ _ _ _ hs)⟩
theorem Env0.make {P : Program} {w : World} {K : PySem.W.Frag} {mg : Str → Option Value} {base : Heap} {A : Around} {outer : List Env} {s : Shared} {H : Hp} (e : Env0 P w K mg base A outer s H) (C : Addr) (us : List Value) (kw : List (Str × Value)) :
    Env0 P w K mg base (A.under (.builtin "type.__call__" ⟨.ref C :: us, kw⟩)) outer s H := ⟨by first | exact e.frames | (simpa [Around.under, Code.envs, Code.isFrame, pushEnvs] using e.frames), e.mod, e.bs, e.bsz, e.funs, e.frf, e.hok, e.bare⟩
section
variable {X : Cx} {pins : List (Addr × Obj)} {σ : St} {H : Hp} {s s' : Shared}
theorem Inv.env0 (I : Inv X pins σ H s) : Env0 X.prog X.w X.K X.mg X.base X.A X.stack s H :=
  ⟨I.ok.frames, I.ok.mod, I.bs, Nat.le_trans I.ok.bsz I.sz, I.stack, I.stkFree, I.hok, I.bare⟩
theorem Inv.after {Q : VK} {u : Value} (I : Inv X pins σ H s) (h : CE X.stack X.prog X.w H s Q u s') : EP X pins σ Q u s' := by
  obtain ⟨v, H', os, bare, un, hok, r, q⟩ := h
  obtain ⟨hh, g, d, t, os'⟩ := s'
  obtain rfl : os' = s.os := os
  exact ⟨v, H', I.call (h' := hh) (g' := g) (d' := d) (t' := t) (ch := []) un hok bare (fun b z => absurd z (by simp)), r, q⟩
end
def tCall (sp : Sp) (dvs : List V) (E : XK) (t : TA) : TE := fun σ H Q => t σ H fun vs H1 => sp (vs ++ dvs) H1 Q E
def tMeth (C : Addr) (m : Str) (sp : Sp) (dvs : List V) (E : XK) (ta : TE) (t : TA) : TE := fun σ H Q => ta σ H fun x H1 => ∃ a dx fs, x = .ref a ∧ H1 a = some (.ins C dx fs) ∧ fs.lookup m = none ∧
  t σ H1 fun vs H2 => sp (x :: (vs ++ dvs)) H2 Q E
def tMake (C : Addr) (sp : Sp) (dvs : List V) (E : XK) (t : TA) : TE := fun σ H Q => t σ H fun vs H1 => ∀ x dx, H1 x = none → H1 dx = none → dx ≠ x →
  sp (.ref x :: (vs ++ dvs)) (upd (upd H1 dx (.own x)) x (.ins C dx [])) (fun v H2 => v = .non ∧ Q (.ref x) H2) E
def Binds (K : PySem.W.Frag) (fd : FuncData) (ps : List Str) (ds : List Value) : Prop :=
  ∀ (s : Shared) (us : List Value), K.In s.heap → (us ++ ds).length = ps.length → BindsTo s fd ⟨us, []⟩ (ps.zip (us ++ ds))
theorem Binds.all {K : PySem.W.Frag} {fd : FuncData} {ps : List Str} (h : ∀ us : List Value, us.length = ps.length → bindArgs fd ⟨us, []⟩ = pure (ps.zip us)) : Binds K fd ps [] := fun s us _ hl => by
  rw [List.append_nil] at hl ⊢
  exact .of_eq (h us hl)
def Passes (CX : CXT) (X : Cx) (E : XK) : Prop := ∀ (pins : List (Addr × Obj)) (σ : St) (H : Hp) (s : Shared) (e : Value) (s' : Shared), Inv X pins σ H s → CX X.stack H s E e s' → X.xe e s'
section
variable {X : Cx} {CX : CXT} {k : Nat} {f C : Addr} {fd : FuncData} {ps : List Str} {sp : Sp} {dvs : List V} {ds : List Value} {E : XK} {x m : Str} {p pos apos : Pos} {e o : Expr} {es : List Expr} {ta : TE} {t : TA}
theorem run_fn {pins : List (Addr × Obj)} {σ : St} {H : Hp} {s : Shared} {Q : VK} {us : List Value} {vs : List V} (F : FnOk X.prog X.w X.K X.mg X.base CX k f fd ps sp) (hr : Room k X.A) (hb : Binds X.K fd ps ds) (hd : Vals dvs ds) (hx : Passes CX X E)
    (I : Inv X pins σ H s) (r : Vals vs us) (h : sp (vs ++ dvs) H Q E) : wpAny (model X.prog X.w) X.A (call (.ref f) us) (EP X pins σ Q) X.xe s := by
  have r2 : Vals (vs ++ dvs) (us ++ ds) := r.append hd
  have hl : (us ++ ds).length = ps.length := by rw [← r2.length]; exact F.len _ _ _ _ h
  refine wpAny_call (codeAny_mono (F.run X.A X.stack s H ⟨us, []⟩ (us ++ ds) (vs ++ dvs) Q E hr I.env0 (hb s us I.kIn hl) r2 h) fun r s' hq => ?_)
  cases r with
  | error e => exact hx pins σ H s e s' I hq
  | ok fl =>
    cases fl with
    | ret u => exact I.after hq
    | next => exact False.elim hq
    | brk => exact False.elim hq
    | cont => exact False.elim hq
theorem pe_call (F : FnOk X.prog X.w X.K X.mg X.base CX k f fd ps sp) (hr : Room k X.A) (hg : Gl X x) (hm : X.mg x = some (.ref f)) (hk : PySem.W.keepIn X.K (.ref f) = true) (hb : Binds X.K fd ps ds) (hd : Vals dvs ds) (hx : Passes CX X E)
    (ha : PA X (e :: es) t) (hdb : (x == ("__debug__" : Str)) = false := by decide) (he : starEach (e :: es) X.env = (false, eval e X.env) :: starEach es X.env := by rfl) (hpl : (backTo pos (starEach es X.env)).any (·.1) = false := by rfl) :
    PE X (.Call (.Name x p) (e :: es) [] pos) (tCall sp dvs E t) := by
  intro pins s σ H Q I h
  refine wpAny_Call_Name_kw (ld_glob I hg hm ?_ hdb)
  refine PySem.W.callWith_K (h₀ := X.base) I.ok.mod.kin hk (thn (ha pos pins s σ H _ I h) fun us s1 ⟨vs, H1, I1, r, q⟩ => ⟨I1.kIn, ?_⟩) he hpl
  exact run_fn F hr hb hd hx I1 r q
theorem pe_meth {pl : Sem Bool} (he : PE X o ta) (c : Cls X.K C) (hm : Meth X.K C m f) (F : FnOk X.prog X.w X.K X.mg X.base CX k f fd ps sp) (hr : Room k X.A) (hb : Binds X.K fd ps ds) (hd : Vals dvs ds) (hx : Passes CX X E) (ha : PA X (e :: es) t)
    (hst : starEach (e :: es) X.env = (false, eval e X.env) :: starEach es X.env := by rfl) (hpl : (backTo pos (starEach es X.env)).any (·.1) = false := by rfl)
    (ht : eval (.Call (.Attribute o m apos) (e :: es) [] pos) X.env = (do
      let ov ← eval o X.env
      standAt apos.atName
      let (f, first) ← holding [ov] (getMethod ov m pl)
      callWith pos f first (backTo pos (starEach (e :: es) X.env)) (backToKw pos (keywordEach [] X.env))) := by rfl) :
    PE X (.Call (.Attribute o m apos) (e :: es) [] pos) (tMeth C m sp dvs E ta t) := by
  intro pins s σ H Q I h
  refine PySem.W.methodCall_KW (pl := pl) (thn (he pins s σ H _ I h) fun u s1 ⟨x, H1, I1, rx, a, dx, fs, ex, ea, l, q⟩ => ?_) ht
  subst ex
  obtain rfl : u = Value.ref a := rx
  refine getmeth_ok I1 ea c hm l ?_
  refine PySem.W.callWith_K (first := [.ref a]) (h₀ := X.base) I.ok.mod.kin hm.kp (thn (ha pos pins s1 σ H1 _ I1 q) fun us s2 ⟨vs, H2, I2, r, q2⟩ => ⟨I2.kIn, ?_⟩) hst hpl
  exact run_fn (us := .ref a :: us) (vs := .ref a :: vs) F hr hb hd hx I2 (.cons rfl r) q2
structure Mk (K : PySem.W.Frag) (C f : Addr) : Prop where
  makes : PySem.W.makesIn K C = true
  init : PySem.W.findIn K (.ref C) "__init__" = some (some (.ref f))
  fn : PySem.W.isFn K (.ref f) = true
  kp : PySem.W.keepIn K (.ref C) = true
theorem run_make {pins : List (Addr × Obj)} {σ : St} {H : Hp} {s : Shared} {Q : VK} {us : List Value} {vs : List V} (M : Mk X.K C f) (F : FnOk X.prog X.w X.K X.mg X.base CX k f fd ps sp) (hr : Room (k + 1) X.A) (hb : Binds X.K fd ps ds) (hd : Vals dvs ds)
    (hx : Passes CX X E) (I : Inv X pins σ H s) (r : Vals vs us)
    (h : ∀ x dx, H x = none → H dx = none → dx ≠ x → sp (.ref x :: (vs ++ dvs)) (upd (upd H dx (.own x)) x (.ins C dx [])) (fun v H2 => v = .non ∧ Q (.ref x) H2) E) :
    wpAny (model X.prog X.w) X.A (call (.ref C) us) (EP X pins σ Q) X.xe s := by
  have hq := h (s.heap.objs.size + 1) s.heap.objs.size (I.hok.fresh (Nat.le_succ _)) (I.hok.fresh (Nat.le_refl _)) (Nat.ne_of_lt (Nat.lt_succ_self _))
  have I2 := Inv.made (C := C) I
  have r2 : Vals (V.ref (s.heap.objs.size + 1) :: (vs ++ dvs)) (Value.ref (s.heap.objs.size + 1) :: (us ++ ds)) := .cons rfl (r.append hd)
  have hl : (Value.ref (s.heap.objs.size + 1) :: us ++ ds).length = ps.length := by
    have e := r2.length
    rw [F.len _ _ _ _ hq] at e
    exact e.symm
  refine wpAny_call (make_map (f := f) I.kIn M.makes M.init (beq_iff_eq.mp M.fn) (codeAny_mono (F.run _ X.stack _ _ ⟨Value.ref (s.heap.objs.size + 1) :: us, []⟩ (Value.ref (s.heap.objs.size + 1) :: (us ++ ds)) _ _ E (hr.make C us [])
    (I2.env0.make C us []) (hb _ (Value.ref (s.heap.objs.size + 1) :: us) I2.kIn hl) r2 hq) fun r s' hq' => ?_))
  cases r with
  | error e => exact hx pins σ _ _ e s' I2 hq'
  | ok fl =>
    cases fl with
    | ret u =>
      obtain ⟨v, H', I3, rv, ev, q3⟩ := I2.after hq'
      subst ev
      exact ⟨rv, ⟨V.ref (s.heap.objs.size + 1), H', I3, rfl, q3⟩⟩
    | next => exact False.elim hq'
    | brk => exact False.elim hq'
    | cont => exact False.elim hq'
theorem pe_make (M : Mk X.K C f) (F : FnOk X.prog X.w X.K X.mg X.base CX k f fd ps sp) (hr : Room (k + 1) X.A) (hg : Gl X x) (hm : X.mg x = some (.ref C)) (hb : Binds X.K fd ps ds) (hd : Vals dvs ds) (hx : Passes CX X E)
    (ha : PA X (e :: es) t) (hdb : (x == ("__debug__" : Str)) = false := by decide) (he : starEach (e :: es) X.env = (false, eval e X.env) :: starEach es X.env := by rfl) (hpl : (backTo pos (starEach es X.env)).any (·.1) = false := by rfl) :
    PE X (.Call (.Name x p) (e :: es) [] pos) (tMake C sp dvs E t) := by
  intro pins s σ H Q I h
  refine wpAny_Call_Name_kw (ld_glob I hg hm ?_ hdb)
  refine PySem.W.callWith_K (h₀ := X.base) I.ok.mod.kin M.kp (thn (ha pos pins s σ H _ I h) fun us s1 ⟨vs, H1, I1, r, q⟩ => ⟨I1.kIn, ?_⟩) he hpl
  exact run_make M F hr hb hd hx I1 r q
end
section
variable {X : Cx} {CX : CXT} {k : Nat} {f C : Addr} {fd : FuncData} {ps ks : List Str} {sp : Sp} {E : XK} {x m : Str} {p pos apos kpos : Pos} {e o : Expr} {es : List Expr} {kws : List Keyword} {te ta : TE} {t tk : TA} {nm : Option Str}
variable {g : List Value → List Value → List Value} {gV : List V → List V → List V}
end
structure FnScope (N P : List Str) (sc : Scope) : Prop where
  kind : sc.kind = .function
  co : sc.isCoroutine = false
  gen : sc.isGenerator = false
  nd : N.Nodup
  pre : N.take P.length = P
  par : ∀ x ∈ P, sc.names.lookup x = some .local ∨ sc.names.lookup x = some .cell
  nofree : ∀ y ∈ sc.names, y.2 ≠ .free
theorem bindL_out {kindOf : Str → Option NameKind} {x : Str} : ∀ {binds : List (Str × Value)} {m : Str → Option Value}, (∀ v, (x, v) ∉ binds) → bindL kindOf binds m x = m x
  | [], _, _ => rfl
  | (n, v) :: r, m, h => by
    unfold bindL
    rw [bindL_out fun w hw => h w (List.mem_cons_of_mem _ hw)]
    split
    · have : x ≠ n := by rintro rfl; exact h v List.mem_cons_self
      simp [this]
    · rfl
theorem bindC_out {kindOf : Str → Option NameKind} {x : Str} : ∀ {binds : List (Str × Value)} {m : Str → Option Value}, (∀ v, (x, v) ∉ binds) → bindC kindOf binds m x = m x
  | [], _, _ => rfl
  | (n, v) :: r, m, h => by
    unfold bindC
    rw [bindC_out fun w hw => h w (List.mem_cons_of_mem _ hw)]
    split
    · rfl
    · have : x ≠ n := by rintro rfl; exact h v List.mem_cons_self
      simp [this]
theorem bindL_get {kindOf : Str → Option NameKind} {x : Str} {v : Value} : ∀ {P : List Str} {vs : List Value} {i : Nat} {m : Str → Option Value}, P.Nodup → P[i]? = some x → vs[i]? = some v → kindOf x = some .local →
    bindL kindOf (P.zip vs) m x = some v
  | [], _, _, _, _, h, _, _ => by simp at h
  | _ :: _, [], _, _, _, _, h, _ => by simp at h
  | p :: P, w :: vs, 0, m, nd, h1, h2, hk => by
    simp at h1 h2; subst h1; subst h2
    show bindL kindOf ((p, w) :: P.zip vs) m p = _
    unfold bindL
    rw [bindL_out fun v hv => (List.nodup_cons.mp nd).1 (List.of_mem_zip hv).1, if_pos hk]
    simp
  | p :: P, w :: vs, i + 1, m, nd, h1, h2, hk => by
    show bindL kindOf ((p, w) :: P.zip vs) m x = _
    unfold bindL
    exact bindL_get (i := i) (List.nodup_cons.mp nd).2 (by simpa using h1) (by simpa using h2) hk
theorem bindC_get {kindOf : Str → Option NameKind} {x : Str} {v : Value} : ∀ {P : List Str} {vs : List Value} {i : Nat} {m : Str → Option Value}, P.Nodup → P[i]? = some x → vs[i]? = some v → kindOf x ≠ some .local →
    bindC kindOf (P.zip vs) m x = some v
  | [], _, _, _, _, h, _, _ => by simp at h
  | _ :: _, [], _, _, _, _, h, _ => by simp at h
  | p :: P, w :: vs, 0, m, nd, h1, h2, hk => by
    simp at h1 h2; subst h1; subst h2
    show bindC kindOf ((p, w) :: P.zip vs) m p = _
    unfold bindC
    rw [bindC_out fun v hv => (List.nodup_cons.mp nd).1 (List.of_mem_zip hv).1, if_neg hk]
    simp
  | p :: P, w :: vs, i + 1, m, nd, h1, h2, hk => by
    show bindC kindOf ((p, w) :: P.zip vs) m x = _
    unfold bindC
    exact bindC_get (i := i) (List.nodup_cons.mp nd).2 (by simpa using h1) (by simpa using h2) hk
def start (N : List Str) (vs : List V) : St := vs.map some ++ List.replicate (N.length - vs.length) none
def cxOf (CX : CXT) (P : Program) (w : World) (K : PySem.W.Frag) (mg : Str → Option Value) (base : Heap) (N : List Str) (qual : Str) (scope : Scope) (f : Addr) (cd : Value) (A : Around) (outer : List Env) (s : Shared) (H : Hp) (E : XK) : Cx where
  prog := P
  w := w
  K := K
  mg := mg
  base := base
  A := A.deeper (envOfC qual scope s.heap.objs.size f cd)
  N := N
  s₀ := s
  H₀ := H
  env := envOfC qual scope s.heap.objs.size f cd
  outer := outer
  stack := envOfC qual scope s.heap.objs.size f cd :: outer
  ex := []
  calm := true
  fn := fun _ => true
  pn := []
  xe := fun e s' => wpAny (model P w) (A.deeper (envOfC qual scope s.heap.objs.size f cd)) (leaving (envOfC qual scope s.heap.objs.size f cd) e) (fun _ s'' => CX outer H s E e s'') (fun e' s'' => CX outer H s E e' s'') s'
theorem cell_has {sc : Scope} {n : Nat} {x : Str} (h : sc.names.lookup x = some .cell) : ∃ c, (cellsFrom n sc.names []).lookup x = some c := by
  have q := PySem.W.cellsFrom_some sc.names n [] (.inl h)
  exact Option.isSome_iff_exists.mp q
theorem inv_start {CX : CXT} {P : Program} {w : World} {K : PySem.W.Frag} {mg : Str → Option Value} {base : Heap} {N ps : List Str} {qual : Str} {scope : Scope} {f : Addr} {cd : Value} {A : Around} {outer : List Env} {s s1 : Shared} {H : Hp} {E : XK} {us : List Value} {vs : List V}
    (S : FnScope N ps scope) (hd : A.handled = none) (e0 : Env0 P w K mg base A outer s H) (hl : vs.length = ps.length) (r : Vals vs us)
    (x : InCallC s s.heap.objs.size (bindL (envOfC qual scope s.heap.objs.size f cd).kindOf (ps.zip us) fun _ => none) (cellsFrom (s.heap.objs.size + 1) scope.names []) (bindC (envOfC qual scope s.heap.objs.size f cd).kindOf (ps.zip us) fun _ => none) s1) :
    Inv (cxOf CX P w K mg base N qual scope f cd A outer s H E) [] (start N vs) H s1 := by
  have hpl : ps.length ≤ N.length := by have := congrArg List.length S.pre; rw [List.length_take] at this; omega
  obtain ⟨h1, tk, rfl, hk⟩ := x.done
  have noA : ∀ b : Addr, b ∉ (cxOf CX P w K mg base N qual scope f cd A outer s H E).ex := fun b z => absurd (show b ∈ ([] : List Addr) from z) (by simp)
  refine ⟨⟨e0.mod, S.kind, rfl, rfl, Nat.le_refl _, fun y z c h1 h2 => ?_, fun y hy => ?_, fun y c _ h => ?_, fun _ => hd, Around.frames_deeper e0.frames, .inr ⟨rfl, rfl⟩, fun b z => absurd z (noA b), e0.bs, e0.bsz, fun b _ _ => noA b, fun b z => absurd z (noA b), e0.funs, e0.frf⟩,
    rfl, e0.bare, Un.kept hk, ⟨_, x.toInCall.ns, fun i y v h1 h2 h3 => ?_⟩, fun y c h => ⟨_, x.cell y c h⟩, e0.hok.fresh (Nat.le_refl _), fun y c h => ?_, fun p hp => absurd (show p ∈ ([] : List (Addr × Obj)) from hp) (by simp), e0.hok.kept hk, ?_⟩
  · exact name_of_addr x.apart (PySem.mem_of_lookup h1) (PySem.mem_of_lookup h2)
  · have hy : scope.names.lookup y = some .cell ∨ scope.names.lookup y = some .free := hy
    rcases hy with hy | hy
    · exact cell_has hy
    · exact absurd rfl (S.nofree _ (PySem.mem_of_lookup hy))
  · exact Nat.le_of_lt (x.above y c (PySem.mem_of_lookup h))
  · have hi : i < vs.length := by
      unfold start at h2
      by_cases hi : i < vs.length
      · exact hi
      · rw [List.getElem?_append_right (by simpa using hi)] at h2
        rw [List.getElem?_replicate] at h2
        split at h2 <;> cases h2
    have ha : vs[i]? = some v := by
      unfold start at h2
      rw [List.getElem?_append_left (by simpa using hi), List.getElem?_map] at h2
      cases e : vs[i]? with
      | none => rw [e] at h2; cases h2
      | some a => rw [e] at h2; cases h2; rfl
    obtain ⟨u, hu, rv⟩ := r.get ha
    have hp : ps[i]? = some y := by
      rw [← S.pre, List.getElem?_take_of_lt (by omega)]; exact h1
    have ndP : ps.Nodup := by rw [← S.pre]; exact S.nd.sublist (List.take_sublist _ _)
    refine ⟨u, rv, ?_⟩
    rcases S.par y (List.mem_of_getElem? hp) with k | k
    · exact .inl ⟨k, bindL_get ndP hp hu k⟩
    · obtain ⟨c, e⟩ := cell_has (n := s.heap.objs.size + 1) k
      refine .inr ⟨.inl k, c, e, ?_⟩
      have q := x.cell y c e
      rw [bindC_get ndP hp hu (by show scope.names.lookup y ≠ _; rw [k]; decide)] at q
      exact q
  · exact e0.hok.fresh (Nat.le_of_lt (x.above y c (PySem.mem_of_lookup h)))
  · unfold start
    show _ = N.length
    rw [List.length_append, List.length_map, List.length_replicate]
    omega
theorem fn_of {CX : CXT} {P : Program} {w : World} {K : PySem.W.Frag} {mg : Str → Option Value} {base : Heap} {k : Nat} {f : Addr} {name qual : Str} {params : Arguments} {body : List Stmt} {scope : Scope} {dV kV doc pm cdv ct oc : Value} {an od : Option Addr}
    {osl : Array (Option Value)} {N ps : List Str} {sp : Sp} (lk : K.lookup f = some ⟨oc, od, .func (PySem.W.fnOf name qual params body scope dV kV doc pm an cdv ct), osl⟩) (hcd : PySem.W.codeIn K cdv qual = true) (S : FnScope N ps scope)
    (len : ∀ vs H Q E, sp vs H Q E → vs.length = ps.length)
    (hbody : ∀ (A : Around) (outer : List Env) (s : Shared) (H : Hp) (vs : List V) (Q : VK) (E : XK), Room k (A.deeper (envOfC qual scope s.heap.objs.size f cdv)) → sp vs H Q E →
      ∃ t, PSs (cxOf CX P w K mg base N qual scope f cdv A outer s H E) body t ∧ t { nx := fun _ H' => Q .non H', rt := Q } (start N vs) H) :
    FnOk P w K mg base CX (k + 1) f (PySem.W.fnOf name qual params body scope dV kV doc pm an cdv ct) ps sp := by
  refine ⟨len, fun A outer s H args us vs Q E hr e0 hb r hsp => ?_⟩
  have hl := len _ _ _ _ hsp
  have KX : K.In s.heap := e0.mod.kin.keeps fun b o e => (e0.bs b o e).1
  have lim : s.heap.NoLimit := e0.mod.nolimit.keeps fun b o e => (e0.bs b o e).1
  have hkind : ∀ y ∈ ps.zip us, scope.names.lookup y.1 = some .local ∨ (scope.names.lookup y.1 = some .cell ∧ ((cellsFrom (s.heap.objs.size + 1) scope.names []).lookup y.1).isSome = true) := fun ⟨n, v⟩ hy => by
    rcases S.par n (List.of_mem_zip hy).1 with q | q
    · exact .inl q
    · exact .inr ⟨q, PySem.W.cellsFrom_some _ _ _ (.inl q)⟩
  refine codeAny_call_function hr.depth (KX _ _ lk) rfl S.co S.gen rfl (PySem.W.codeRec_of KX hcd) (hb _ _ _ _ ?_)
  refine wpAny_newFunctionEnv_cells S.kind hkind fun env he s1 x => ?_
  subst he
  refine ⟨lim.keeps x.toInCall.keep, codeAny_func ?_⟩
  obtain ⟨t, ht, hq⟩ := hbody A outer s H vs Q E (hr.deeper _) hsp
  have I : Inv (cxOf CX P w K mg base N qual scope f cdv A outer s H E) [] (start N vs) H s1 := inv_start S hr.hd e0 hl r x
  refine wpAny_mono (ht [] s1 (start N vs) H _ I hq) (fun fl s' hs => ?_) fun e s' hs => hs
  have fin : ∀ {σ' : St} {H' : Hp} {v : V} {u : Value}, Inv (cxOf CX P w K mg base N qual scope f cdv A outer s H E) [] σ' H' s' → RelV v u → Q v H' → CE outer P w H s Q u s' :=
    fun {σ' H' v u} J rv q => ⟨v, H', J.os, J.bare, J.base, J.hok, rv, q⟩
  cases fl with
  | ret u =>
    obtain ⟨v, σ', H', J, rv, q⟩ := hs
    exact fin J rv q
  | next =>
    obtain ⟨σ', H', J, q⟩ := hs
    exact fin (v := V.non) (u := Value.none) J rfl q
  | brk =>
    obtain ⟨_, _, _, q⟩ := hs
    exact False.elim q
  | cont =>
    obtain ⟨_, _, _, q⟩ := hs
    exact False.elim q
end L2
namespace L2
open PySem PySem.Spec PyProof.Rows
section
variable {X : Cx} {x : Str} {p pos : Pos} {e : Expr} {es : List Expr} {t : TA} {id T : String} {r : List V → Hp → VK → Prop}
def tCB (r : List V → Hp → VK → Prop) (t : TA) : TE := fun σ H Q => t σ H fun vs H1 => r vs H1 Q
theorem pe_callB (hc : CallR X (.builtin id) r) (hg : Gl X x) (hm : X.mg x = none) (hv : bootBuiltins x = some (.builtin id)) (ha : PA X (e :: es) t) (hn : x ≠ "__name__" := by decide) (hdb : (x == ("__debug__" : Str)) = false := by decide)
    (he : starEach (e :: es) X.env = (false, eval e X.env) :: starEach es X.env := by rfl) (hpl : (backTo pos (starEach es X.env)).any (·.1) = false := by rfl) : PE X (.Call (.Name x p) (e :: es) [] pos) (tCB r t) := by
  intro pins s σ H Q I h
  refine wpAny_Call_Name_kw (ld_blt I hg hm hv ?_ hn hdb)
  exact PyProof.Rows.callWith_builtin1 (thn (ha pos pins s σ H _ I h) fun us s1 ⟨vs, H1, I1, r1, q1⟩ => hc pins s1 σ H1 vs us Q I1 r1 q1) he hpl
theorem pe_callTy (hc : CallR X (.type T) r) (hg : Gl X x) (hm : X.mg x = none) (hv : bootBuiltins x = some (.type T)) (ha : PA X (e :: es) t) (hn : x ≠ "__name__" := by decide) (hdb : (x == ("__debug__" : Str)) = false := by decide)
    (he : starEach (e :: es) X.env = (false, eval e X.env) :: starEach es X.env := by rfl) (hpl : (backTo pos (starEach es X.env)).any (·.1) = false := by rfl) : PE X (.Call (.Name x p) (e :: es) [] pos) (tCB r t) := by
  intro pins s σ H Q I h
  refine wpAny_Call_Name_kw (ld_blt I hg hm hv ?_ hn hdb)
  exact PyProof.Rows.callWith_type1 (thn (ha pos pins s σ H _ I h) fun us s1 ⟨vs, H1, I1, r1, q1⟩ => hc pins s1 σ H1 vs us Q I1 r1 q1) he hpl
end
end L2
namespace HT
open PySem PyProof.Rows
section
open PySem.SeqAt
open PySem.AutoSeq1 (wpAny_loadPart')
open PySem.MeetsSeq PySem.MeetsSeq2 PySem.MeetsSeq3
end
section
variable {prog : Program} {w : World} {A : Around} {E : Value → Shared → Prop} {s : Shared}
def sIx (n d : Nat) : Option Int → Nat
  | none => d
  | some v => if v < 0 then (v + (n : Int)).toNat else min v.toNat n
theorem sIx_le (n d : Nat) (hd : d ≤ n) (o : Option Int) : sIx n d o ≤ n := by
  cases o with
  | none => exact hd
  | some v =>
    show (if v < 0 then (v + (n : Int)).toNat else min v.toNat n) ≤ n
    by_cases hv : v < 0
    · rw [if_pos hv]; omega
    · rw [if_neg hv]; exact Nat.min_le_right _ _
theorem clip_eq (v : Int) (n d : Nat) : (if v < 0 then max (v + (n : Int)) 0 else min v (n : Int)) = ((sIx n d (some v) : Nat) : Int) := by
  show (if v < 0 then max (v + (n : Int)) 0 else min v (n : Int)) = (((if v < 0 then (v + (n : Int)).toNat else min v.toNat n) : Nat) : Int)
  by_cases hv : v < 0
  · simp only [if_pos hv]; omega
  · simp only [if_neg hv]; omega
theorem adjust_gen (lo hi : Option Int) (n : Nat) : Builtin.Slice.sliceAdjust lo hi 1 (n : Int) = (((sIx n 0 lo : Nat) : Int), ((sIx n n hi : Nat) : Int)) := by
  have h1 : ¬ ((1 : Int) < 0) := by omega
  unfold Builtin.Slice.sliceAdjust
  simp only [h1, if_false]
  refine Prod.ext ?_ ?_
  · cases lo with
    | none => rfl
    | some v => exact clip_eq v n 0
  · cases hi with
    | none => rfl
    | some v => exact clip_eq v n n
theorem places_gen (i j : Nat) : Builtin.Slice.slicePlaces (i : Int) (j : Int) 1 = j - i := by
  unfold Builtin.Slice.slicePlaces
  have h1 : (1 : Int) > 0 := by omega
  simp only [h1, if_true, Int.ediv_one]
  split <;> omega
theorem slicePart_ {v : Value} {o : Option Int} {Q : Option Int → Shared → Prop} (p : IsPart v o) (h : Q o s) : wpAny (model prog w) A (Builtin.Slice.slicePartIndex v) Q E s := by
  cases p with
  | none => exact slicePart_none h
  | int i t => exact slicePart_int h
theorem sliceApplied_gen {sl : Addr} {vl vu : Value} {lo hi : Option Int} {n : Nat} {Q : Int × Int × Nat → Shared → Prop} (hs : s.heap.IsSliceOf sl vl vu .none) (pl : IsPart vl lo) (pu : IsPart vu hi)
    (h : Q (((sIx n 0 lo : Nat) : Int), 1, sIx n n hi - sIx n 0 lo) s) : wpAny (model prog w) A (Builtin.Slice.sliceApplied (.ref sl) (pure (n : Int))) Q E s := by
  obtain ⟨os, hos, hcs, hds⟩ := id hs
  unfold Builtin.Slice.sliceApplied Builtin.Slice.sliceFields
  refine wpAny_bind (wpAny_bind (wpAny_field hos hds (x := vl) rfl (wpAny_bind (wpAny_field hos hds (x := vu) rfl (wpAny_bind (wpAny_field hos hds (x := .none) rfl (wpAny_pure ?_)))))))
  refine wpAny_bind (slicePart_none ?_)
  show wpAny _ _ (if ((1 : Int) == 0) = true then _ else _) _ _ s
  rw [if_neg (by decide)]
  refine wpAny_bind (slicePart_ pl (wpAny_bind (slicePart_ pu (wpAny_bind (wpAny_pure ?_)))))
  show wpAny _ _ (match Builtin.Slice.sliceAdjust lo hi 1 (n : Int) with | (lo, hi) => pure (lo, (1 : Int), Builtin.Slice.slicePlaces lo hi 1)) _ _ s
  rw [adjust_gen lo hi n]
  show wpAny _ _ (pure (((sIx n 0 lo : Nat) : Int), (1 : Int), Builtin.Slice.slicePlaces ((sIx n 0 lo : Nat) : Int) ((sIx n n hi : Nat) : Int) 1)) _ _ s
  rw [places_gen]
  exact wpAny_pure h
theorem pick_gen (xs : Array Value) (i k : Nat) : ((List.range k).filterMap fun (m : Nat) => xs[((i : Int) + (m : Int) * 1).toNat]?).toArray = ((xs.toList.drop i).take k).toArray := by
  have e : (fun (m : Nat) => xs[((i : Int) + (m : Int) * 1).toNat]?) = fun m => xs[i + m]? := by
    funext m
    have : ((i : Int) + (m : Int) * 1).toNat = i + m := by omega
    rw [this]
  rw [e]
  have := pick_run xs i k
  rw [List.filterMap_map] at this
  have e2 : ((fun x => xs[x]?) ∘ fun x => i + x) = fun m => xs[i + m]? := rfl
  rw [e2] at this
  rw [this]
theorem getItem_tuple_cut {t sl : Addr} {items : Array Value} {vl vu : Value} {lo hi : Option Int} {Q : Value → Shared → Prop} (ht : IsTup s.heap t items) (hs : s.heap.IsSliceOf sl vl vu .none) (pl : IsPart vl lo) (pu : IsPart vu hi)
    (hw : ¬ (sIx items.size 0 lo = 0 ∧ sIx items.size items.size hi = items.size))
    (h : Q (.ref s.heap.objs.size) { s with heap := s.heap.push { cls := .type "tuple", data := .seq ((items.toList.drop (sIx items.size 0 lo)).take (sIx items.size items.size hi - sIx items.size 0 lo)).toArray } })
    (hsz : items.size ≤ sizeLine) : wpAny (model prog w) A (getItem (.ref t) (.ref sl)) Q E s := by
  have htake : sizeOk (.seq ((items.toList.drop (sIx items.size 0 lo)).take (sIx items.size items.size hi - sIx items.size 0 lo)).toArray) := by
    show ((items.toList.drop (sIx items.size 0 lo)).take (sIx items.size items.size hi - sIx items.size 0 lo)).toArray.size ≤ sizeLine
    rw [List.size_toArray, List.length_take, List.length_drop, Array.length_toList]
    omega
  have hj : sIx items.size items.size hi ≤ items.size := sIx_le _ _ (Nat.le_refl _) hi
  obtain ⟨os, hos, hcs, hds⟩ := id hs
  have hTs : s.TypeIs (.ref sl) "slice" := ⟨os, hos, hcs⟩
  unfold getItem
  try with_reducible refine wpAny_holding ?_
  first | refine wpAny_bind (wpAny_pure ?_) | skip
  refine wpAny_bind (wpAny_sequenceKey ht.typeIs (by decide) ?_)
  refine wpAny_bind (wpAny_callSpecial?_slot (name := Str.ofString "__getitem__") ht.typeIs PyProof.Rows.slot_tuple_getitem
    (wpAny_call_entry PyProof.Rows.slot_tuple_getitem ht.typeIs entry_tuple_getitem ?_ (args_tuple_getitem _ _)))
  show wpAny _ _ (Builtin.Tuple.tupleItemsOf (.ref t) >>= _) _ _ s
  refine wpAny_bind (tupleItemsOf_ ht ?_)
  refine wpAny_bind (wpAny_typeOf hTs ?_)
  rw [if_pos (by decide)]
  refine wpAny_bind (sliceApplied_gen hs pl pu ?_)
  have hno : ¬ ((((sIx items.size 0 lo : Nat) : Int) == 0 && (1 : Int) == 1 && (sIx items.size items.size hi - sIx items.size 0 lo) == items.size) = true) := by
    intro q
    rw [Bool.and_eq_true, Bool.and_eq_true] at q
    have q1 : ((sIx items.size 0 lo : Nat) : Int) = 0 := eq_of_beq q.1.1
    have q2 : sIx items.size items.size hi - sIx items.size 0 lo = items.size := eq_of_beq q.2
    exact hw ⟨by omega, by omega⟩
  show wpAny _ _ (if (((sIx items.size 0 lo : Nat) : Int) == 0 && (1 : Int) == 1 && (sIx items.size items.size hi - sIx items.size 0 lo) == items.size) = true then _ else _) _ _ s
  rw [if_neg hno, pick_gen]
  first
    | exact wpAny_bind (m := Builtin.Tuple.tupleExact _) (wpAny_newObj_type (wpAny_pure ⟨_, rfl, wpAny_pure h⟩) htake)
    | exact wpAny_bind (m := Builtin.Tuple.tupleExact _) (wpAny_newObj_type (wpAny_bind (wpAny_pure (wpAny_pure ⟨_, rfl, wpAny_pure h⟩))) htake)
    | exact wpAny_bind (wpAny_bind (m := Builtin.Tuple.tupleExact _) (wpAny_newObj_type (wpAny_pure (wpAny_pure ⟨_, rfl, wpAny_pure h⟩)) htake))
    | exact wpAny_bind (wpAny_bind (m := Builtin.Tuple.tupleExact _) (wpAny_newObj_type (wpAny_pure ⟨_, rfl, wpAny_pure h⟩) htake))
end
end HT
namespace L2
open PySem PySem.Spec PyProof.Rows
abbrev TO := St → Hp → (Option Int → Hp → Prop) → Prop
def PO (X : Cx) (e : Option Expr) (t : TO) : Prop :=
  ∀ (pins : List (Addr × Obj)) (s : Shared) (σ : St) (H : Hp) (Q : Option Int → Hp → Prop), Inv X pins σ H s → t σ H Q →
    wpAny (model X.prog X.w) X.A (evalPart e X.env) (fun u s' => ∃ o H', Inv X pins σ H' s' ∧ IsPart u o ∧ Q o H') X.xe s
def tNoPart : TO := fun _ H Q => Q none H
def tPart (t : TE) : TO := fun σ H Q => t σ H fun x H1 => ∃ i, x = .int i ∧ Q (some i) H1
theorem intsAre_of {ns : List Int} : ∀ {us : List Value}, Vals (ns.map V.int) us → IntsAre us ns := by
  induction ns with
  | nil => intro us r; rw [List.map_nil] at r; cases r; exact .nil
  | cons n ns ih =>
    intro us r
    rw [List.map_cons] at r
    cases r with
    | cons r1 r2 =>
      obtain ⟨t, e⟩ := r1
      subst e
      exact .cons n t (ih r2)
section
variable {X : Cx} {e : Expr} {te : TE} {lo hi : Option Expr} {tl th : TO} {pos p2 : Pos}
theorem po_none : PO X none tNoPart := by
  intro pins s σ H Q I h
  rw [evalPart_none]
  exact wpAny_pure ⟨none, H, I, .none, h⟩
theorem po_some (h : PE X e te) : PO X (some e) (tPart te) := by
  intro pins s σ H Q I hw
  rw [evalPart_some]
  refine thn (h pins s σ H _ I hw) fun u s1 ⟨x, H1, I1, r1, q1⟩ => ?_
  obtain ⟨i, rfl, q⟩ := q1
  obtain ⟨t, rfl⟩ := r1
  exact ⟨some i, H1, I1, .int i t, q⟩
def SlR (X : Cx) (r : V → Option Int → Option Int → Hp → VK → Prop) : Prop :=
  ∀ (pins : List (Addr × Obj)) (s : Shared) (σ : St) (H : Hp) (x : V) (v vl vu : Value) (lo hi : Option Int) (sl : Addr) (Q : VK), Inv X pins σ H s → RelV x v → s.heap.IsSliceOf sl vl vu .none → IsPart vl lo → IsPart vu hi → r x lo hi H Q →
    ∃ T id, typeLookup (.type T) "__getitem__" = pure (some (.builtin id)) ∧ s.TypeIs v T ∧ wpAny (model X.prog X.w) X.A (getItem v (.ref sl)) (EP X pins σ Q) X.xe s
theorem SlR.or {r r' : V → Option Int → Option Int → Hp → VK → Prop} (h : SlR X r) (h' : SlR X r') : SlR X (fun x lo hi H Q => r x lo hi H Q ∨ r' x lo hi H Q) := by
  intro pins s σ H x v vl vu lo hi sl Q I rx hs pl pu q
  rcases q with q | q
  · exact h pins s σ H x v vl vu lo hi sl Q I rx hs pl pu q
  · exact h' pins s σ H x v vl vu lo hi sl Q I rx hs pl pu q
def tSl (r : V → Option Int → Option Int → Hp → VK → Prop) (te : TE) (tl th : TO) : TE := fun σ H Q => te σ H fun x H1 => tl σ H1 fun l H2 => th σ H2 fun u H3 => r x l u H3 Q
theorem pe_slice {r : V → Option Int → Option Int → Hp → VK → Prop} (hr : SlR X r) (he : PE X e te) (hl : PO X lo tl) (hu : PO X hi th) : PE X (.Subscript e (.Slice lo hi none p2) pos) (tSl r te tl th) := by
  intro pins s σ H Q I h
  refine Subscript_ (thn (he pins s σ H _ I h) fun v s1 ⟨x, H1, I1, r1, q1⟩ => ?_)
  refine wpAny_Slice (thn (hl pins s1 σ H1 _ I1 q1) fun vl s2 ⟨l, H2, I2, pl, q2⟩ => thn (hu pins s2 σ H2 _ I2 q2) fun vu s3 ⟨u, H3, I3, pu, q3⟩ => ?_)
  rw [evalPart_none]
  refine wpAny_pure ?_
  have I4 : Inv X pins σ H3 { s3 with heap := s3.heap.push { cls := .type "slice", data := .fields #[vl, vu, .none] } } := I3.kept (t' := s3.toks) fun b ob q => Heap.get?_push_of_some _ q
  obtain ⟨T, id, hT, ht, hg⟩ := hr pins { s3 with heap := s3.heap.push { cls := .type "slice", data := .fields #[vl, vu, .none] } } σ H3 x v vl vu l u s3.heap.objs.size Q I4 r1 (Heap.IsSliceOf.new ..) pl pu q3
  show wpAny (model X.prog X.w) X.A (subscriptTail e (.Slice lo hi none p2) v (.ref s3.heap.objs.size)) (EP X pins σ Q) X.xe { s3 with heap := s3.heap.push { cls := .type "slice", data := .fields #[vl, vu, .none] } }
  exact tail_any (ops := [.ref s3.heap.objs.size, v]) ht hT hg (by with_unfolding_all rfl)
def cutV (xs : List V) (lo hi : Option Int) : List V := (xs.drop (HT.sIx xs.length 0 lo)).take (HT.sIx xs.length xs.length hi - HT.sIx xs.length 0 lo)
theorem cutV_length (xs : List V) (lo hi : Option Int) : (cutV xs lo hi).length ≤ xs.length := by
  unfold cutV
  rw [List.length_take, List.length_drop]
  omega
def rSlT (K : PySem.W.Frag) : V → Option Int → Option Int → Hp → VK → Prop := fun x lo hi H Q => ∃ a xs, x = .ref a ∧ SqT K H a xs ∧
  ¬ (HT.sIx xs.length 0 lo = 0 ∧ HT.sIx xs.length xs.length hi = xs.length) ∧ ∀ p, H p = none → Q (.ref p) (upd H p (.tup (cutV xs lo hi)))
theorem sl_tup : SlR X (rSlT X.K) := by
  intro pins s σ H x v vl vu lo hi sl Q I rx hs pl pu h
  obtain ⟨a, xs, rfl, hx, hw, q⟩ := h
  cases rx
  obtain ⟨its, r, ht, hz⟩ := I.tuple hx
  have hlen : its.toArray.size = xs.length := by rw [List.size_toArray]; exact r.length.symm
  refine ⟨"tuple", _, PyProof.Rows.slot_tuple_getitem.lookup, ht.typeIs, ?_⟩
  refine HT.getItem_tuple_cut ht hs pl pu (by rw [hlen]; exact hw) ?_ (by rw [hlen]; exact hz)
  rw [hlen]
  refine ⟨.ref s.heap.objs.size, _, I.laid (t' := s.toks) (o := .tup (cutV xs lo hi)) (fun b ob q => Heap.get?_push_of_some _ q) (Nat.le_refl _) ?_, rfl, q _ (I.hok.fresh (Nat.le_refl _))⟩
  exact ⟨Nat.le_trans (cutV_length xs lo hi) hz, _, (r.drop (HT.sIx xs.length 0 lo)).take (HT.sIx xs.length xs.length hi - HT.sIx xs.length 0 lo), IsTup.new _ _⟩
end
end L2
namespace L2
open PySem PySem.Spec PyProof.Rows
def ixN (n : Nat) (i : Int) : Option Nat := if 0 ≤ i then (if i < n then some i.toNat else none) else if -(n : Int) ≤ i then some (i + n).toNat else none
def atI {α : Type} (xs : List α) (i : Int) : Option α := (ixN xs.length i).bind fun j => xs[j]?
theorem ixN_seq {n : Nat} {i : Int} {j : Nat} (h : ixN n i = some j) : seqIndex? i n = some j ∧ j < n ∧ -(n : Int) ≤ i ∧ i < n := by
  unfold ixN at h
  by_cases h0 : 0 ≤ i
  · rw [if_pos h0] at h
    by_cases h1 : i < n
    · rw [if_pos h1] at h
      have e : i.toNat = j := Option.some.inj h
      exact ⟨by rw [seqIndex_of h0 h1, e], by omega, by omega, h1⟩
    · rw [if_neg h1] at h; cases h
  · rw [if_neg h0] at h
    by_cases h1 : -(n : Int) ≤ i
    · rw [if_pos h1] at h
      have e : (i + n).toNat = j := Option.some.inj h
      exact ⟨by rw [seqIndex_neg (by omega) h1, e], by omega, h1, by omega⟩
    · rw [if_neg h1] at h; cases h
theorem atI_get {α : Type} {xs : List α} {i : Int} {v : α} (h : atI xs i = some v) : ∃ j, seqIndex? i xs.length = some j ∧ xs[j]? = some v ∧ j < xs.length ∧ -(xs.length : Int) ≤ i ∧ i < xs.length := by
  unfold atI at h
  cases e : ixN xs.length i with
  | none => rw [e] at h; cases h
  | some j =>
    rw [e] at h
    obtain ⟨h1, h2, h3, h4⟩ := ixN_seq e
    exact ⟨j, h1, h, h2, h3, h4⟩
def PlainIx (b : Expr) : Prop := ∀ o i, subscripted b false o i = operate [o, i] (getItem o i)
def IxR (X : Cx) (r : R2) : Prop :=
  ∀ (value slice : Expr) (pins : List (Addr × Obj)) (s : Shared) (σ : St) (H : Hp) (x y : V) (v u : Value) (Q : VK), Inv X pins σ H s → RelV x v → RelV y u → r x y H Q →
    subscripted slice false v u = operate [v, u] (getItem v u) → wpAny (model X.prog X.w) X.A (subscriptTail value slice v u) (EP X pins σ Q) X.xe s
def MtR (X : Cx) (id : String) (r : V → List V → Hp → VK → Prop) : Prop :=
  ∀ (pins : List (Addr × Obj)) (s : Shared) (σ : St) (H : Hp) (x : V) (xs : List V) (v : Value) (us : List Value) (Q : VK), Inv X pins σ H s → RelV x v → Vals xs us → r x xs H Q →
    wpAny (model X.prog X.w) X.A (call (.builtin id) (v :: us)) (EP X pins σ Q) X.xe s
section
variable {X : Cx} {a b : Expr} {ta tb : TE} {pos : Pos}
theorem IxR.or {r r' : R2} (h : IxR X r) (h' : IxR X r') : IxR X (fun x y H Q => r x y H Q ∨ r' x y H Q) := by
  intro value slice pins s σ H x y v u Q I rx ry q hs
  rcases q with q | q
  · exact h value slice pins s σ H x y v u Q I rx ry q hs
  · exact h' value slice pins s σ H x y v u Q I rx ry q hs
theorem MtR.or {id : String} {r r' : V → List V → Hp → VK → Prop} (h : MtR X id r) (h' : MtR X id r') : MtR X id (fun x xs H Q => r x xs H Q ∨ r' x xs H Q) := by
  intro pins s σ H x xs v us Q I rx rs q
  rcases q with q | q
  · exact h pins s σ H x xs v us Q I rx rs q
  · exact h' pins s σ H x xs v us Q I rx rs q
theorem pe_ix {r : R2} (hr : IxR X r) (ha : PE X a ta) (hb : PE X b tb) (hs : PlainIx b) : PE X (.Subscript a b pos) (tOp r ta tb) := by
  intro pins s σ H Q I h
  exact Subscript_ (binT ha hb I h fun v u s2 x y H2 I2 rx ry q => hr a b pins s2 σ H2 x y v u Q I2 rx ry q (hs _ _))
def rIxL (K : PySem.W.Frag) : R2 := fun x y H Q => ∃ p xs i v, x = .ref p ∧ y = .int i ∧ SqL K H p xs ∧ atI xs i = some v ∧ Q v H
def rIxT (K : PySem.W.Frag) : R2 := fun x y H Q => ∃ p xs i v, x = .ref p ∧ y = .int i ∧ SqT K H p xs ∧ atI xs i = some v ∧ Q v H
theorem ix_list : IxR X (rIxL X.K) := by
  intro value slice pins s σ H x y v u Q I rx ry h hs
  obtain ⟨p, xs, i, z, rfl, rfl, hq, he, q⟩ := h
  cases rx
  obtain ⟨t, rfl⟩ := ry
  obtain ⟨its, r, pl, hz⟩ := I.list hq
  obtain ⟨j, h1, h2, h3, h4, h5⟩ := atI_get he
  obtain ⟨w, ew, rw'⟩ := r.get h2
  have hl := r.length
  have hn := line63
  have fin : EP X pins σ Q w s := ⟨z, H, I, rw', q⟩
  by_cases h0 : 0 ≤ i
  · have hj : i.toNat = j := by
      rw [seqIndex_of h0 h5] at h1
      exact Option.some.inj h1
    exact item_listR pl.isList h0 (by omega) (by rw [hj]; simpa using ew) fin hs
  · have hj : (i + (its.toArray.size : Int)).toNat = j := by
      rw [seqIndex_neg (by omega) h4] at h1
      rw [List.size_toArray, ← hl]
      exact Option.some.inj h1
    exact subscriptTail_builtinR (x := w) pl.isList.typeIs slot_list_getitem.lookup
      (wpAny_getItem_list_neg (Q := fun r s' => r = w ∧ EP X pins σ Q r s') pl.isList (by omega) (by rw [List.size_toArray] <;> omega) (by omega) (by rw [hj]; simpa using ew) ⟨rfl, fin⟩) hs
theorem ix_tup : IxR X (rIxT X.K) := by
  intro value slice pins s σ H x y v u Q I rx ry h hs
  obtain ⟨p, xs, i, z, rfl, rfl, hq, he, q⟩ := h
  cases rx
  obtain ⟨t, rfl⟩ := ry
  obtain ⟨its, r, pl, hz⟩ := I.tuple hq
  obtain ⟨j, h1, h2, h3, h4, h5⟩ := atI_get he
  obtain ⟨w, ew, rw'⟩ := r.get h2
  have hl := r.length
  have hn := line63
  have fin : EP X pins σ Q w s := ⟨z, H, I, rw', q⟩
  exact subscriptTail_builtinR (x := w) pl.typeIs slot_tuple_getitem.lookup
    (getItem_tuple (j := j) (Q := fun r s' => r = w ∧ EP X pins σ Q r s') pl (by omega) (by omega) (by rw [List.size_toArray, ← hl]; exact h1) (by simpa using ew) ⟨rfl, fin⟩) hs
theorem mapSeq_set (its : List Value) (n j : Nat) (u : Value) : Obj.mapSeq (·.setIfInBounds j u) { cls := .type "list", data := .seq its.toArray n } = { cls := .type "list", data := .seq (its.set j u).toArray n } := by
  simp [Obj.mapSeq]
theorem Inv.lst {pins : List (Addr × Obj)} {σ : St} {H : Hp} {s : Shared} {p : Addr} {xs : List V} (I : Inv X pins σ H s) (h : H p = some (.lst xs)) :
    ∃ (its : List Value) (n : Nat), Vals xs its ∧ s.heap.get? p = some { cls := .type "list", data := .seq its.toArray n } ∧ xs.length ≤ sizeLine := by
  obtain ⟨z, its, n, r, e⟩ := I.hok p _ h
  exact ⟨its, n, r, e, z⟩
theorem Inv.lstUpd {pins : List (Addr × Obj)} {σ : St} {H : Hp} {s : Shared} {p : Addr} {xs ys : List V} {its its' : List Value} {n n' : Nat} {f : Obj → Obj} (I : Inv X pins σ H s) (h : H p = some (.lst xs))
    (ho : s.heap.get? p = some { cls := .type "list", data := .seq its.toArray n }) (hf : f { cls := .type "list", data := .seq its.toArray n } = { cls := .type "list", data := .seq its'.toArray n' }) (r : Vals ys its') (hz : ys.length ≤ sizeLine) (t : Nat) :
    Inv X pins σ (upd H p (.lst ys)) { s with heap := s.heap.update p f, toks := t } := by
  have e : (s.heap.update p f).get? p = some { cls := .type "list", data := .seq its'.toArray n' } := by
    rw [Heap.get?_update_self f ho (by rw [hf] <;> rfl), hf]
  refine I.write (x := p) (e := p) (by rw [h]; trivial) (.inl rfl) (fun b u hb q => (Heap.get?_update_other _ _ (Ne.symm hb)).trans q) ⟨_, e⟩ ?_
  exact ⟨hz, its', n', r, e⟩
def rSetL : V → V → V → Hp → (Hp → Prop) → Prop := fun o i v H Q => ∃ p xs k j, o = .ref p ∧ i = .int k ∧ H p = some (.lst xs) ∧ ixN xs.length k = some j ∧ Q (upd H p (.lst (xs.set j v)))
theorem set_list : PSet X rSetL := by
  intro pins s σ H o i v ov iv u Q I ro ri rv h
  obtain ⟨p, xs, k, j, rfl, rfl, hp, hj, q⟩ := h
  cases ro
  obtain ⟨t, rfl⟩ := ri
  obtain ⟨its, n, r, ho, hz⟩ := I.lst hp
  obtain ⟨h1, h2, h3, h4⟩ := ixN_seq hj
  have hl := r.length
  have hn := line63
  have I' : Inv X pins σ (upd H p (.lst (xs.set j v))) { s with heap := s.heap.update p (Obj.mapSeq (·.setIfInBounds j u)) } :=
    I.lstUpd hp ho (mapSeq_set its n j u) (r.set rv j) (by rw [List.length_set]; exact hz) s.toks
  by_cases h0 : 0 ≤ k
  · have hk : k.toNat = j := by
      rw [seqIndex_of h0 h4] at h1
      exact Option.some.inj h1
    exact PySem.W.ki_setAt ho h0 (by omega) (by rw [List.size_toArray, ← hl]; exact h4) (by rw [hk]; exact ⟨_, I', q⟩)
  · have hk : (k + (its.toArray.size : Int)).toNat = j := by
      rw [seqIndex_neg (by omega) h3] at h1
      rw [List.size_toArray, ← hl]
      exact Option.some.inj h1
    exact PySem.W.ki_setBack ho (by omega) (by rw [List.size_toArray, ← hl]; exact h3) (by omega) (by rw [hk]; exact ⟨_, I', q⟩)
theorem slice_bounds (lo hi : Option Int) (n : Nat) : (sliceBounds lo hi none n).1 = ((HT.sIx n 0 lo : Nat) : Int) ∧ (sliceBounds lo hi none n).2.1 = ((HT.sIx n n hi : Nat) : Int) ∧ (sliceBounds lo hi none n).2.2 = 1 := by
  refine ⟨?_, ?_, rfl⟩
  · cases lo with
    | none => simp [sliceBounds, HT.sIx]
    | some i =>
      simp only [sliceBounds, HT.sIx, Option.getD_none, show (1 : Int) > 0 by decide, if_true]
      by_cases h : i < 0
      · simp only [h, if_true] <;> omega
      · simp only [h, if_false] <;> omega
  · cases hi with
    | none => simp [sliceBounds, HT.sIx]
    | some i =>
      simp only [sliceBounds, HT.sIx, Option.getD_none, show (1 : Int) > 0 by decide, if_true]
      by_cases h : i < 0
      · simp only [h, if_true] <;> omega
      · simp only [h, if_false] <;> omega
theorem slicePick_cut (its : List Value) (lo hi : Option Int) : slicePick its.toArray lo hi none = ((its.drop (HT.sIx its.length 0 lo)).take (HT.sIx its.length its.length hi - HT.sIx its.length 0 lo)).toArray := by
  obtain ⟨h1, h2, h3⟩ := slice_bounds lo hi its.toArray.size
  unfold slicePick
  rw [h1, h2, h3]
  simp only [sliceRange_one, pick_run, List.size_toArray] <;> rfl
def rSlL (K : PySem.W.Frag) : V → Option Int → Option Int → Hp → VK → Prop := fun x lo hi H Q => ∃ a xs, x = .ref a ∧ SqL K H a xs ∧ ∀ p, H p = none → Q (.ref p) (upd H p (.lst (cutV xs lo hi)))
theorem sl_list : SlR X (rSlL X.K) := by
  intro pins s σ H x v vl vu lo hi sl Q I rx hs pl pu h
  obtain ⟨a, xs, rfl, hx, q⟩ := h
  cases rx
  obtain ⟨its, r, ht, hz⟩ := I.list hx
  have hlen := r.length
  refine ⟨"list", _, slot_list_getitem.lookup, ht.isList.typeIs, ?_⟩
  refine wpAny_getItem_list_slice ht.isList hs pl pu .none (by simp) ?_ (by rw [List.size_toArray] <;> omega)
  rw [slicePick_cut, ← hlen]
  refine ⟨.ref s.heap.objs.size, _, I.laid (t' := s.toks) (o := .lst (cutV xs lo hi)) (fun b ob q => Heap.get?_push_of_some _ q) (Nat.le_refl _) ?_, rfl, q _ (I.hok.fresh (Nat.le_refl _))⟩
  exact ⟨Nat.le_trans (cutV_length xs lo hi) hz, _, 0, (r.drop (HT.sIx xs.length 0 lo)).take (HT.sIx xs.length xs.length hi - HT.sIx xs.length 0 lo), Heap.get?_push_size _ rfl⟩
def flatV : V → Bool
  | .non => true
  | .bl _ => true
  | .int _ => true
  | .str _ => true
  | _ => false
def eqV : V → V → Bool
  | .non, .non => true
  | .bl a, .bl b => a == b
  | .bl a, .int b => (if a then 1 else 0) == b
  | .int a, .bl b => a == (if b then 1 else 0)
  | .int a, .int b => a == b
  | .str a, .str b => a == b
  | _, _ => false
theorem eqAt_V {A : Around} {s : Shared} {y x : V} {u v : Value} (ry : RelV y u) (rx : RelV x v) (fy : flatV y = true) (fx : flatV x = true) : SeqAt.EqAt A s u v (eqV y x) := by
  cases y with
  | non =>
    cases ry
    cases x with
    | non => cases rx; exact SeqAt.EqAt.same _
    | bl b => cases rx; exact SeqAt.EqAt.none_bool b
    | int b => obtain ⟨t, rfl⟩ := rx; exact SeqAt.EqAt.none_int b t
    | str b => obtain ⟨t, rfl⟩ := rx; exact SeqAt.EqAt.none_str b t
    | _ => exact absurd (show false = true from fx) Bool.false_ne_true
  | bl a =>
    cases ry
    cases x with
    | non => cases rx; exact SeqAt.EqAt.bool_none a
    | bl b => cases rx; exact SeqAt.EqAt.bool_bool a b
    | int b => obtain ⟨t, rfl⟩ := rx; exact SeqAt.EqAt.bool_int a b t
    | str b => obtain ⟨t, rfl⟩ := rx; exact SeqAt.EqAt.bool_str a b t
    | _ => exact absurd (show false = true from fx) Bool.false_ne_true
  | int a =>
    obtain ⟨t', rfl⟩ := ry
    cases x with
    | non => cases rx; exact SeqAt.EqAt.int_none a t'
    | bl b => cases rx; exact SeqAt.EqAt.int_bool a t' b
    | int b => obtain ⟨t, rfl⟩ := rx; exact SeqAt.EqAt.int_int a t' b t
    | str b => obtain ⟨t, rfl⟩ := rx; exact SeqAt.EqAt.int_str a t' b t
    | _ => exact absurd (show false = true from fx) Bool.false_ne_true
  | str a =>
    obtain ⟨t', rfl⟩ := ry
    cases x with
    | non => cases rx; exact SeqAt.EqAt.str_none a t'
    | bl b => cases rx; exact SeqAt.EqAt.str_bool a t' b
    | int b => obtain ⟨t, rfl⟩ := rx; exact SeqAt.EqAt.str_int a t' b t
    | str b => obtain ⟨t, rfl⟩ := rx; exact SeqAt.EqAt.str_str a t' b t
    | _ => exact absurd (show false = true from fx) Bool.false_ne_true
  | _ => exact absurd (show false = true from fy) Bool.false_ne_true
def eqU (x : V) (u : Value) : Bool := match u with
  | .none => eqV .non x
  | .bool b => eqV (.bl b) x
  | .int i _ => eqV (.int i) x
  | .str z _ => eqV (.str z) x
  | _ => false
theorem eqU_of {x y : V} {u : Value} (r : RelV y u) (f : flatV y = true) : eqU x u = eqV y x := by
  cases y with
  | non => cases r; rfl
  | bl b => cases r; rfl
  | int i => obtain ⟨t, rfl⟩ := r; rfl
  | str z => obtain ⟨t, rfl⟩ := r; rfl
  | _ => exact absurd (show false = true from f) Bool.false_ne_true
theorem any_eqU {x : V} : ∀ {xs : List V} {us : List Value}, Vals xs us → xs.all flatV = true → us.any (eqU x) = xs.any fun y => eqV y x
  | _, _, .nil, _ => rfl
  | y :: xs, u :: us, .cons r t, f => by
    rw [List.all_cons, Bool.and_eq_true] at f
    rw [List.any_cons, List.any_cons, eqU_of r f.1, any_eqU t f.2]
theorem mem_eqAt {A : Around} {s : Shared} {x : V} {v : Value} (rx : RelV x v) (fx : flatV x = true) : ∀ {xs : List V} {us : List Value}, Vals xs us → xs.all flatV = true → ∀ u ∈ us, SeqAt.EqAt A s u v (eqU x u)
  | _, _, .nil, _ => fun u hu => by cases hu
  | y :: xs, u :: us, .cons r t, f => fun u' hu => by
    rw [List.all_cons, Bool.and_eq_true] at f
    rcases List.mem_cons.mp hu with rfl | hu
    · rw [eqU_of r f.1]; exact eqAt_V r rx f.1 fx
    · exact mem_eqAt rx fx t f.2 u' hu
def inV (x : V) (xs : List V) : Bool := xs.any fun y => eqV y x
def rIn (K : PySem.W.Frag) (neg : Bool) : R2 := fun x y H Q => ∃ p xs, y = .ref p ∧ (SqL K H p xs ∨ SqT K H p xs) ∧ flatV x = true ∧ xs.all flatV = true ∧ Q (.bl (if neg then !inV x xs else inV x xs)) H
theorem op_in_seq : OpR X (compareOp .In) (rIn X.K false) := by
  intro pins s σ H x y v u Q I rx ry h
  obtain ⟨p, xs, rfl, hq, fx, fs, q⟩ := h
  cases ry
  rcases hq with hq | hq
  · obtain ⟨its, r, pl, hz⟩ := I.list hq
    refine SeqAt.in_listAt (eqU x) pl.isList (fun w hw => mem_eqAt rx fx r fs w (by simpa using hw)) ⟨.bl _, H, I, rfl, ?_⟩
    rw [show its.toArray.any (eqU x) = its.any (eqU x) by simp, any_eqU r fs]
    exact q
  · obtain ⟨its, r, pl, hz⟩ := I.tuple hq
    refine SeqAt.in_tupleAt (eqU x) pl (fun w hw => mem_eqAt rx fx r fs w (by simpa using hw)) ⟨.bl _, H, I, rfl, ?_⟩
    rw [show its.toArray.any (eqU x) = its.any (eqU x) by simp, any_eqU r fs]
    exact q
theorem op_notIn_seq : OpR X (compareOp .NotIn) (rIn X.K true) := by
  intro pins s σ H x y v u Q I rx ry h
  obtain ⟨p, xs, rfl, hq, fx, fs, q⟩ := h
  cases ry
  rcases hq with hq | hq
  · obtain ⟨its, r, pl, hz⟩ := I.list hq
    refine SeqAt.notIn_listAt (eqU x) pl.isList (fun w hw => mem_eqAt rx fx r fs w (by simpa using hw)) ⟨.bl _, H, I, rfl, ?_⟩
    rw [show its.toArray.any (eqU x) = its.any (eqU x) by simp, any_eqU r fs]
    exact q
  · obtain ⟨its, r, pl, hz⟩ := I.tuple hq
    refine SeqAt.notIn_tupleAt (eqU x) pl (fun w hw => mem_eqAt rx fx r fs w (by simpa using hw)) ⟨.bl _, H, I, rfl, ?_⟩
    rw [show its.toArray.any (eqU x) = its.any (eqU x) by simp, any_eqU r fs]
    exact q
theorem call_len_seq : CallR X (.builtin "len") (fun xs H Q => ∃ p ys, xs = [.ref p] ∧ (SqL X.K H p ys ∨ SqT X.K H p ys) ∧ Q (.int ys.length) H) := by
  intro pins s σ H xs us Q I r h
  obtain ⟨p, ys, rfl, hq, q⟩ := h
  obtain ⟨u, rfl, rx⟩ := vals1 r
  cases rx
  have hn := line63
  rcases hq with hq | hq
  · obtain ⟨its, r', pl, hz⟩ := I.list hq
    have hlen := r'.length
    exact Calls.call_len_list pl.isList (by simp only [List.size_toArray] <;> omega) ⟨.int ys.length, H, I.tok _, ⟨s.toks + 1, by rw [List.size_toArray, hlen]⟩, q⟩
  · obtain ⟨its, r', pl, hz⟩ := I.tuple hq
    have hlen := r'.length
    exact len_tuple pl (by simp only [List.size_toArray] <;> omega) ⟨.int ys.length, H, I.tok _, ⟨s.toks + 1, by rw [List.size_toArray, hlen]⟩, q⟩
theorem call_list_of : CallR X (.type "list") (fun xs H Q => ∃ p ys, xs = [.ref p] ∧ (SqL X.K H p ys ∨ SqT X.K H p ys) ∧ ∀ l, H l = none → Q (.ref l) (upd H l (.lst ys))) := by
  intro pins s σ H xs us Q I r h
  obtain ⟨p, ys, rfl, hq, q⟩ := h
  obtain ⟨u, rfl, rx⟩ := vals1 r
  cases rx
  have fin : ∀ (its : List Value), Vals ys its → ys.length ≤ sizeLine → ∀ (h' : Heap) (c' : Nat), (∀ b o', s.heap.get? b = some o' → h'.get? b = some o') →
      h'.get? s.heap.objs.size = some { cls := .type "list", dict := none, data := .seq its.toArray c', slots := #[] } → EP X pins σ Q (.ref s.heap.objs.size) { s with heap := h' } := fun its r' hz h' c' kp e =>
    ⟨.ref s.heap.objs.size, _, I.laid (t' := s.toks) kp (Nat.le_refl _) (show ObjOk X.prog X.w _ h' _ (.lst ys) from ⟨hz, its, c', r', e⟩), rfl, q _ (I.hok.fresh (Nat.le_refl _))⟩
  rcases hq with hq | hq
  · obtain ⟨its, r', pl, hz⟩ := I.list hq
    have hlen := r'.length
    obtain ⟨o, ho, hc, n, hd⟩ := pl.isList
    exact call_list_seq p (.inl rfl) ho hc hd (fun h' c' kp e => fin its r' hz h' c' kp e) (by simp only [List.size_toArray] <;> omega)
  · obtain ⟨its, r', pl, hz⟩ := I.tuple hq
    have hlen := r'.length
    obtain ⟨o, ho, hc, n, hd⟩ := pl
    exact call_list_seq p (.inr rfl) ho hc hd (fun h' c' kp e => fin its r' hz h' c' kp e) (by simp only [List.size_toArray] <;> omega)
def tyV (K : PySem.W.Frag) (T : String) (x : V) (H : Hp) : Prop := match x with
  | .str _ => T = "str"
  | .int _ => T = "int"
  | .ref p => (T = "list" ∧ ∃ xs, SqL K H p xs) ∨ (T = "tuple" ∧ ∃ o, K.lookup p = some o ∧ o.cls = .type "tuple" ∧ o.dict = none) ∨
      (T = "dict" ∧ ((∃ kvs, H p = some (.dK kvs)) ∨ ∃ kvs, H p = some (.dT kvs))) ∨ (T = "set" ∧ ∃ S n, H p = some (.set S n))
  | _ => False
theorem tyV_is {pins : List (Addr × Obj)} {σ : St} {H : Hp} {s : Shared} {T : String} {x : V} {v : Value} (I : Inv X pins σ H s) (r : RelV x v) (ty : tyV X.K T x H) :
    s.TypeIs v T ∧ ∀ a, v = .ref a → ∃ ob, s.heap.get? a = some ob ∧ ob.dict = none := by
  cases x with
  | str z =>
    obtain ⟨t, rfl⟩ := r
    cases (show T = "str" from ty)
    exact ⟨typeIs_str s z t, fun _ e => nomatch e⟩
  | int i =>
    obtain ⟨t, rfl⟩ := r
    cases (show T = "int" from ty)
    exact ⟨typeIs_int s i t, fun _ e => nomatch e⟩
  | ref p =>
    cases r
    rcases ty with ⟨rfl, xs, hq⟩ | ⟨rfl, o, hk, hc, hd⟩ | ⟨rfl, hk⟩ | ⟨rfl, S, n, hk⟩
    · obtain ⟨its, _, pl, _⟩ := I.list hq
      refine ⟨pl.isList.typeIs, fun a e => ?_⟩
      cases e
      obtain ⟨o, n, e, c, hd, _⟩ := pl
      exact ⟨o, e, hd⟩
    · refine ⟨⟨o, I.kIn p o hk, hc⟩, fun a e => ?_⟩
      cases e
      exact ⟨o, I.kIn _ o hk, hd⟩
    · have z : ∃ o, s.heap.get? p = some o ∧ o.ExactDict := by
        rcases hk with ⟨kvs, hk⟩ | ⟨kvs, hk⟩
        · obtain ⟨_, _, _, _, o, _, _, e, ex, _⟩ := I.hok p _ hk
          exact ⟨o, e, ex⟩
        · obtain ⟨_, _, _, _, o, _, _, e, ex, _⟩ := I.hok p _ hk
          exact ⟨o, e, ex⟩
      obtain ⟨o, e, ex⟩ := z
      refine ⟨⟨o, e, ex.1⟩, fun a e2 => ?_⟩
      cases e2
      exact ⟨o, e, ex.2.1⟩
    · obtain ⟨o, _, _, _, e, ex, _⟩ := I.hok p _ hk
      refine ⟨⟨o, e, ex.1⟩, fun a e2 => ?_⟩
      cases e2
      exact ⟨o, e, ex.2.1⟩
  | _ => exact False.elim ty
def tBM0 (K : PySem.W.Frag) (T : String) (r : V → List V → Hp → VK → Prop) (to : TE) : TE := fun σ H Q => to σ H fun x H1 => tyV K T x H1 ∧ r x [] H1 Q
def tBM (K : PySem.W.Frag) (T : String) (r : V → List V → Hp → VK → Prop) (to : TE) (t : TA) : TE := fun σ H Q => to σ H fun x H1 => tyV K T x H1 ∧ t σ H1 fun xs H2 => r x xs H2 Q
variable {o e : Expr} {es : List Expr} {to : TE} {t : TA} {name : Str} {apos cpos : Pos} {T id : String} {r : V → List V → Hp → VK → Prop}
theorem pe_bm0 (pa : PlainAttrs T) (slot : Slot T name id) (hty : typeOf (.builtin id) = pure (.type "method_descriptor")) (hm : MtR X id r) (ho : PE X o to)
    (hbase : attributeBase o name X.env (eval o X.env) = eval o X.env := by rfl) (hline : (apos.endLine == cpos.line) = true := by rfl) : PE X (.Call (.Attribute o name apos) [] [] cpos) (tBM0 X.K T r to) := by
  intro pins s σ H Q I h
  refine wpAny_Call_method0_late hbase hline (thn (ho pins s σ H _ I h) fun v s1 ⟨x, H1, I1, r1, ty, q1⟩ => ?_)
  obtain ⟨h1, h2⟩ := tyV_is I1 r1 ty
  exact ⟨T, id, pa, slot, hty, h1, h2, Calls.callWith_builtin rfl (PySem.evalArgs_none (hm pins s1 σ H1 x [] v [] Q I1 r1 .nil q1))⟩
theorem pe_bm (pa : PlainAttrs T) (slot : Slot T name id) (hty : typeOf (.builtin id) = pure (.type "method_descriptor")) (hm : MtR X id r) (ho : PE X o to) (ha : PA X (e :: es) t)
    (hbase : attributeBase o name X.env (eval o X.env) = eval o X.env := by rfl)
    (hfew : ((backTo cpos (starEach (e :: es) X.env)).all (fun x => !x.1) && (backToKw cpos (keywordEach [] X.env)).all (fun x => x.1.isSome)
      && decide ((e :: es).length + ([] : List Keyword).length + (if ([] : List Keyword).isEmpty then 0 else 1) < 30)) = true := by rfl)
    (hline : (apos.endLine == cpos.line) = true := by rfl) (hs : starEach (e :: es) X.env = (false, eval e X.env) :: starEach es X.env := by rfl) (hplain : (backTo cpos (starEach es X.env)).any (·.1) = false := by rfl) :
    PE X (.Call (.Attribute o name apos) (e :: es) [] cpos) (tBM X.K T r to t) := by
  intro pins s σ H Q I h
  refine wpAny_Call_method_late hbase hfew hline rfl (thn (ho pins s σ H _ I h) fun v s1 ⟨x, H1, I1, r1, ty, q1⟩ => ?_)
  obtain ⟨h1, h2⟩ := tyV_is I1 r1 ty
  refine ⟨T, id, pa, slot, hty, h1, h2, ?_⟩
  have hA := ha cpos pins s1 σ H1 _ I1 q1
  rw [hs] at hA ⊢
  refine Calls.callWith_builtin (by show (false || (backTo cpos (starEach es X.env)).any (·.1)) = false; rw [hplain] <;> rfl) (Calls.evalArgs_plain ?_)
  exact thn hA fun us s2 ⟨vs, H2, I2, r2, q2⟩ => hm pins s2 σ H2 x vs v us Q I2 r1 r2 q2
end
end L2
namespace L2
open PySem PySem.Spec PyProof.Rows
def MtM (X : Cx) (id : String) (r : V → List V → Hp → VK → Prop) : Prop :=
  ∀ (pins : List (Addr × Obj)) (s : Shared) (σ : St) (H : Hp) (x : V) (xs : List V) (v : Value) (us : List Value) (Q : VK), Inv X pins σ H s → RelV x v → Vals xs us → r x xs H Q →
    wpAny (model X.prog X.w) X.A (call (.builtin id) (v :: us)) (EP X pins σ Q) X.xe s
theorem Vals.one : ∀ {x : V} {us : List Value}, Vals [x] us → ∃ u, us = [u] ∧ RelV x u
  | _, _, .cons r .nil => ⟨_, rfl, r⟩
theorem Vals.zero : ∀ {us : List Value}, Vals [] us → us = []
  | _, .nil => rfl
theorem Vals.dropLast {xs : List V} {us : List Value} (h : Vals xs us) : Vals xs.dropLast us.dropLast := by
  induction h with
  | nil => exact .nil
  | cons r t ih =>
    cases t with
    | nil => exact .nil
    | cons q t' => exact .cons r ih
theorem erase_last {α : Type} (l : List α) : l.eraseIdx (l.length - 1) = l.dropLast := by
  induction l with
  | nil => rfl
  | cons a r ih =>
    cases r with
    | nil => rfl
    | cons b r =>
      have e : (a :: b :: r).length - 1 = ((b :: r).length - 1) + 1 := by
        have h1 : (a :: b :: r).length = r.length + 2 := rfl
        have h2 : (b :: r).length = r.length + 1 := rfl
        omega
      rw [e, List.eraseIdx_cons_succ, ih]
      all_goals rfl
section
variable {X : Cx} {pins : List (Addr × Obj)} {σ : St} {H : Hp} {s : Shared} {l b : Addr} {xs ys zs : List V}
theorem Inv.lset {its its' : List Value} {n : Nat} {f : Array Value → Array Value} {t' : Nat} (I : Inv X pins σ H s) (hH : H l = some (.lst xs))
    (e : s.heap.get? l = some { cls := .type "list", data := .seq its.toArray n }) (hf : f its.toArray = its'.toArray) (hv : Vals ys its') (hz : ys.length ≤ sizeLine) :
    Inv X pins σ (upd H l (.lst ys)) { s with heap := s.heap.update l (Obj.mapSeq f), toks := t' } := by
  have q := PySem.IsL.update e f
  rw [hf] at q
  refine I.write (x := l) (e := l) (by rw [hH]; exact trivial) (.inl rfl) (fun b' u hb hu => (Heap.get?_update_other s.heap (Obj.mapSeq f) (Ne.symm hb)).trans hu) ⟨_, q⟩ ?_
  exact ⟨hz, its', _, hv, q⟩
theorem Inv.lnew {its : List Value} {t' : Nat} (I : Inv X pins σ H s) (hv : Vals ys its) (hz : ys.length ≤ sizeLine) :
    Inv X pins σ (upd H s.heap.objs.size (.lst ys)) { s with heap := s.heap.push { cls := .type "list", data := .seq its.toArray }, toks := t' } :=
  I.laid (fun _ _ q => Heap.get?_push_of_some _ q) (Nat.le_refl _) ⟨hz, its, 0, hv, Heap.get?_push_size _ rfl⟩
theorem Inv.fresh (I : Inv X pins σ H s) : H s.heap.objs.size = none := I.hok.fresh (Nat.le_refl _)
theorem Inv.lstM (I : Inv X pins σ H s) (hH : H l = some (.lst xs)) : xs.length ≤ sizeLine ∧ ∃ (its : List Value) (n : Nat), Vals xs its ∧ xs.length = its.length ∧ s.heap.get? l = some { cls := .type "list", data := .seq its.toArray n } := by
  obtain ⟨z, its, n, r, e⟩ := I.hok l _ hH
  exact ⟨z, its, n, r, r.length, e⟩
theorem notLongL {n : Nat} (h : n ≤ sizeLine) : Builtin.List.listTooLong n = false := by
  unfold Builtin.List.listTooLong
  exact decide_eq_false (by omega)
end
section
variable {X : Cx}
def rAppend : V → List V → Hp → VK → Prop := fun x vs H Q => ∃ l xs y, x = .ref l ∧ vs = [y] ∧ H l = some (.lst xs) ∧ xs.length < sizeLine ∧ Q .non (upd H l (.lst (xs ++ [y])))
theorem mt_append : MtM X "list.append" rAppend := by
  intro pins s σ H x vs v us Q I rx rv h
  obtain ⟨l, xs, y, rfl, rfl, hH, hz, q⟩ := h
  cases rx
  obtain ⟨u, rfl, ru⟩ := rv.one
  obtain ⟨z, its, n, r, hl, e⟩ := I.lstM hH
  refine call_meets F.slot_list_append ⟨_, e, rfl⟩ F.entry_list_append (F.args_list_append_2 _ _) (PySem.list_append l its.toArray n u (by rw [List.size_toArray]; omega)) ⟨e, ?_⟩
  refine ⟨.non, _, I.lset (its' := its ++ [u]) hH e (by simp) (r.append (.cons ru .nil)) ?_, rfl, q⟩
  rw [List.length_append, List.length_singleton]
  omega
def rExtend : V → List V → Hp → VK → Prop := fun x vs H Q => ∃ l b xs zs, x = .ref l ∧ vs = [.ref b] ∧ H l = some (.lst xs) ∧ H b = some (.lst zs) ∧ xs.length + zs.length ≤ sizeLine ∧ Q .non (upd H l (.lst (xs ++ zs)))
theorem mt_extend : MtM X "list.extend" rExtend := by
  intro pins s σ H x vs v us Q I rx rv h
  obtain ⟨l, b, xs, zs, rfl, rfl, hH, hB, hz, q⟩ := h
  cases rx
  obtain ⟨u, rfl, ru⟩ := rv.one
  cases ru
  obtain ⟨z, its, n, r, hl, e⟩ := I.lstM hH
  obtain ⟨z2, its2, n2, r2, hl2, e2⟩ := I.lstM hB
  have hsz : its.toArray.size + its2.toArray.size ≤ sizeLine := by rw [List.size_toArray, List.size_toArray]; omega
  have hlong : ¬ (!its.toArray.isEmpty && Builtin.List.listTooLong (its.toArray.size + its2.toArray.size)) = true := by
    rw [notLongL hsz, Bool.and_false]
    exact Bool.false_ne_true
  refine call_meets F.slot_list_extend ⟨_, e, rfl⟩ F.entry_list_extend (F.args_list_extend_2 _ _)
    (AutoSeq1.list_extend_list_list_0 l its.toArray n b its2.toArray n2 hlong (by rw [List.size_toArray]; omega) (by omega)) ⟨e, e2, ?_⟩
  refine ⟨.non, _, I.lset (its' := its ++ its2) hH e (by simp) (r.append r2) ?_, rfl, q⟩
  rw [List.length_append]
  omega
def rPop : V → List V → Hp → VK → Prop := fun x vs H Q => ∃ l xs y, x = .ref l ∧ vs = [] ∧ H l = some (.lst xs) ∧ xs[xs.length - 1]? = some y ∧ Q y (upd H l (.lst xs.dropLast))
theorem mt_pop : MtM X "list.pop" rPop := by
  intro pins s σ H x vs v us Q I rx rv h
  obtain ⟨l, xs, y, rfl, rfl, hH, hy, q⟩ := h
  cases rx
  have hus := rv.zero
  subst hus
  obtain ⟨z, its, n, r, hl, e⟩ := I.lstM hH
  obtain ⟨u, hu, ru⟩ := r.get hy
  have hy' : its.toArray[its.toArray.size - 1]? = some u := by
    show its.toArray[its.length - 1]? = some u
    rw [← Array.getElem?_toList, ← hl]
    exact hu
  refine call_meets F.slot_list_pop ⟨_, e, rfl⟩ F.entry_list_pop (F.args_list_pop_1 _) (MeetsSeq.list_pop_last l its.toArray n u hy' (by rw [List.size_toArray]; omega)) ⟨e, ?_⟩
  refine ⟨y, _, I.lset (its' := its.dropLast) hH e ?_ r.dropLast ?_, ru, q⟩
  · show its.toArray.eraseIdxIfInBounds (its.toArray.size - 1) = its.dropLast.toArray
    rw [List.size_toArray, List.eraseIdxIfInBounds_toArray, erase_last]
  · rw [List.length_dropLast]
    omega
def rCat : R2 := fun x y H Q => ∃ l b xs zs, x = .ref l ∧ y = .ref b ∧ H l = some (.lst xs) ∧ H b = some (.lst zs) ∧ xs.length + zs.length ≤ sizeLine ∧ ∀ p, H p = none → Q (.ref p) (upd H p (.lst (xs ++ zs)))
theorem op_cat : OpR X (binaryOp .Add) rCat := by
  intro pins s σ H x y v u Q I rx ry h
  obtain ⟨l, b, xs, zs, rfl, rfl, hH, hB, hz, q⟩ := h
  cases rx
  cases ry
  obtain ⟨z, its, n, r, hl, e⟩ := I.lstM hH
  obtain ⟨z2, its2, n2, r2, hl2, e2⟩ := I.lstM hB
  refine PySem.P.add_list e e2 ?_ (by rw [List.size_toArray, List.size_toArray]; omega)
  have ea : its.toArray ++ its2.toArray = (its ++ its2).toArray := by simp
  rw [ea]
  exact ⟨.ref _, _, I.lnew (t' := s.toks) (r.append r2) (by rw [List.length_append]; omega), rfl, q _ I.fresh⟩
end
section
variable {prog : Program} {w : World} {A : Around} {E : Value → Shared → Prop} {s : Shared}
set_option maxRecDepth 100000 in
end
section
variable {X : Cx}
end
end L2
namespace Att
open PySem PySem.W PySem.Calls PyProof.Rows
theorem ints_of_wellAll {P : Params} {h : Heap} : ∀ (ns : List Int) (vs : List Value), WellAll P h vs (ns.map WData.int) → IntsAre vs ns := by
  intro ns
  induction ns with
  | nil =>
    intro vs w
    rw [List.map_nil] at w
    cases w
    exact .nil
  | cons n ns ih =>
    intro vs w
    rw [List.map_cons] at w
    cases w with
    | cons a b =>
      cases a
      exact .cons _ _ (ih _ b)
theorem script_of {l : OpenLaw} {n : Nat} (hn : l.most = some n) {P : Params} {h : Heap} {args : List WData} {vals : List Value}
    (hpre : l.row.toRowW.claim.pre args = true) (hwl : WellAll P h vals args) :
    ∃ a vs ns, vals = [Value.ref a] ∧ args = [WData.list (ns.map WData.int)] ∧ h.get? a = some { cls := .type "list", data := .seq vs.toArray } ∧ IntsAre vs ns ∧ ns.length ≤ n := by
  have hsh : WShape.hasAll [] args [.list .int] = true := (pre_splitW hpre).1
  have hc : l.pre.holds [] { args := args } = true := (pre_splitW hpre).2
  obtain ⟨d, r, rfl, h1, h2⟩ := hasAllW_cons hsh
  obtain rfl := hasAllW_nil h2
  obtain ⟨xs, rfl, h3⟩ := hasW_list h1
  obtain ⟨ns, rfl⟩ := items_int h3
  have hlen : ns.length ≤ n := by
    unfold OpenLaw.pre at hc
    have h4 : (WTm.not (.lt (.lit (.int (n : Int))) (.len (.arg 0)))).holds [] { args := [.list (ns.map .int)] } = true := by
      have h4 := (holds_andW hc).1
      rw [hn] at h4
      exact h4
    have h5 := condW_of h4 (w_not (w_lt w_lit (w_len_list (w_arg rfl))))
    rw [List.length_map] at h5
    refine Nat.le_of_not_lt fun q => ?_
    have q' : (n : Int) < ((ns.length : Nat) : Int) := by omega
    first
      | (rw [decide_eq_true q'] at h5; exact absurd h5 (by decide))
      | (simp at h5; omega)
  cases hwl with
  | cons w1 w2 =>
    cases w2
    cases w1 with
    | list ho hall => exact ⟨_, _, ns, rfl, rfl, ho, ints_of_wellAll ns _ hall, hlen⟩
theorem post_true (l : OpenLaw) (args : List WData) : l.row.toRowW.claim.post args (.bool true) args = true :=
  postW_of (r := l.row.toRowW) (X := (true == true))
    (show WShape.has [] (.bool true) .bool = true by first | rfl | decide | simp [WShape.has, WShape.arms, WShape.armsAll])
    (show (WTm.eq .res (.lit (.bool true))).value [] { args := args, res := some (.bool true), after := args } = some (.bool (true == true)) from w_eq_bool (w_res rfl) w_lit) rfl
theorem attach_call {l : OpenLaw} {n : Nat} {q : Program} {loose : List Str} {XP : (Str → Option Value) → Heap → Prop} {YP : World → Heap → Prop} {d : DefRec}
    (hn : l.most = some n) (hdf : d.params.defaults = [])
    (call : ∀ (w : World) (s₀ s₁ : Shared) (mg mb : Str → Option Value) (fa : Addr) (o : Obj) (pm cd doc : Value) (a : Addr) (vs : List Value) (ns : List Int),
      Ground q loose [] XP w s₀ mg mb s₁.heap → YP w s₁.heap →
      s₁.heap.get? fa = some o → o.data = .func (docDef d.name d.params d.body d.scope pm cd doc) → s₁.heap.CodeRec cd d.name → mg d.name = some (.ref fa) →
      s₁.heap.get? a = some { cls := .type "list", data := .seq vs.toArray } → IntsAre vs ns → ns.length ≤ n → s₁.gens = #[] →
      codeAny (model l.prog w) callerA (.call (.ref fa) ⟨[.ref a], []⟩) (fun r s' => r = .ok (.ret (.bool true)) ∧ OldK s₁.heap s'.heap ∧ s'.os = s₁.os ∧ AllBare s'.gens) s₁) :
    WalkO q loose XP YP l.row.toRowW d [] (fun f vs => PySem.call f vs) := by
  intro w s₀ s₁ mg mb G Y fa o pm cd doc dV kV ho hd hcd hD hmg hg args vals as hpre hlay hrd hwl hlo
  obtain rfl : dV = .none := Dflts.none hD hdf
  obtain rfl : kV = .none := Dflts.noKw hD
  obtain ⟨a, vs, ns, rfl, rfl, hobj, hints, hlen⟩ := script_of hn hpre hwl
  refine enter_call (codeAny_mono (call w s₀ s₁ mg mb fa o pm cd doc a vs ns G Y ho (fd_plain hd) hcd hmg hobj hints hlen hg) fun r s' hq => ?_)
  obtain ⟨rfl, h2, h3, h4⟩ := hq
  exact ⟨.inl ⟨.bool true, .bool true, [], rfl, fun _ => rfl, .bool true, post_true l _, fun _ => ⟨List.Pairwise.nil, fun _ hm => (nomatch hm)⟩⟩, h2, h3, h4⟩
section
variable {prog : Program} {w : World} {A : Around} {E : Value → Shared → Prop} {s : Shared} {K : Frag}
end
end Att
namespace L2
open PySem PySem.Spec PyProof.Rows
theorem vals_ints : ∀ {vs : List Value} {ns : List Int}, IntsAre vs ns → Vals (ns.map V.int) vs
  | _, _, .nil => .nil
  | _, _, .cons n t h => .cons ⟨t, rfl⟩ (vals_ints h)
def Only (H : Hp) : Prop := ∀ b, H b = none ∨ ∃ o xs, H b = some (.frz o (.lst xs))
theorem law_call {P : Program} {w : World} {K : PySem.W.Frag} {mg mb : Str → Option Value} {CX : CXT} {k : Nat} {fa a : Addr} {fd : FuncData} {x : Str} {sp : Sp} {s₁ : Shared} {vs : List Value} {ns : List Int}
    (KX : K.In s₁.heap) (hns : s₁.heap.Ns mainGlobals mg) (hb : s₁.heap.Ns builtinsNs mb) (hbb : ∀ x : Str, x ≠ "__name__" → mb x = bootBuiltins x) (hlim : s₁.heap.NoLimit) (hg : s₁.gens = #[])
    (ha : s₁.heap.get? a = some { cls := .type "list", data := .seq vs.toArray }) (hi : IntsAre vs ns) (hl : ns.length ≤ sizeLine) (hr : Room k callerA)
    (F : ∀ base : Heap, K.In base → base.Ns mainGlobals mg → FnOk P w K mg base CX k fa fd [x] sp) (hbind : ∀ (s : Shared) (u : Value), BindsTo s fd ⟨[u], []⟩ [(x, u)])
    (hsp : ∀ H : Hp, Only H → SqL K H a (ns.map V.int) → sp [.ref a] H (fun v _ => v = .bl true) fun _ _ _ => False)
    (hCX : ∀ H e s', CX [] H s₁ (fun _ _ _ => False) e s' → False) :
    codeAny (model P w) callerA (.call (.ref fa) ⟨[.ref a], []⟩) (fun r s' => r = .ok (.ret (.bool true)) ∧ OldK s₁.heap s'.heap ∧ s'.os = s₁.os ∧ AllBare s'.gens) s₁ := by
  have rv := vals_ints hi
  have lenV := hi.length
  -- from an abstract heap in which nothing but the script may be tracked
  have core : ∀ H : Hp, Only H → SqL K H a (ns.map V.int) → HOk P w H s₁.heap → (∀ b, H b ≠ none → b = a) → (H a ≠ none → K.lookup a = none) →
      codeAny (model P w) callerA (.call (.ref fa) ⟨[.ref a], []⟩) (fun r s' => r = .ok (.ret (.bool true)) ∧ OldK s₁.heap s'.heap ∧ s'.os = s₁.os ∧ AllBare s'.gens) s₁ := by
    intro H hO hS hok hA hK
    have base_of : ∀ {b : Addr} {o : Obj}, s₁.heap.get? b = some o → H b = none → (hidT s₁.heap H).get? b = some o := fun e n => hidT_get e n
    have noA : ∀ {b : Addr} {o : Obj} {es : Array DictEntry} {ep : Nat}, s₁.heap.get? b = some o → o.data = .dict es ep → H b = none := fun {b o es ep} e d => by
      cases q : H b with
      | none => rfl
      | some u =>
        have e' : b = a := hA b (by rw [q]; simp)
        subst e'
        rw [ha] at e; cases e
        have d' : Data.seq vs.toArray _ = Data.dict es ep := d
        cases d'
    have nsK : ∀ {b : Addr} {m : Str → Option Value}, s₁.heap.Ns b m → (hidT s₁.heap H).Ns b m := fun {b m} ⟨o, es, ep, e, d, r⟩ => ⟨o, es, ep, base_of e (noA e d), d, r⟩
    have hKb : K.In (hidT s₁.heap H) := fun b o e => base_of (KX b o e) (by
      cases q : H b with
      | none => rfl
      | some u =>
        have e' : b = a := hA b (by rw [q]; simp)
        subst e'
        rw [hK (by rw [q]; simp)] at e; cases e)
    have hM : Mod K mg (hidT s₁.heap H) := ⟨hKb, nsK hns, ⟨mb, nsK hb, hbb⟩, let ⟨mc, h1, h2⟩ := hlim; ⟨mc, nsK h1, h2⟩⟩
    have e0 : Env0 P w K mg (hidT s₁.heap H) callerA [] s₁ H := ⟨rfl, hM, fun b o e => of_hidT e, Nat.le_of_eq (hidT_size _ _), trivial, fun b hb => absurd (show b ∈ ([] : List Addr) from hb) (by simp), hok, .of_eq hg⟩
    refine codeAny_mono ((F _ hKb (nsK hns)).run callerA [] s₁ H ⟨[.ref a], []⟩ [.ref a] [.ref a] _ _ hr e0 (hbind s₁ (.ref a)) (.cons rfl .nil) (hsp H hO hS)) fun r s' h => ?_
    cases r with
    | error e => exact (hCX H e s' h).elim
    | ok fl =>
      cases fl with
      | next => exact False.elim h
      | brk => exact False.elim h
      | cont => exact False.elim h
      | ret u =>
        obtain ⟨v, H', os, bare, un, hok', r', q⟩ := h
        have q' : v = .bl true := q
        subst q'
        obtain rfl : u = Value.bool true := r'
        refine ⟨rfl, OldK.of_keep fun b o e => ?_, os, bare⟩
        cases q : H b with
        | none => exact un.keep b o e q (by intro z; exact absurd (show b ∈ ([] : List Addr) from z) (by simp)) (by simp)
        | some u =>
          rcases hO b with z | ⟨ob, xs, z⟩
          · rw [q] at z; cases z
          · have z2 := un.frzs b ob _ z
            obtain ⟨e1, _⟩ := hok b _ z
            obtain ⟨e2, _⟩ := hok' b _ z2
            rw [e] at e1; cases e1
            exact e2
  cases hk : K.lookup a with
  | some o =>
    -- the script is one of the module's own objects
    have e := KX a o hk
    rw [ha] at e
    cases e
    refine core (fun _ => none) (fun _ => .inl rfl) (.inr ⟨_, vs.toArray, _, hk, rfl, rfl, rfl, by rw [List.size_toArray, lenV]; exact hl, by simpa using rv⟩) (fun b u z => by have z' : (none : Option HO) = some u := z; cases z') (fun b z => absurd rfl z) fun z => absurd rfl z
  | none =>
    refine core (fun b => if b = a then some (.frz { cls := .type "list", data := .seq vs.toArray } (.lst (ns.map V.int))) else none) (fun b => ?_) (.inl (.inr ⟨{ cls := .type "list", data := .seq vs.toArray }, if_pos rfl⟩)) (fun b u z => ?_) (fun b z => ?_) fun _ => hk
    · by_cases hb : b = a
      · exact .inr ⟨_, _, if_pos hb⟩
      · exact .inl (if_neg hb)
    · by_cases hb : b = a
      · have z' := (if_pos hb).symm.trans z
        cases z'
        subst hb
        exact ⟨ha, by rw [List.length_map]; exact hl, vs, _, rv, ha⟩
      · have z' := (if_neg hb).symm.trans z
        cases z'
    · by_cases hb : b = a
      · exact hb
      · exact absurd (if_neg hb) z
end L2
namespace L2
open PySem PySem.Spec PyProof.Rows
theorem walk_of {l : PySem.W.OpenLaw} {n k : Nat} {q : Program} {loose : List Str} {XP : (Str → Option Value) → Heap → Prop} {YP : World → Heap → Prop} {d : DefRec} {K : Params → PySem.W.Frag} {CX : World → CXT} {sp : World → Sp} {x : Str}
    (hn : l.most = some n) (hn2 : n ≤ sizeLine) (hdf : d.params.defaults = []) (hr : Room k callerA)
    (hY : ∀ (w : World) (h : Heap), YP w h → (K w.params).In h)
    (F : ∀ (w : World) (mg : Str → Option Value) (fa : Addr) (h : Heap), (K w.params).In h → h.Ns mainGlobals mg → mg d.name = some (.ref fa) →
      ∃ fd : FuncData, (∀ (s : Shared) (u : Value), BindsTo s fd ⟨[u], []⟩ [(x, u)]) ∧
        ∀ base : Heap, (K w.params).In base → base.Ns mainGlobals mg → FnOk l.prog w (K w.params) mg base (CX w) k fa fd [x] (sp w))
    (hsp : ∀ (w : World) (H : Hp) (a : Addr) (ns : List Int), ns.length ≤ n → Only H → SqL (K w.params) H a (ns.map V.int) → sp w [.ref a] H (fun v _ => v = .bl true) fun _ _ _ => False)
    (hCX : ∀ (w : World) (H : Hp) (s : Shared) (e : Value) (s' : Shared), CX w [] H s (fun _ _ _ => False) e s' → False) :
    PySem.W.WalkO q loose XP YP l.row.toRowW d [] (fun f vs => PySem.call f vs) := by
  refine Att.attach_call hn hdf fun w s₀ s₁ mg mb fa o pm cd doc a vs ns G Y ho hd hcd hmg hobj hints hlen hg => ?_
  have KX := hY w _ Y
  obtain ⟨fd, hb, hF⟩ := F w mg fa _ KX G.T.g hmg
  exact law_call KX G.T.g G.T.b G.T.builtins G.T.nolimit hg hobj hints (Nat.le_trans hlen hn2) hr hF hb (fun H hO hS => hsp w H a ns hlen hO hS) fun H e s' => hCX w H s₁ e s'
end L2
namespace L2
open PySem PySem.Spec PyProof.Rows
def inClass (s : Stmt) (j : Nat) : Stmt := match s with
  | .ClassDef _ _ _ body _ _ _ _ _ _ _ => body.getD j (.Pass ⟨0, 0, 0, 0⟩)
  | _ => .Pass ⟨0, 0, 0, 0⟩
def defArgs (s : Stmt) : Arguments := match s with
  | .FunctionDef _ a _ _ _ _ _ _ _ _ => a
  | _ => { posonlyargs := [], args := [], vararg := none, kwonlyargs := [], kw_defaults := [], kwarg := none, defaults := [] }
def defBody (s : Stmt) : List Stmt := match s with
  | .FunctionDef _ _ b _ _ _ _ _ _ _ => b
  | _ => []
def defScope (s : Stmt) : Scope := match s with
  | .FunctionDef _ _ _ _ _ _ sc _ _ _ => sc
  | _ => { kind := .function, names := [], isGenerator := false, isCoroutine := false }
abbrev CX0 : CXT := fun _ _ _ _ _ _ => False
abbrev E0 : XK := fun _ _ _ => False
theorem pass0 {X : Cx} : Passes CX0 X E0 := fun _ _ _ _ _ _ _ h => h.elim
structure Fun (K : PySem.W.Frag) (x qual : Str) (st : Stmt) (f : Addr) (fd : FuncData) : Prop where
  ex : ∃ (oc : Value) (od : Option Addr) (kV doc pm : Value) (an : Option Addr) (cdv ct : Value) (osl : Array (Option Value)),
    fd = PySem.W.fnOf x qual (defArgs st) (defBody st) (defScope st) .none kV doc pm an cdv ct ∧ K.lookup f = some ⟨oc, od, .func fd, osl⟩ ∧ PySem.W.codeIn K cdv qual = true
  kp : PySem.W.keepIn K (.ref f) = true
section
variable {P : Program} {w : World} {K : PySem.W.Frag} {mg : Str → Option Value} {base : Heap}
theorem Fun.ok {x qual : Str} {st : Stmt} {f : Addr} {fd : FuncData} {N ps : List Str} {k : Nat} {sp : Sp} (F : Fun K x qual st f fd) (S : FnScope N ps (defScope st)) (len : ∀ vs H Q E, sp vs H Q E → vs.length = ps.length)
    (hbody : ∀ (cdv : Value) (A : Around) (outer : List Env) (s : Shared) (H : Hp) (vs : List V) (Q : VK) (E : XK), Room k (A.deeper (envOfC qual (defScope st) s.heap.objs.size f cdv)) → sp vs H Q E →
      ∃ t, PSs (cxOf CX0 P w K mg base N qual (defScope st) f cdv A outer s H E).nox (defBody st) t ∧ t { nx := fun _ H' => Q .non H', rt := Q } (start N vs) H) : FnOk P w K mg base CX0 (k + 1) f fd ps sp := by
  obtain ⟨oc, od, kV, doc, pm, an, cdv, ct, osl, rfl, lk, hcd⟩ := F.ex
  refine fn_of lk hcd S len fun A outer s H vs Q E hr hsp => ?_
  obtain ⟨t, h, q⟩ := hbody cdv A outer s H vs Q E hr hsp
  exact ⟨t, h.nox, q⟩
theorem Fun.binds {x qual : Str} {st : Stmt} {f : Addr} {fd : FuncData} {ps : List Str} (F : Fun K x qual st f fd)
    (h : ∀ (kV doc pm : Value) (an : Option Addr) (cdv ct : Value) (us : List Value), us.length = ps.length → bindArgs (PySem.W.fnOf x qual (defArgs st) (defBody st) (defScope st) .none kV doc pm an cdv ct) ⟨us, []⟩ = pure (ps.zip us)) : Binds K fd ps [] := by
  obtain ⟨oc, od, kV, doc, pm, an, cdv, ct, osl, rfl, lk, hcd⟩ := F.ex
  exact .all (h kV doc pm an cdv ct)
theorem fun_mk {x qual : Str} {st : Stmt} {f : Addr} {oc : Value} {od an : Option Addr} {osl : Array (Option Value)} {kV doc pm cdv ct : Value} (l : K.lookup f = some ⟨oc, od, .func (PySem.W.fnOf x qual (defArgs st) (defBody st) (defScope st) .none kV doc pm an cdv ct), osl⟩)
    (c : PySem.W.codeIn K cdv qual = true) (k : PySem.W.keepIn K (.ref f) = true) : Fun K x qual st f (PySem.W.fnOf x qual (defArgs st) (defBody st) (defScope st) .none kV doc pm an cdv ct) := ⟨⟨oc, od, kV, doc, pm, an, cdv, ct, osl, rfl, l, c⟩, k⟩
end
theorem hu_of {A : Around} {k : Nat} (hr : Room k A) : A.units + 1 < cLine := Nat.lt_of_le_of_lt (Nat.add_le_add_left (by decide : 1 ≤ 64) _) hr.units
section
variable {X : Cx}
theorem pv (i : Nat) {x : Str} {pos : Pos} (hN : X.N[i]? = some x := by rfl) (hv : Vis X.env.scope x := by first | exact Or.inl rfl | exact Or.inr (Or.inl rfl) | exact Or.inr (Or.inr rfl)) (hd : (x == ("__debug__" : Str)) = false := by decide)
    (hcd : (x == ("__classdict__" : Str)) = false := by decide) : PE X (.Name x pos) (tVar i) := pe_var hN hv hd hcd
end
end L2
end
section
set_option Elab.async false
set_option linter.all false
set_option maxRecDepth 100000
namespace L2
open PySem PySem.Spec PyProof.Rows
section
variable {κ : Type} [DecidableEq κ]
def valV (kvs : List (κ × V)) (k : κ) : Option V := (kvs.find? fun kv => decide (kv.1 = k)).map (·.2)
def putK (kvs : List (κ × V)) (k : κ) (v : V) : List (κ × V) :=
  if (kvs.any fun kv => decide (kv.1 = k)) = true then kvs.map (fun kv => if kv.1 = k then (kv.1, v) else kv) else kvs ++ [(k, v)]
theorem valV_pos {p : κ × V} {r : List (κ × V)} {k : κ} (e : p.1 = k) : valV (p :: r) k = some p.2 := by simp [valV, List.find?_cons, e]
theorem valV_neg {p : κ × V} {r : List (κ × V)} {k : κ} (e : ¬ p.1 = k) : valV (p :: r) k = valV r k := by simp [valV, List.find?_cons, e]
theorem valV_any (k : κ) : ∀ kvs : List (κ × V), (kvs.any fun kv => decide (kv.1 = k)) = (valV kvs k).isSome
  | [] => rfl
  | p :: r => by
    rw [List.any_cons]
    by_cases e : p.1 = k
    · simp only [valV_pos e, decide_eq_true e, Bool.true_or, Option.isSome_some]
    · rw [valV_neg e, decide_eq_false e, Bool.false_or]; exact valV_any k r
theorem length_putK (kvs : List (κ × V)) (k : κ) (v : V) : (putK kvs k v).length ≤ kvs.length + 1 := by
  unfold putK
  split
  · rw [List.length_map]; omega
  · rw [List.length_append, List.length_cons, List.length_nil]; omega
theorem RelO.isSome_eq {o : Option V} {u : Option Value} (r : RelO o u) : o.isSome = u.isSome := by
  cases o with
  | none => cases u with
    | none => rfl
    | some _ => exact (show False from r).elim
  | some _ => cases u with
    | none => exact (show False from r).elim
    | some _ => rfl
theorem RelO.getD {o : Option V} {u : Option Value} {d : V} {d' : Value} (r : RelO o u) (rd : RelV d d') : RelV (o.getD d) (u.getD d') := by
  cases o with
  | none => cases u with
    | none => exact rd
    | some _ => exact (show False from r).elim
  | some _ => cases u with
    | none => exact (show False from r).elim
    | some _ => exact r
theorem KV.val {kvs : List (κ × V)} {vs : List (κ × Value)} (r : KV kvs vs) (k : κ) : RelO (valV kvs k) (valueAt vs k) := by
  unfold KV at r
  induction r with
  | nil => exact True.intro
  | @cons p q ps qs h t ih =>
    obtain ⟨h1, h2⟩ := h
    by_cases e : p.1 = k
    · have e' : q.1 = k := h1.symm.trans e
      have b : valueAt (q :: qs) k = some q.2 := by simp [valueAt, List.find?_cons, e']
      rw [valV_pos e, b]; exact h2
    · have e' : ¬ q.1 = k := fun z => e (h1.trans z)
      have b : valueAt (q :: qs) k = valueAt qs k := by simp [valueAt, List.find?_cons, e']
      rw [valV_neg e, b]; exact ih
theorem KV.any {kvs : List (κ × V)} {vs : List (κ × Value)} (r : KV kvs vs) (k : κ) : (kvs.any fun kv => decide (kv.1 = k)) = vs.any fun kv => decide (kv.1 = k) := by
  unfold KV at r
  induction r with
  | nil => rfl
  | cons h t ih => rw [List.any_cons, List.any_cons, ih, h.1]
theorem KV.repl {kvs : List (κ × V)} {vs : List (κ × Value)} (r : KV kvs vs) (k : κ) {y : V} {u : Value} (ry : RelV y u) :
    KV (kvs.map fun kv => if kv.1 = k then (kv.1, y) else kv) (vs.map fun kv => if kv.1 = k then (kv.1, u) else kv) := by
  unfold KV at r ⊢
  induction r with
  | nil => exact .nil
  | @cons p q ps qs h t ih =>
    rw [List.map_cons, List.map_cons]
    refine .cons ?_ ih
    obtain ⟨h1, h2⟩ := h
    by_cases e : p.1 = k
    · rw [if_pos e, if_pos (h1.symm.trans e)]; exact ⟨h1, ry⟩
    · rw [if_neg e, if_neg (fun z => e (h1.trans z))]; exact ⟨h1, h2⟩
theorem KV.put {kvs : List (κ × V)} {vs : List (κ × Value)} (r : KV kvs vs) (k : κ) {y : V} {u : Value} (ry : RelV y u) : KV (putK kvs k y) (stored vs k u) := by
  unfold putK stored
  rw [r.any k]
  by_cases e : (vs.any fun kv => decide (kv.1 = k)) = true
  · rw [if_pos e, if_pos e]; exact r.repl k ry
  · rw [if_neg e, if_neg e]; exact Paired.snoc r ⟨rfl, ry⟩
theorem KV.length {kvs : List (κ × V)} {vs : List (κ × Value)} (r : KV kvs vs) : kvs.length = vs.length := Paired.length r
end
theorem kV_is {P : Program} {w : World} {k : Key} {u : Value} (r : RelV (kV k) u) : (mixKind P w).is k u = true := by
  cases k with
  | inl i => obtain ⟨t, e⟩ := (show ∃ t, u = Value.int i t from r); subst e; exact mixKind_int P w i t
  | inr x => obtain ⟨t, e⟩ := (show ∃ t, u = Value.str x t from r); subst e; exact mixKind_str P w x t
theorem items_are {P : Program} {w : World} : ∀ {ks : List Key} {us : List Value}, Vals (ks.map kV) us → ItemsAre (mixKind P w) ks us
  | [], _, r => by rw [List.map_nil] at r; cases r; exact .nil
  | k :: ks, _, r => by
    rw [List.map_cons] at r
    cases r with
    | cons h t => exact .cons (kV_is h) (items_are t)
abbrev KT (H : Hp) : List (List Key × V) → List (List Key × Addr × Value) → Prop := Paired fun p q => p.1 = q.1 ∧ H q.2.1 = some (.tup (p.1.map kV)) ∧ RelV p.2 q.2.2
theorem KT.val {H : Hp} {kvs : List (List Key × V)} {xs : List (List Key × Addr × Value)} (r : KT H kvs xs) (k : List Key) : RelO (valV kvs k) ((atKey xs k).map (·.2)) := by
  induction r with
  | nil => exact True.intro
  | @cons p q ps qs h t ih =>
    obtain ⟨h1, _, h2⟩ := h
    by_cases e : p.1 = k
    · have e' : q.1 = k := h1.symm.trans e
      have b : atKey (q :: qs) k = some q.2 := by simp [atKey, List.find?_cons, e']
      rw [valV_pos e, b]; exact h2
    · have e' : ¬ q.1 = k := fun z => e (h1.trans z)
      have b : atKey (q :: qs) k = atKey qs k := by simp [atKey, List.find?_cons, e']
      rw [valV_neg e, b]; exact ih
theorem KT.repl {H : Hp} {kvs : List (List Key × V)} {xs : List (List Key × Addr × Value)} (r : KT H kvs xs) (k : List Key) {y : V} {u : Value} (ry : RelV y u) :
    KT H (kvs.map fun kv => if kv.1 = k then (kv.1, y) else kv) (xs.map (putAt k u)) := by
  induction r with
  | nil => exact .nil
  | @cons p q ps qs h t ih =>
    rw [List.map_cons, List.map_cons]
    refine .cons ?_ ih
    obtain ⟨h1, h2, h3⟩ := h
    unfold putAt
    by_cases e : p.1 = k
    · rw [if_pos e, if_pos (h1.symm.trans e)]; exact ⟨h1, h2, ry⟩
    · rw [if_neg e, if_neg (fun z => e (h1.trans z))]; exact ⟨h1, h2, h3⟩
theorem KT.put {H : Hp} {kvs : List (List Key × V)} {xs : List (List Key × Addr × Value)} (r : KT H kvs xs) (k : List Key) {b : Addr} {y : V} {u : Value} (hb : H b = some (.tup (k.map kV))) (ry : RelV y u) :
    KT H (putK kvs k y) (storedH xs k b u) := by
  have e : (kvs.any fun kv => decide (kv.1 = k)) = (atKey xs k).isSome := by
    rw [valV_any, (r.val k).isSome_eq, Option.isSome_map]
  unfold putK storedH
  rw [e]
  by_cases q : (atKey xs k).isSome = true
  · rw [if_pos q, if_pos q]; exact r.repl k ry
  · rw [if_neg q, if_neg q]; exact Paired.snoc r ⟨rfl, hb, ry⟩
theorem KT.keeps {H H' : Hp} {kvs : List (List Key × V)} {xs : List (List Key × Addr × Value)} (r : KT H kvs xs) (ht : ∀ b ys, H b = some (.tup ys) → H' b = some (.tup ys)) : KT H' kvs xs :=
  Paired.mapP r fun _ _ z => ⟨z.1, ht _ _ z.2.1, z.2.2⟩
section
variable {P : Program} {w : World} {H : Hp} {h : Heap} {a : Addr}
theorem rd_of {u : HO} (ok : HOk P w H h) (e : Rd H a u) : ObjOk P w H h a u := e.ok ok
theorem dk_rd {kvs : List (Key × V)} (ok : HOk P w H h) (e : Rd H a (.dK kvs)) : kvs.length ≤ sizeLine ∧ (a == sysModules) = false ∧ ∃ vs, KV kvs vs ∧ h.DictOf (mixKind P w) a vs :=
  show ObjOk P w H h a (.dK kvs) from rd_of ok e
theorem dk_of {kvs : List (Key × V)} (ok : HOk P w H h) (e : H a = some (.dK kvs)) : kvs.length ≤ sizeLine ∧ (a == sysModules) = false ∧ ∃ vs, KV kvs vs ∧ h.DictOf (mixKind P w) a vs := dk_rd ok (.inl e)
theorem key_of {ks : List Key} (ok : HOk P w H h) (e : H a = some (.tup (ks.map kV))) : (tupleKind (mixKind P w)).is h ks a := by
  obtain ⟨_, its, r, o, h1, h2, n, h3⟩ := (show ObjOk P w H h a (.tup (ks.map kV)) from ok a _ e)
  exact ⟨o, its.toArray, n, h1, h2, h3, by simpa using items_are r⟩
theorem dt_rd {kvs : List (List Key × V)} (ok : HOk P w H h) (e : Rd H a (.dT kvs)) : kvs.length ≤ sizeLine ∧ (a == sysModules) = false ∧
    ∃ xs, KT H kvs xs ∧ h.DictOfH (tupleKind (mixKind P w)) a xs := by
  obtain ⟨z, y, xs, r, o, es, ep, h1, h2, h3, h4, h5⟩ := (show ObjOk P w H h a (.dT kvs) from rd_of ok e)
  refine ⟨z, y, xs, r, o, es, ep, h1, h2, h3, h4, fun x hx => ?_, h5⟩
  have all : ∀ {l : List (List Key × V)} {m : List (List Key × Addr × Value)}, KT H l m → ∀ x ∈ m, (tupleKind (mixKind P w)).is h x.1 x.2.1 := by
    intro l m q
    induction q with
    | nil => intro x hx; exact nomatch hx
    | @cons p q ps qs hq t ih =>
      intro x hx
      rcases List.mem_cons.mp hx with e | hx
      · subst e
        exact key_of ok (by rw [← hq.1]; exact hq.2.1)
      · exact ih x hx
  exact all r x hx
theorem dt_of {kvs : List (List Key × V)} (ok : HOk P w H h) (e : H a = some (.dT kvs)) : kvs.length ≤ sizeLine ∧ (a == sysModules) = false ∧
    ∃ xs, KT H kvs xs ∧ h.DictOfH (tupleKind (mixKind P w)) a xs := dt_rd ok (.inl e)
end
def DGet (H : Hp) (a : Addr) (y : V) (r : Option V) : Prop :=
  (∃ kvs k, Rd H a (.dK kvs) ∧ y = kV k ∧ r = valV kvs k) ∨ ∃ kvs k b, Rd H a (.dT kvs) ∧ y = .ref b ∧ H b = some (.tup (k.map kV)) ∧ r = valV kvs k
def DPut (H : Hp) (a : Addr) (y v : V) (H' : Hp) : Prop :=
  (∃ kvs k, H a = some (.dK kvs) ∧ y = kV k ∧ kvs.length < sizeLine ∧ H' = upd H a (.dK (putK kvs k v))) ∨
  ∃ kvs k b, H a = some (.dT kvs) ∧ y = .ref b ∧ H b = some (.tup (k.map kV)) ∧ kvs.length < sizeLine ∧ H' = upd H a (.dT (putK kvs k v))
theorem DGet.k {H : Hp} {a : Addr} {kvs : List (Key × V)} {k : Key} (e : H a = some (.dK kvs)) : DGet H a (kV k) (valV kvs k) := .inl ⟨kvs, k, .inl e, rfl, rfl⟩
theorem DPut.k {H : Hp} {a : Addr} {kvs : List (Key × V)} {k : Key} {v : V} (e : H a = some (.dK kvs)) (hl : kvs.length < sizeLine) : DPut H a (kV k) v (upd H a (.dK (putK kvs k v))) := .inl ⟨kvs, k, e, rfl, hl, rfl⟩
section
variable {X : Cx} {pins : List (Addr × Obj)} {σ : St} {H : Hp} {s : Shared} {a : Addr} {y v : V} {u r : Value} {o : Option V} {A : Around} {E : Value → Shared → Prop}
theorem Inv.big (I : Inv X pins σ H s) : sysModules < s.heap.objs.size := by
  have h : mainGlobals < s.heap.objs.size := (I.mod.glob.keeps I.bk).lt
  exact Nat.lt_trans (by decide) h
theorem d_notIn {Q : Value → Shared → Prop} (hu : A.units + 1 < cLine) (I : Inv X pins σ H s) (g : DGet H a y o) (ry : RelV y u) (h : ∀ s', Inv X pins σ H s' → Q (.bool (!o.isSome)) s') :
    wpAny (model X.prog X.w) A (compareOp .NotIn u (.ref a)) Q E s := by
  rcases g with ⟨kvs, k, e, ey, l⟩ | ⟨kvs, k, b, e, ey, eb, l⟩
  · subst ey
    obtain ⟨z, hd, vs, rel, dd⟩ := dk_rd I.hok e
    refine wpAny_notIn_of (kV_is ry) hd dd.mapOf ?_
    rw [← (rel.val k).isSome_eq, ← l]
    exact h _ (I.tok _)
  · subst ey
    cases (show u = Value.ref b from ry)
    obtain ⟨z, hd, xs, rel, dd⟩ := dt_rd I.hok e
    refine wpAny_notIn_heap (tupleKind_room_in1 hu) (key_of I.hok eb) hd dd ?_
    have q := (rel.val k).isSome_eq
    rw [Option.isSome_map] at q
    rw [← q, ← l]
    exact h _ (I.tok _)
theorem d_write {h' : Heap} {t' : Nat} {ob : HO} (I : Inv X pins σ H s) (mu : Mut (H a)) (hs : Heap.SameBut a s.heap h') (he : ∃ q, h'.get? a = some q) (new : ObjOk X.prog X.w (upd H a ob) h' a ob) :
    Inv X pins σ (upd H a ob) { s with heap := h', toks := t' } :=
  I.write (x := a) (e := a) mu (.inl rfl) (fun b q hb z => (hs.2 b hb).trans z) he new
theorem dk_new {P : Program} {w : World} {H' : Hp} {h' : Heap} {kvs : List (Key × V)} {vs : List (Key × Value)} (z : kvs.length ≤ sizeLine) (hd : (a == sysModules) = false) (rel : KV kvs vs) (dd : h'.DictOf (mixKind P w) a vs) :
    ObjOk P w H' h' a (.dK kvs) := ⟨z, hd, vs, rel, dd⟩
theorem d_setItem {H' : Hp} {Q : Unit → Shared → Prop} (hu : A.units + 1 < cLine) (I : Inv X pins σ H s) (g : DPut H a y v H') (ry : RelV y u) (rv : RelV v r) (h : ∀ s', Inv X pins σ H' s' → Q () s') :
    wpAny (model X.prog X.w) A (setItem (.ref a) u r) Q E s := by
  rcases g with ⟨kvs, k, e, ey, l, eH⟩ | ⟨kvs, k, b, e, ey, eb, l, eH⟩
  · subst ey eH
    obtain ⟨z, hd, vs, rel, dd⟩ := dk_of I.hok e
    have hz : vs.length ≤ sizeLine := by rw [← rel.length]; exact z
    have hl : (putK kvs k v).length ≤ sizeLine := by have := length_putK kvs k v; omega
    refine wpAny_setItem_pairs (hsz := hz) (kV_is ry) dd fun h' dd' hs => h _ ?_
    have he : ∃ q, h'.get? a = some q := let ⟨q, _, _, hq, _⟩ := dd'; ⟨q, hq⟩
    exact d_write I (by rw [e]; exact True.intro) hs he (dk_new hl hd (rel.put k rv) dd')
  · subst ey eH
    cases (show u = Value.ref b from ry)
    obtain ⟨z, hd, xs, rel, dd⟩ := dt_of I.hok e
    have hz : xs.length ≤ sizeLine := by rw [← Paired.length rel]; exact z
    have hl : (putK kvs k v).length ≤ sizeLine := by have := length_putK kvs k v; omega
    refine wpAny_setItem_heap (hsz := hz) (tupleKind_room_in1 hu) (key_of I.hok eb) dd fun h' dd' hs => h _ ?_
    obtain ⟨q, es, ep, hq, h2, h3, h4, _, h5⟩ := dd'
    refine d_write I (by rw [e]; exact True.intro) hs ⟨q, hq⟩ ⟨hl, hd, _, (rel.put k eb rv).keeps fun c ys ec => ?_, q, es, ep, hq, h2, h3, h4, h5⟩
    rw [upd_ne (ne_of ec e (fun z => nomatch z))]
    exact ec
end
section
variable {X : Cx} {pins : List (Addr × Obj)} {σ : St} {H : Hp} {s : Shared} {a : Addr} {kvs : List (Key × V)} {k : Key} {u : Value} {A : Around} {E : Value → Shared → Prop}
end
def sDPut (td ty tv : TE) : TS := fun D σ H => tv σ H fun v H1 => td σ H1 fun x H2 => ty σ H2 fun y H3 => ∃ a H4, x = .ref a ∧ DPut H3 a y v H4 ∧ D.nx σ H4
section
variable {X : Cx} {o i e value : Expr} {pos pos' tpos : Pos} {td ty tv : TE}
theorem ps_dput (hu : X.A.units + 1 < cLine) (ho : PE X o td) (hi : PE X i ty) (hv : PE X value tv) (hs : swapsWith value (some (.Subscript o i pos')) pos.line X.env = pure false) :
    PS X (.Assign [.Subscript o i pos'] value pos) (sDPut td ty tv) := by
  intro pins s σ H D I h
  refine wpAny_Assign_Subscript (thn (hv pins s σ H _ I h) fun r s1 ⟨v, H1, I1, rv, q1⟩ => thn (ho pins s1 σ H1 _ I1 q1) fun u s2 ⟨x, H2, I2, rx, q2⟩ => thn (hi pins s2 σ H2 _ I2 q2) fun iv s3 ⟨y, H3, I3, ry, a, H4, ex, g, q3⟩ => ?_) hs
  subst ex
  obtain rfl : u = Value.ref a := rx
  exact d_setItem hu I3 g ry rv fun s4 I4 => ⟨σ, H4, I4, q3⟩
end
theorem dk_empty {P : Program} {w : World} {H : Hp} (h : Heap) (hb : sysModules < h.objs.size) : ObjOk P w H (h.push { cls := .type "dict", data := .dict #[] }) h.objs.size (.dK []) :=
  ⟨Nat.zero_le _, beq_eq_false_iff_ne.mpr (Ne.symm (Nat.ne_of_lt hb)), [], .nil, Heap.DictOf.new h⟩
def tDNewK : TE := fun _ H Q => ∀ p, H p = none → Q (.ref p) (upd H p (.dK []))
section
variable {X : Cx} {pos : Pos}
theorem pe_dnewK : PE X (.Dict [] [] pos) tDNewK := fun pins s σ H Q I h =>
  wpAny_Dict_empty ⟨.ref s.heap.objs.size, _, I.laid (a := s.heap.objs.size) (o := .dK []) (t' := s.toks) (fun _ _ q => Heap.get?_push_of_some _ q) (Nat.le_refl _) (dk_empty s.heap I.big), rfl, h _ (I.hok.fresh (Nat.le_refl _))⟩
end
structure M1 (X : Cx) (o : Expr) (m : Str) (apos : Pos) (e : Expr) (cpos : Pos) : Prop where
  base : attributeBase o m X.env (eval o X.env) = eval o X.env
  few : ((backTo cpos (starEach [e] X.env)).all (fun x => !x.1) && (backToKw cpos (keywordEach [] X.env)).all (fun x => x.1.isSome)
    && decide (([e] : List Expr).length + ([] : List Keyword).length + (if ([] : List Keyword).isEmpty then 0 else 1) < 30)) = true
  line : (apos.endLine == cpos.line) = true
  trees : backTo cpos (starEach [e] X.env) = [(false, eval e X.env)]
structure M2 (X : Cx) (o : Expr) (m : Str) (apos : Pos) (e f : Expr) (cpos : Pos) : Prop where
  base : attributeBase o m X.env (eval o X.env) = eval o X.env
  few : ((backTo cpos (starEach [e, f] X.env)).all (fun x => !x.1) && (backToKw cpos (keywordEach [] X.env)).all (fun x => x.1.isSome)
    && decide (([e, f] : List Expr).length + ([] : List Keyword).length + (if ([] : List Keyword).isEmpty then 0 else 1) < 30)) = true
  line : (apos.endLine == cpos.line) = true
  trees : backTo cpos (starEach [e, f] X.env) = [(false, eval e X.env), (false, eval f X.env)]
def IsD (H : Hp) (a : Addr) : Prop := (∃ kvs, Rd H a (.dK kvs)) ∨ ∃ kvs, Rd H a (.dT kvs)
theorem isD_at {X : Cx} {pins : List (Addr × Obj)} {σ : St} {H : Hp} {s : Shared} {a : Addr} (I : Inv X pins σ H s) (d : IsD H a) :
    s.TypeIs (.ref a) "dict" ∧ (∀ b, Value.ref a = .ref b → ∃ ob, s.heap.get? b = some ob ∧ ob.dict = none) ∧ (a == sysModules) = false := by
  rcases d with ⟨kvs, e⟩ | ⟨kvs, e⟩
  · obtain ⟨_, hd, vs, _, dd⟩ := dk_rd I.hok e
    refine ⟨dd.typeIs, fun b q => ?_, hd⟩
    cases q
    obtain ⟨ob, _, _, h1, h2, _⟩ := dd
    exact ⟨ob, h1, h2.2.1⟩
  · obtain ⟨_, hd, xs, _, dd⟩ := dt_rd I.hok e
    refine ⟨dd.typeIs, fun b q => ?_, hd⟩
    cases q
    obtain ⟨ob, _, _, h1, h2, _⟩ := dd
    exact ⟨ob, h1, h2.2.1⟩
section
variable {X : Cx} {pins : List (Addr × Obj)} {σ : St} {H : Hp} {s : Shared} {a : Addr} {y d : V} {u r : Value} {o : Option V} {A : Around} {E : Value → Shared → Prop}
theorem d_get1 {Q : Value → Shared → Prop} (hu : A.units + 1 < cLine) (I : Inv X pins σ H s) (g : DGet H a y o) (ry : RelV y u) (h : ∀ w' s', Inv X pins σ H s' → RelV (o.getD .non) w' → Q w' s') :
    wpAny (model X.prog X.w) A (call (.builtin "dict.get") [.ref a, u]) Q E s := by
  rcases g with ⟨kvs, k, e, ey, l⟩ | ⟨kvs, k, b, e, ey, eb, l⟩
  · subst ey
    obtain ⟨z, hd, vs, rel, dd⟩ := dk_rd I.hok e
    refine call_meetsIn PySem.F.slot_dict_get dd.typeIs PySem.F.entry_dict_get (PySem.F.args_dict_get_2 _ _) (meets_dict_get (mixKind X.prog X.w) a (kV_is ry) hd) ⟨_, dd.mapOf, h _ _ (I.tok _) ?_⟩
    rw [l]
    exact (rel.val k).getD rfl
  · subst ey
    cases (show u = Value.ref b from ry)
    obtain ⟨z, hd, xs, rel, dd⟩ := dt_rd I.hok e
    refine call_meetsIn PySem.F.slot_dict_get dd.typeIs PySem.F.entry_dict_get (PySem.F.args_dict_get_2 _ _) (meetsH_dict_get (tupleKind (mixKind X.prog X.w)) a b hd) ⟨tupleKind_room_in1 hu, k, xs, key_of I.hok eb, dd, h _ _ (I.tok _) ?_⟩
    rw [l]
    exact (rel.val k).getD rfl
theorem d_get2 {Q : Value → Shared → Prop} (hu : A.units + 1 < cLine) (I : Inv X pins σ H s) (g : DGet H a y o) (ry : RelV y u) (rd : RelV d r) (h : ∀ w' s', Inv X pins σ H s' → RelV (o.getD d) w' → Q w' s') :
    wpAny (model X.prog X.w) A (call (.builtin "dict.get") [.ref a, u, r]) Q E s := by
  rcases g with ⟨kvs, k, e, ey, l⟩ | ⟨kvs, k, b, e, ey, eb, l⟩
  · subst ey
    obtain ⟨z, hd, vs, rel, dd⟩ := dk_rd I.hok e
    refine call_meetsIn PySem.F.slot_dict_get dd.typeIs PySem.F.entry_dict_get (PySem.F.args_dict_get_3 _ _ _) (meets_dict_get_default (mixKind X.prog X.w) a (kV_is ry) hd r) ⟨_, dd.mapOf, h _ _ (I.tok _) ?_⟩
    rw [l]
    exact (rel.val k).getD rd
  · subst ey
    cases (show u = Value.ref b from ry)
    obtain ⟨z, hd, xs, rel, dd⟩ := dt_rd I.hok e
    refine call_meetsIn PySem.F.slot_dict_get dd.typeIs PySem.F.entry_dict_get (PySem.F.args_dict_get_3 _ _ _) (meetsH_dict_get_default (tupleKind (mixKind X.prog X.w)) a b hd r) ⟨tupleKind_room_in1 hu, k, xs, key_of I.hok eb, dd, h _ _ (I.tok _) ?_⟩
    rw [l]
    exact (rel.val k).getD rd
end
def tDGet1 (td ty : TE) : TE := fun σ H Q => td σ H fun x H1 => ∃ a, x = .ref a ∧ IsD H1 a ∧ ty σ H1 fun y H2 => ∃ o, DGet H2 a y o ∧ Q (o.getD .non) H2
def tDGet2 (td ty tx : TE) : TE := fun σ H Q => td σ H fun x H1 => ∃ a, x = .ref a ∧ IsD H1 a ∧ ty σ H1 fun y H2 => tx σ H2 fun z H3 => ∃ o, DGet H3 a y o ∧ Q (o.getD z) H3
section
variable {X : Cx} {o e f : Expr} {apos cpos : Pos} {td ty tx : TE}
theorem pe_dget1 (hu : X.A.units + 1 < cLine) (ho : PE X o td) (he : PE X e ty) (m : M1 X o "get" apos e cpos) : PE X (.Call (.Attribute o "get" apos) [e] [] cpos) (tDGet1 td ty) := by
  intro pins s σ H Q I h
  refine wpAny_Call_method m.base m.few m.line PySem.F.plainAttrs_dict PySem.F.slot_dict_get PySem.F.type_dict_get (thn (ho pins s σ H _ I h) fun u s1 ⟨x, H1, I1, rx, a, ex, d, q1⟩ => ?_)
  subst ex
  obtain rfl : u = Value.ref a := rx
  obtain ⟨t1, t2, _⟩ := isD_at I1 d
  refine ⟨t1, t2, ?_⟩
  rw [m.trees]
  refine Calls.callWith_builtin rfl (Calls.evalArgs_plain (Calls.spliced_cons (thn (he pins s1 σ H1 _ I1 q1) fun iv s2 ⟨y, H2, I2, ry, ov, g, q2⟩ => Calls.spliced_nil ?_)))
  exact d_get1 hu I2 g ry fun w' s3 I3 rw' => ⟨_, H2, I3, rw', q2⟩
theorem pe_dget2 (hu : X.A.units + 1 < cLine) (ho : PE X o td) (he : PE X e ty) (hf : PE X f tx) (m : M2 X o "get" apos e f cpos) : PE X (.Call (.Attribute o "get" apos) [e, f] [] cpos) (tDGet2 td ty tx) := by
  intro pins s σ H Q I h
  refine wpAny_Call_method m.base m.few m.line PySem.F.plainAttrs_dict PySem.F.slot_dict_get PySem.F.type_dict_get (thn (ho pins s σ H _ I h) fun u s1 ⟨x, H1, I1, rx, a, ex, d, q1⟩ => ?_)
  subst ex
  obtain rfl : u = Value.ref a := rx
  obtain ⟨t1, t2, _⟩ := isD_at I1 d
  refine ⟨t1, t2, ?_⟩
  rw [m.trees]
  refine Calls.callWith_builtin rfl (Calls.evalArgs_plain (Calls.spliced_cons (thn (he pins s1 σ H1 _ I1 q1) fun iv s2 ⟨y, H2, I2, ry, q2⟩ =>
    Calls.spliced_cons (thn (hf pins s2 σ H2 _ I2 q2) fun fv s3 ⟨z, H3, I3, rz, ov, g, q3⟩ => Calls.spliced_nil ?_))))
  exact d_get2 hu I3 g ry rz fun w' s4 I4 rw' => ⟨_, H3, I4, rw', q3⟩
end
section
variable {X : Cx} {pins : List (Addr × Obj)} {σ : St} {H : Hp} {s : Shared} {a : Addr} {kvs : List (Key × V)} {A : Around} {E : Value → Shared → Prop}
end
section
variable {X : Cx} {pins : List (Addr × Obj)} {σ : St} {H : Hp} {s : Shared} {a : Addr} {y : V} {u : Value} {A : Around} {E : Value → Shared → Prop}
end
end L2
end
section
set_option autoImplicit false
namespace VM
inductive W where
  | non
  | bl (b : Bool)
  | int (i : Int)
  | str (x : List Nat)
  | ref (a : Nat)
  deriving DecidableEq, Inhabited
inductive O where
  | lst (xs : List W)
  | frz (xs : List W)
  | tup (xs : List W)
    | dct (kvs : List (Int × W))
  | ins (c : List Nat) (fs : List (List Nat × W))
  | fnv (x : List Nat)
  deriving DecidableEq, Inhabited
abbrev Mem := List O
abbrev St := List (Option W)
inductive R (α : Type) where
  | ok (a : α) (M : Mem)
  | ex (v : W) (M : Mem)
  | bad
def R.bind {α β : Type} : R α → (α → Mem → R β) → R β
  | .ok a M, f => f a M
  | .ex v M, _ => .ex v M
  | .bad, _ => .bad
def R.noex {α : Type} : R α → R α
  | .ex _ _ => .bad
  | r => r
inductive RS where
  | nx (σ : St) (M : Mem)
  | rt (v : W) (M : Mem)
  | bk (σ : St) (M : Mem)
  | ct (σ : St) (M : Mem)
  | ex (v : W) (M : Mem)
  | bad
def R.bindS {α : Type} : R α → (α → Mem → RS) → RS
  | .ok a M, f => f a M
  | .ex v M, _ => .ex v M
  | .bad, _ => .bad
abbrev EM := St → Mem → R W
abbrev TM := St → Mem → R Bool
abbrev AM := St → Mem → R (List W)
abbrev SM := St → Mem → RS
abbrev GM := W → St → Mem → R St
abbrev OpM := W → W → Mem → R W
abbrev CM := List W → Mem → R W
abbrev lim : Nat := 16777216
def two64 : Nat := 18446744073709551616
def newL (xs : List W) (M : Mem) : R W := if xs.length ≤ lim then .ok (.ref M.length) (M ++ [.lst xs]) else .bad
def newT (xs : List W) (M : Mem) : R W := if xs.length ≤ lim then .ok (.ref M.length) (M ++ [.tup xs]) else .bad
def lstOf (M : Mem) : W → Option (List W)
  | .ref a => match M[a]? with
    | some (.lst xs) => some xs
    | some (.frz xs) => some xs
    | _ => none
  | _ => none
def tupOf (M : Mem) : W → Option (List W)
  | .ref a => match M[a]? with
    | some (.tup xs) => some xs
    | _ => none
  | _ => none
def seqOf (M : Mem) (v : W) : Option (List W) := match lstOf M v with
  | some xs => some xs
  | none => tupOf M v
def mutOf (M : Mem) : W → Option (Nat × List W)
  | .ref a => match M[a]? with
    | some (.lst xs) => some (a, xs)
    | _ => none
  | _ => none
def eVar (i : Nat) : EM := fun σ M => match σ[i]? with
  | some (some v) => .ok v M
  | _ => .bad
def eC (v : W) : EM := fun _ M => .ok v M
def aNil : AM := fun _ M => .ok [] M
def aCons (e : EM) (a : AM) : AM := fun σ M => (e σ M).bind fun x M1 => (a σ M1).bind fun xs M2 => .ok (x :: xs) M2
def eLst (a : AM) : EM := fun σ M => (a σ M).bind newL
def eTup (a : AM) : EM := fun σ M => (a σ M).bind newT
def eOp (f : OpM) (a b : EM) : EM := fun σ M => (a σ M).bind fun x M1 => (b σ M1).bind fun y M2 => f x y M2
def oAdd : OpM
  | .int i, .int j, M => .ok (.int (i + j)) M
  | .ref a, .ref b, M => match mutOf M (.ref a), mutOf M (.ref b) with
    | some (_, xs), some (_, ys) => newL (xs ++ ys) M
    | _, _ => .bad
  | _, _, _ => .bad
def oSub : OpM
  | .int i, .int j, M => .ok (.int (i - j)) M
  | _, _, _ => .bad
def oMul : OpM
  | .int i, .int j, M => if i.natAbs < two64 ∨ j.natAbs < two64 then .ok (.int (i * j)) M else .bad
  | _, _, _ => .bad
def oDiv : OpM
  | .int i, .int j, M => if 0 < j ∧ j.natAbs < 1073741824 then .ok (.int (i / j)) M else .bad
  | _, _, _ => .bad
def oMod : OpM
  | .int i, .int j, M => if 0 < j then .ok (.int (i % j)) M else .bad
  | _, _, _ => .bad
def oPow : OpM
  | .int i, .int j, M => if 0 ≤ j ∧ j.natAbs ≤ 1000000 ∧ i.natAbs < two64 then .ok (.int (i ^ j.toNat)) M else .bad
  | _, _, _ => .bad
def eNeg (a : EM) : EM := fun σ M => (a σ M).bind fun x M1 => match x with
  | .int i => .ok (.int (-i)) M1
  | _ => .bad
def scal : W → W → Bool
  | .non, .non => true | .non, .int _ => true | .int _, .non => true | .non, .bl _ => true | .bl _, .non => true | .non, .str _ => true | .str _, .non => true
  | .int _, .int _ => true | .bl _, .bl _ => true | .str _, .str _ => true
  | .int _, .str _ => true | .str _, .int _ => true | .bl _, .str _ => true | .str _, .bl _ => true
  | _, _ => false
def flat : W → Bool
  | .ref _ => false
  | _ => true
def eqW : W → W → Bool
  | .non, .non => true
  | .bl a, .bl b => a == b
  | .bl a, .int b => (if a then 1 else 0) == b
  | .int a, .bl b => a == (if b then 1 else 0)
  | .int a, .int b => a == b
  | .str a, .str b => a == b
  | _, _ => false
def eqWs : List W → List W → Bool
  | [], [] => true
  | x :: xs, y :: ys => eqW x y && eqWs xs ys
  | _, _ => false
def eqSeq (xs ys : List W) : Option Bool :=
  if xs.length ≠ ys.length then some false
  else if xs.all flat && ys.all flat then some (eqWs xs ys) else none
def eqTup (xs ys : List W) : Option Bool :=
  if xs.all flat && ys.all flat then some (eqWs xs ys)
  else if xs.length = 0 ∨ ys.length = 0 then some (decide (xs.length = ys.length)) else none
def isNon : W → Bool
  | .non => true
  | _ => false
def eqO (M : Mem) (x y : W) : Option Bool :=
  if scal x y then some (decide (x = y))
  else match lstOf M x, lstOf M y with
    | some xs, some ys => eqSeq xs ys
    | _, _ => match tupOf M x, tupOf M y with
      | some xs, some ys => eqTup xs ys
      | _, _ => none
def nonL (M : Mem) (x y : W) : Bool := isNon x && (lstOf M y).isSome
def oEq : OpM := fun x y M => match eqO M x y with
  | some b => .ok (.bl b) M
  | none => if nonL M x y then .ok (.bl false) M else .bad
def oNe : OpM := fun x y M => match eqO M x y with
  | some b => .ok (.bl (!b)) M
  | none => .bad
def oInt (p : Int → Int → Bool) : OpM
  | .int i, .int j, M => .ok (.bl (p i j)) M
  | _, _, _ => .bad
def oLt : OpM := oInt fun i j => decide (i < j)
def oLe : OpM := oInt fun i j => decide (i ≤ j)
def oGt : OpM := oInt fun i j => decide (j < i)
def oGe : OpM := oInt fun i j => decide (j ≤ i)
def eChain (f g : OpM) (a b c : EM) : EM := fun σ M => (a σ M).bind fun x M1 => (b σ M1).bind fun y M2 => (f x y M2).bind fun z M3 => match z with
  | .bl k => if k then (c σ M3).bind fun w M4 => g y w M4 else .ok (.bl false) M3
  | _ => .bad
def eIsN (a : EM) : EM := fun σ M => (a σ M).bind fun x M1 => .ok (.bl (isNon x)) M1
def eNotN (a : EM) : EM := fun σ M => (a σ M).bind fun x M1 => .ok (.bl (!isNon x)) M1
def inW (x : W) (xs : List W) : Bool := xs.any fun y => eqW y x
def oIn : OpM := fun x y M => match seqOf M y with
  | some xs => if flat x && xs.all flat then .ok (.bl (inW x xs)) M else .bad
  | none => .bad
def oNotIn : OpM := fun x y M => match seqOf M y with
  | some xs => if flat x && xs.all flat then .ok (.bl (!inW x xs)) M else .bad
  | none => .bad
def ixN (n : Nat) (i : Int) : Option Nat := if 0 ≤ i then (if i < n then some i.toNat else none) else if -(n : Int) ≤ i then some (i + n).toNat else none
def atI {α : Type} (xs : List α) (i : Int) : Option α := (ixN xs.length i).bind fun j => xs[j]?
def oIx : OpM
  | x, .int i, M => match seqOf M x with
    | some xs => match atI xs i with
      | some v => .ok v M
      | none => .bad
    | none => .bad
  | _, _, _ => .bad
def sIx (n d : Nat) : Option Int → Nat
  | none => d
  | some v => if v < 0 then (v + (n : Int)).toNat else min v.toNat n
def cut {α : Type} (xs : List α) (lo hi : Option Int) : List α := (xs.drop (sIx xs.length 0 lo)).take (sIx xs.length xs.length hi - sIx xs.length 0 lo)
abbrev PM := St → Mem → R (Option Int)
def pNone : PM := fun _ M => .ok none M
def pSome (e : EM) : PM := fun σ M => (e σ M).bind fun x M1 => match x with
  | .int i => .ok (some i) M1
  | _ => .bad
def cutO (x : W) (lo hi : Option Int) (M : Mem) : R W := match lstOf M x with
  | some xs => newL (cut xs lo hi) M
  | none => match tupOf M x with
    | some xs => if sIx xs.length 0 lo = 0 ∧ sIx xs.length xs.length hi = xs.length then .bad else newT (cut xs lo hi) M
    | none => .bad
def eSl (e : EM) (l h : PM) : EM := fun σ M => (e σ M).bind fun x M1 => (l σ M1).bind fun lo M2 => (h σ M2).bind fun hi M3 => cutO x lo hi M3
def tB (e : EM) : TM := fun σ M => (e σ M).bind fun x M1 => match x with
  | .bl b => .ok b M1
  | _ => .bad
def tAnd (a b : TM) : TM := fun σ M => (a σ M).bind fun c M1 => if c then b σ M1 else .ok false M1
def tOr (a b : TM) : TM := fun σ M => (a σ M).bind fun c M1 => if c then .ok true M1 else b σ M1
def tNot (a : TM) : TM := fun σ M => (a σ M).bind fun c M1 => .ok (!c) M1
def eAnd (a b : EM) : EM := fun σ M => (a σ M).bind fun x M1 => match x with
  | .bl c => if c then b σ M1 else .ok (.bl false) M1
  | _ => .bad
def eOr (a b : EM) : EM := fun σ M => (a σ M).bind fun x M1 => match x with
  | .bl c => if c then .ok (.bl true) M1 else b σ M1
  | _ => .bad
def eNot (a : EM) : EM := fun σ M => (a σ M).bind fun x M1 => match x with
  | .bl c => .ok (.bl (!c)) M1
  | _ => .bad
def eIf (t : TM) (a b : EM) : EM := fun σ M => (t σ M).bind fun c M1 => if c then a σ M1 else b σ M1
def eCall (f : CM) (a : AM) : EM := fun σ M => (a σ M).bind f
def fLen : CM := fun vs M => match vs with
  | [x] => match seqOf M x with
    | some xs => .ok (.int xs.length) M
    | none => .bad
  | _ => .bad
def fList : CM := fun vs M => match vs with
  | [x] => match seqOf M x with
    | some xs => newL xs M
    | none => .bad
  | _ => .bad
def fInt : CM := fun vs M => match vs with
  | [.int i] => .ok (.int i) M
  | [.bl b] => .ok (.int (if b then 1 else 0)) M
  | _ => .bad
def intsOf : List W → Option (List Int)
  | [] => some []
  | .int i :: r => (intsOf r).map (i :: ·)
  | _ => none
def fSum : CM := fun vs M => match vs with
  | [x] => match (lstOf M x).bind intsOf with
    | some ns => .ok (.int ns.sum) M
    | none => .bad
  | _ => .bad
inductive Kd where
  | int | bool | str | list | tuple
  deriving DecidableEq
def isKd (M : Mem) (x : W) : Kd → Option Bool := fun k => match x with
  | .non => some false
  | .bl _ => some (decide (k = .bool ∨ k = .int))
  | .int _ => some (decide (k = .int))
  | .str _ => some (decide (k = .str))
  | .ref a => match M[a]? with
    | some (.lst _) => some (decide (k = .list))
    | some (.tup _) => some (decide (k = .tuple))
    | _ => none
def anyKd (M : Mem) (x : W) : List Kd → Option Bool
  | [] => some false
  | k :: r => match isKd M x k, anyKd M x r with
    | some a, some b => some (a || b)
    | _, _ => none
def eIs (ks : List Kd) (a : EM) : EM := fun σ M => (a σ M).bind fun x M1 => match anyKd M1 x ks with
  | some b => .ok (.bl b) M1
  | none => .bad
def eMeth (f : W → CM) (o : EM) (a : AM) : EM := fun σ M => (o σ M).bind fun x M1 => match lstOf M1 x with
  | some _ => (a σ M1).bind fun vs M2 => f x vs M2
  | none => .bad
def mAppend (x : W) : CM := fun vs M => match vs, mutOf M x with
  | [y], some (a, xs) => if xs.length < lim then .ok .non (M.set a (.lst (xs ++ [y]))) else .bad
  | _, _ => .bad
def litOf (M : Mem) : W → Option (List W)
  | .ref a => match M[a]? with
    | some (.lst xs) => some xs
    | some (.tup xs) => some xs
    | _ => none
  | _ => none
def mExtend (x : W) : CM := fun vs M => match vs with
  | [y] => match mutOf M x, litOf M y with
    | some (a, xs), some ys => if xs.length + ys.length ≤ lim then .ok .non (M.set a (.lst (xs ++ ys))) else .bad
    | _, _ => .bad
  | _ => .bad
def mPop (x : W) : CM := fun vs M => match vs, mutOf M x with
  | [], some (a, xs) => match xs[xs.length - 1]? with
    | some y => .ok y (M.set a (.lst xs.dropLast))
    | none => .bad
  | _, _ => .bad
def two62' : Nat := 4611686018427387904
def mPopAt (x : W) : CM := fun vs M => match vs with
  | [.int i] => match mutOf M x with
    | some (a, xs) => match ixN xs.length i with
      | some k => match xs[k]? with
        | some y => if i.natAbs < two62' then .ok y (M.set a (.lst (xs.eraseIdx k))) else .bad
        | none => .bad
      | none => .bad
    | none => .bad
  | _ => .bad
def dctOf (M : Mem) : W → Option (Nat × List (Int × W))
  | .ref a => match M[a]? with
    | some (.dct kvs) => some (a, kvs)
    | _ => none
  | _ => none
def dval (kvs : List (Int × W)) (k : Int) : Option W := (kvs.find? fun kv => decide (kv.1 = k)).map (·.2)
def dput (kvs : List (Int × W)) (k : Int) (v : W) : List (Int × W) :=
  if (kvs.any fun kv => decide (kv.1 = k)) = true then kvs.map (fun kv => if kv.1 = k then (kv.1, v) else kv) else kvs ++ [(k, v)]
def ddrop (kvs : List (Int × W)) (k : Int) : List (Int × W) := kvs.filter fun kv => decide (kv.1 ≠ k)
def eDNew : EM := fun _ M => .ok (.ref M.length) (M ++ [.dct []])
def dGet (x y : W) (M : Mem) : R W := match y, dctOf M x with
  | .int i, some (_, kvs) => match dval kvs i with
    | some v => .ok v M
    | none => .bad
  | _, _ => .bad
def eDGet (d k : EM) : EM := fun σ M => (d σ M).bind fun x M1 => (k σ M1).bind fun y M2 => dGet x y M2
def dGetD (x y z : W) (M : Mem) : R W := match y, dctOf M x with
  | .int i, some (_, kvs) => .ok ((dval kvs i).getD z) M
  | _, _ => .bad
def dSetD (x y z : W) (M : Mem) : R W := match y, dctOf M x with
  | .int i, some (a, kvs) => match dval kvs i with
    | some v => .ok v M
    | none => if kvs.length < lim then .ok z (M.set a (.dct (dput kvs i z))) else .bad
  | _, _ => .bad
def dPop (x y : W) (M : Mem) : R W := match y, dctOf M x with
  | .int i, some (a, kvs) => match dval kvs i with
    | some v => .ok v (M.set a (.dct (ddrop kvs i)))
    | none => .bad
  | _, _ => .bad
def isDct (M : Mem) (x : W) : Bool := (dctOf M x).isSome
def eD1 (f : W → W → Mem → R W) (d k : EM) : EM := fun σ M => (d σ M).bind fun x M1 => if isDct M1 x then (k σ M1).bind fun y M2 => f x y M2 else .bad
def eD2 (f : W → W → W → Mem → R W) (d k e : EM) : EM := fun σ M => (d σ M).bind fun x M1 => if isDct M1 x then (k σ M1).bind fun y M2 => (e σ M2).bind fun z M3 => f x y z M3 else .bad
def dIn (neg : Bool) (y x : W) (M : Mem) : R W := match y, dctOf M x with
  | .int i, some (_, kvs) => .ok (.bl ((dval kvs i).isSome != neg)) M
  | _, _ => .bad
abbrev eDIn (neg : Bool) (k d : EM) : EM := eOp (dIn neg) k d
def dPut (x y v : W) (σ : St) (M : Mem) : RS := match y, dctOf M x with
  | .int i, some (a, kvs) => if kvs.length < lim then .nx σ (M.set a (.dct (dput kvs i v))) else .bad
  | _, _ => .bad
def sDPut (d k e : EM) : SM := fun σ M => (e σ M).bindS fun v M1 => (d σ M1).bindS fun x M2 => (k σ M2).bindS fun y M3 => dPut x y v σ M3
def insOf (M : Mem) : W → Option (Nat × List Nat × List (List Nat × W))
  | .ref a => match M[a]? with
    | some (.ins c fs) => some (a, c, fs)
    | _ => none
  | _ => none
def putF (f : List Nat) (v : W) : List (List Nat × W) → List (List Nat × W)
  | [] => [(f, v)]
  | (g, x) :: r => if g = f then (g, v) :: r else (g, x) :: putF f v r
def getF (f : List Nat) : List (List Nat × W) → Option W
  | [] => none
  | (g, x) :: r => if g = f then some x else getF f r
def fldV (c f : List Nat) (x : W) (M : Mem) : R W := match insOf M x with
  | some (_, c', fs) => if c' = c then (match getF f fs with
    | some v => .ok v M
    | none => .bad) else .bad
  | none => .bad
def eFld (c f : List Nat) (o : EM) : EM := fun σ M => (o σ M).bind fun x M1 => fldV c f x M1
def fldS (c f : List Nat) (x v : W) (σ : St) (M : Mem) : RS := match insOf M x with
  | some (a, c', fs) => if c' = c ∧ fs.length < 1000 then .nx σ (M.set a (.ins c (putF f v fs))) else .bad
  | none => .bad
def sFld (c f : List Nat) (o e : EM) : SM := fun σ M => (e σ M).bindS fun v M1 => (o σ M1).bindS fun x M2 => fldS c f x v σ M2
def isIns (c m : List Nat) (M : Mem) (x : W) : Bool := match insOf M x with
  | some (_, c', fs) => decide (c' = c) && (getF m fs).isNone
  | none => false
def eMethO (c m : List Nat) (f : CM) (o : EM) (a : AM) : EM := fun σ M => (o σ M).bind fun x M1 => if isIns c m M1 x then (a σ M1).bind fun vs M2 => f (x :: vs) M2 else .bad
def mkO (c : List Nat) (f : CM) : CM := fun vs M => (f (.ref M.length :: vs) (M ++ [.ins c []])).bind fun v M2 => match v with
  | .non => .ok (.ref M.length) M2
  | _ => .bad
def fnOf (M : Mem) : W → Option (List Nat)
  | .ref a => match M[a]? with
    | some (.fnv x) => some x
    | _ => none
  | _ => none
def gName (i : Nat) : GM := fun v σ M => .ok (σ.set i (some v)) M
def gEach : List GM → List W → St → Mem → R St
  | [], [], σ, M => .ok σ M
  | g :: gs, v :: vs, σ, M => (g v σ M).bind fun σ1 M1 => gEach gs vs σ1 M1
  | _, _, _, _ => .bad
def gTup (gs : List GM) : GM := fun v σ M => match tupOf M v with
  | some xs => if xs.length = gs.length then gEach gs xs σ M else .bad
  | none => .bad
def gSub (o i : EM) : GM := fun v σ M => (o σ M).bind fun x M1 => (i σ M1).bind fun y M2 => match y, mutOf M2 x with
  | .int k, some (a, xs) => match ixN xs.length k with
    | some j => .ok σ (M2.set a (.lst (xs.set j v)))
    | none => .bad
  | _, _ => .bad
def sSkip : SM := fun σ M => .nx σ M
def sBad : SM := fun _ _ => .bad
def sBk : SM := fun σ M => .bk σ M
def sAsg (e : EM) (g : GM) : SM := fun σ M => (e σ M).bindS fun x M1 => (g x σ M1).bindS fun σ1 M2 => .nx σ1 M2
def sExpr (e : EM) : SM := fun σ M => (e σ M).bindS fun _ M1 => .nx σ M1
def sRet (e : EM) : SM := fun σ M => (e σ M).bindS fun x M1 => .rt x M1
def RS.andThen : RS → (St → Mem → RS) → RS
  | .nx σ M, f => f σ M
  | r, _ => r
def sSeq (a b : SM) : SM := fun σ M => (a σ M).andThen b
def sIf (t : TM) (a b : SM) : SM := fun σ M => (t σ M).bindS fun c M1 => if c then a σ M1 else b σ M1
inductive Src where
  | val (x : W)
  | pair (x y : W)
def Src.get : Src → Mem → R W
  | .val x, M => .ok x M
  | .pair x y, M => newT [x, y] M
abbrev Chk := List (Nat × O)
def Chk.ok (c : Chk) (M : Mem) : Bool := c.all fun p => decide (M[p.1]? = some p.2)
abbrev IM := St → Mem → R (List Src × Chk)
def iSeq (e : EM) : IM := fun σ M => (e σ M).bind fun x M1 => match x with
  | .ref a => match M1[a]? with
    | some (.lst xs) => .ok (xs.map .val, [(a, .lst xs)]) M1
    | some (.frz xs) => .ok (xs.map .val, [(a, .frz xs)]) M1
    | some (.tup xs) => .ok (xs.map .val, [(a, .tup xs)]) M1
    | _ => .bad
  | _ => .bad
def two62 : Nat := 4611686018427387904
def rng (lo : Int) (n : Nat) : List Src := (List.range n).map fun (k : Nat) => .val (.int (lo + (k : Int)))
def iRng1 (e : EM) : IM := fun σ M => (e σ M).bind fun x M1 => match x with
  | .int j => if j.natAbs < two62 then .ok (rng 0 j.toNat, []) M1 else .bad
  | _ => .bad
def iRng2 (e f : EM) : IM := fun σ M => (e σ M).bind fun x M1 => (f σ M1).bind fun y M2 => match x, y with
  | .int i, .int j => if i.natAbs < two62 ∧ j.natAbs < two62 then .ok (rng i (j - i).toNat, []) M2 else .bad
  | _, _ => .bad
def lstAt (M : Mem) : W → Option (Nat × O × List W)
  | .ref a => match M[a]? with
    | some (.lst xs) => some (a, .lst xs, xs)
    | some (.frz xs) => some (a, .frz xs, xs)
    | _ => none
  | _ => none
def enumS : Nat → List W → List Src
  | _, [] => []
  | k, x :: r => .pair (.int k) x :: enumS (k + 1) r
def iEnum (e : EM) : IM := fun σ M => (e σ M).bind fun x M1 => match lstAt M1 x with
  | some (a, o, xs) => .ok (enumS 0 xs, [(a, o)]) M1
  | none => .bad
def loop (c : Chk) (g : GM) (body : SM) : List Src → St → Mem → RS
  | [], σ, M => if c.ok M then .nx σ M else .bad
  | x :: r, σ, M => if c.ok M then
      (x.get M).bindS fun v M1 => (g v σ M1).bindS fun σ1 M2 => match body σ1 M2 with
        | .nx σ2 M3 => loop c g body r σ2 M3
        | .ct σ2 M3 => loop c g body r σ2 M3
        | .bk σ2 M3 => .nx σ2 M3
        | .rt v M3 => .rt v M3
        | .ex v M3 => .ex v M3
        | .bad => .bad
    else .bad
def sFor (i : IM) (g : GM) (body : SM) : SM := fun σ M => (i σ M).bindS fun p M1 => loop p.2 g body p.1 σ M1
def whileN (t : TM) (body : SM) : Nat → St → Mem → RS
  | 0, _, _ => .bad
  | n + 1, σ, M => (t σ M).bindS fun c M1 => if c then (match body σ M1 with
        | .nx σ2 M3 => whileN t body n σ2 M3
        | .ct σ2 M3 => whileN t body n σ2 M3
        | .bk σ2 M3 => .nx σ2 M3
        | .rt v M3 => .rt v M3
        | .ex v M3 => .ex v M3
        | .bad => .bad) else .nx σ M1
def sWhile (n : Nat) (t : TM) (body : SM) : SM := whileN t body n
def clr (cl : List Nat) (σ : St) : St := cl.foldl (fun σ j => σ.set j none) σ
def comp (c : Chk) (g : GM) (t : TM) (elt : EM) : List Src → St → Mem → List W → R (List W)
  | [], _, M, acc => if c.ok M then .ok acc M else .bad
  | x :: r, σ, M, acc => if c.ok M then
      (x.get M).bind fun v M1 => (g v σ M1).bind fun σ1 M2 => (t σ1 M2).bind fun b M3 =>
        if b then (elt σ1 M3).bind fun y M4 => comp c g t elt r σ1 M4 (acc ++ [y]) else comp c g t elt r σ1 M3 acc
    else .bad
def eComp (k : Nat) (cl : List Nat) (i : IM) (g : GM) (t : TM) (elt : EM) : EM := fun σ M => (i σ M).bind fun p M1 =>
  (comp p.2 g t elt p.1 (clr cl (σ ++ List.replicate k none)) M1 []).bind newL
def tTrue : TM := fun _ M => .ok true M
abbrev CE := Nat → CM
def fn (np n : Nat) (body : SM) : CM := fun args M => if args.length = np then (match body (args.map some ++ List.replicate (n - np) none) M with
  | .rt v M' => .ok v M'
  | .nx _ M' => .ok .non M'
  | .ex v M' => .ex v M'
  | _ => .bad) else .bad
def callK (tab : CE → CE) : Nat → CE
  | 0 => fun _ _ _ => .bad
  | k + 1 => tab (callK tab k)
end VM
end
section
set_option linter.all false
set_option autoImplicit false
namespace VM
theorem pre_get {M M' : Mem} (h : M <+: M') {a : Nat} {o : O} (e : M[a]? = some o) : M'[a]? = some o := by
  obtain ⟨r, rfl⟩ := h
  rw [List.getElem?_append_left (List.getElem?_eq_some_iff.mp e).1]; exact e
theorem pre_app (M : Mem) (r : Mem) : M <+: M ++ r := ⟨r, rfl⟩
theorem pre_rfl (M : Mem) : M <+: M := List.prefix_refl _
def Lst (M : Mem) (v : W) (ws : List W) : Prop := ∃ a, v = .ref a ∧ M[a]? = some (.lst ws)
def Tup (M : Mem) (v : W) (ws : List W) : Prop := ∃ a, v = .ref a ∧ M[a]? = some (.tup ws)
theorem Lst.mono {M M' : Mem} {v : W} {ws : List W} (h : Lst M v ws) (p : M <+: M') : Lst M' v ws := by
  obtain ⟨a, e, q⟩ := h; exact ⟨a, e, pre_get p q⟩
theorem Tup.mono {M M' : Mem} {v : W} {ws : List W} (h : Tup M v ws) (p : M <+: M') : Tup M' v ws := by
  obtain ⟨a, e, q⟩ := h; exact ⟨a, e, pre_get p q⟩
theorem Lst.lstOf {M : Mem} {v : W} {ws : List W} (h : Lst M v ws) : lstOf M v = some ws := by
  obtain ⟨a, rfl, q⟩ := h; simp only [VM.lstOf, q]
theorem Lst.seqOf {M : Mem} {v : W} {ws : List W} (h : Lst M v ws) : seqOf M v = some ws := by
  simp only [VM.seqOf, h.lstOf]
theorem Tup.tupOf {M : Mem} {v : W} {ws : List W} (h : Tup M v ws) : tupOf M v = some ws := by
  obtain ⟨a, rfl, q⟩ := h; simp only [VM.tupOf, q]
theorem Tup.lstOf {M : Mem} {v : W} {ws : List W} (h : Tup M v ws) : VM.lstOf M v = none := by
  obtain ⟨a, rfl, q⟩ := h; simp only [VM.lstOf, q]
theorem Tup.seqOf {M : Mem} {v : W} {ws : List W} (h : Tup M v ws) : seqOf M v = some ws := by
  simp only [VM.seqOf, h.lstOf, h.tupOf]
theorem mutOf_at {M : Mem} {a : Nat} {ws : List W} (h : M[a]? = some (.lst ws)) : mutOf M (.ref a) = some (a, ws) := by simp only [VM.mutOf, h]
theorem lstOf_at {M : Mem} {a : Nat} {ws : List W} (h : M[a]? = some (.lst ws)) : lstOf M (.ref a) = some ws := by simp only [VM.lstOf, h]
theorem seqOf_at {M : Mem} {a : Nat} {ws : List W} (h : M[a]? = some (.lst ws)) : seqOf M (.ref a) = some ws := by simp only [VM.seqOf, lstOf_at h]
theorem newL_ok {ws : List W} {M : Mem} (h : ws.length ≤ 16777216) : newL ws M = .ok (.ref M.length) (M ++ [.lst ws]) := if_pos h
theorem newT_ok {ws : List W} {M : Mem} (h : ws.length ≤ 16777216) : newT ws M = .ok (.ref M.length) (M ++ [.tup ws]) := if_pos h
theorem Lst.new (M : Mem) (ws : List W) : Lst (M ++ [.lst ws]) (.ref M.length) ws := ⟨_, rfl, by simp⟩
theorem Tup.new (M : Mem) (ws : List W) : Tup (M ++ [.tup ws]) (.ref M.length) ws := ⟨_, rfl, by simp⟩
theorem get_last (M : Mem) (o : O) : (M ++ [o])[M.length]? = some o := by simp
theorem set_last (M : Mem) (o o' : O) : (M ++ [o]).set M.length o' = M ++ [o'] := by simp
structure Post where
  nx : St → Mem → Prop
  rt : W → Mem → Prop
  bk : St → Mem → Prop := fun _ _ => False
  ct : St → Mem → Prop := fun _ _ => False
def RS.Sat : RS → Post → Prop
  | .nx σ M, q => q.nx σ M
  | .rt v M, q => q.rt v M
  | .bk σ M, q => q.bk σ M
  | .ct σ M, q => q.ct σ M
  | .ex _ _, _ => False
  | .bad, _ => False
theorem sat_seq {a b : SM} {σ : St} {M : Mem} {q : Post} (h : (a σ M).Sat { q with nx := fun σ' M' => (b σ' M').Sat q }) : (sSeq a b σ M).Sat q := by
  unfold sSeq
  cases e : a σ M with
  | nx σ' M' => rw [e] at h; exact h
  | rt v M' => rw [e] at h; exact h
  | bk σ' M' => rw [e] at h; exact h
  | ct σ' M' => rw [e] at h; exact h
  | ex v M' => rw [e] at h; exact h
  | bad => rw [e] at h; exact h
theorem sat_asg {e : EM} {g : GM} {σ σ1 : St} {M M1 M2 : Mem} {v : W} {q : Post} (h1 : e σ M = .ok v M1) (h2 : g v σ M1 = .ok σ1 M2) (h : q.nx σ1 M2) : (sAsg e g σ M).Sat q := by
  unfold sAsg; rw [h1]; simp only [R.bindS, h2]; exact h
theorem sat_set {e : EM} {i : Nat} {σ : St} {M M1 : Mem} {v : W} {q : Post} (h1 : e σ M = .ok v M1) (h : q.nx (σ.set i (some v)) M1) : (sAsg e (gName i) σ M).Sat q := sat_asg h1 rfl h
theorem sat_expr {e : EM} {σ : St} {M M1 : Mem} {v : W} {q : Post} (h1 : e σ M = .ok v M1) (h : q.nx σ M1) : (sExpr e σ M).Sat q := by
  unfold sExpr; rw [h1]; exact h
theorem sat_ret {e : EM} {σ : St} {M M1 : Mem} {v : W} {q : Post} (h1 : e σ M = .ok v M1) (h : q.rt v M1) : (sRet e σ M).Sat q := by
  unfold sRet; rw [h1]; exact h
theorem sat_skip {σ : St} {M : Mem} {q : Post} (h : q.nx σ M) : (sSkip σ M).Sat q := h
theorem sat_if {t : TM} {a b : SM} {σ : St} {M M1 : Mem} {c : Bool} {q : Post} (h1 : t σ M = .ok c M1) (h2 : c = true → (a σ M1).Sat q) (h3 : c = false → (b σ M1).Sat q) : (sIf t a b σ M).Sat q := by
  unfold sIf; rw [h1]; simp only [R.bindS]
  cases c with
  | true => exact h2 rfl
  | false => exact h3 rfl
theorem RS.Sat.mono {r : RS} {q q' : Post} (h : r.Sat q) (h1 : ∀ σ M, q.nx σ M → q'.nx σ M) (h2 : ∀ v M, q.rt v M → q'.rt v M) (h3 : ∀ σ M, q.bk σ M → q'.bk σ M) (h4 : ∀ σ M, q.ct σ M → q'.ct σ M) : r.Sat q' := by
  cases r with
  | nx σ M => exact h1 _ _ h
  | rt v M => exact h2 _ _ h
  | bk σ M => exact h3 _ _ h
  | ct σ M => exact h4 _ _ h
  | ex v M => exact h
  | bad => exact h
theorem sat_loop {c : Chk} {g : GM} {body : SM} {q : Post} (srcs : List Src) (P : Nat → St → Mem → Prop)
    (hs : ∀ (j : Nat) x σ M, srcs[j]? = some x → P j σ M → c.ok M = true ∧ ∃ v M1 σ1 M2, x.get M = .ok v M1 ∧ g v σ M1 = .ok σ1 M2 ∧ (body σ1 M2).Sat { nx := P (j + 1), ct := P (j + 1), bk := q.nx, rt := q.rt })
    (hd : ∀ σ M, P srcs.length σ M → c.ok M = true ∧ q.nx σ M) : ∀ (j : Nat) (σ : St) (M : Mem), j ≤ srcs.length → P j σ M → (loop c g body (srcs.drop j) σ M).Sat q := by
  intro j
  generalize hk : srcs.length - j = k
  induction k generalizing j with
  | zero =>
    intro σ M hj hp
    have e : j = srcs.length := by omega
    subst e
    rw [List.drop_length, loop]
    obtain ⟨h1, h2⟩ := hd σ M hp
    rw [if_pos h1]; exact h2
  | succ k ih =>
    intro σ M hj hp
    have hlt : j < srcs.length := by omega
    rw [List.drop_eq_getElem_cons hlt, loop]
    obtain ⟨h1, v, M1, σ1, M2, h2, h3, h4⟩ := hs j srcs[j] σ M (by simp [hlt]) hp
    rw [if_pos h1, h2]
    simp only [R.bindS, h3]
    cases e : body σ1 M2 with
    | nx σ' M' => rw [e] at h4; exact ih (j + 1) (by omega) σ' M' (by omega) h4
    | ct σ' M' => rw [e] at h4; exact ih (j + 1) (by omega) σ' M' (by omega) h4
    | bk σ' M' => rw [e] at h4; exact h4
    | rt v M' => rw [e] at h4; exact h4
    | ex v M' => rw [e] at h4; exact h4.elim
    | bad => rw [e] at h4; exact h4.elim
theorem sat_for {i : IM} {g : GM} {body : SM} {σ : St} {M M1 : Mem} {srcs : List Src} {c : Chk} {q : Post} (hi : i σ M = .ok (srcs, c) M1) (P : Nat → St → Mem → Prop) (h0 : P 0 σ M1)
    (hs : ∀ (j : Nat) x σ M, srcs[j]? = some x → P j σ M → c.ok M = true ∧ ∃ v M1 σ1 M2, x.get M = .ok v M1 ∧ g v σ M1 = .ok σ1 M2 ∧ (body σ1 M2).Sat { nx := P (j + 1), ct := P (j + 1), bk := q.nx, rt := q.rt })
    (hd : ∀ σ M, P srcs.length σ M → c.ok M = true ∧ q.nx σ M) : (sFor i g body σ M).Sat q := by
  unfold sFor; rw [hi]
  exact sat_loop srcs P hs hd 0 σ M1 (Nat.zero_le _) h0
theorem sat_rng {i : IM} {k : Nat} {body : SM} {σ : St} {M M1 : Mem} {lo : Int} {n : Nat} {q : Post} (hi : i σ M = .ok (rng lo n, []) M1) (P : Nat → St → Mem → Prop) (h0 : P 0 σ M1)
    (hs : ∀ (j : Nat) σ M, j < n → P j σ M → (body (σ.set k (some (.int (lo + (j : Int))))) M).Sat { nx := P (j + 1), ct := P (j + 1), bk := q.nx, rt := q.rt })
    (hd : ∀ σ M, P n σ M → q.nx σ M) : (sFor i (gName k) body σ M).Sat q := by
  have hl : (rng lo n).length = n := by simp [rng]
  refine sat_for hi P h0 (fun j x σ M hx hp => ⟨rfl, ?_⟩) fun σ M hp => ⟨rfl, hd σ M (by rw [hl] at hp; exact hp)⟩
  have hj : j < n := by rw [← hl]; exact (List.getElem?_eq_some_iff.mp hx).1
  have e : x = .val (.int (lo + (j : Int))) := by
    unfold rng at hx
    rw [List.getElem?_map, List.getElem?_range hj] at hx
    exact (Option.some.inj hx).symm
  subst e
  exact ⟨_, M, _, M, rfl, rfl, hs j σ M hj hp⟩
theorem sat_lst {e : EM} {k : Nat} {body : SM} {σ : St} {M M1 : Mem} {v : W} {xs : List W} {q : Post} (he : e σ M = .ok v M1) (hv : Lst M1 v xs) (P : Nat → St → Mem → Prop) (h0 : P 0 σ M1)
    (hl : ∀ (j : Nat) σ M, j ≤ xs.length → P j σ M → Lst M v xs)
    (hs : ∀ (j : Nat) x σ M, xs[j]? = some x → P j σ M → (body (σ.set k (some x)) M).Sat { nx := P (j + 1), ct := P (j + 1), bk := q.nx, rt := q.rt })
    (hd : ∀ σ M, P xs.length σ M → q.nx σ M) : (sFor (iSeq e) (gName k) body σ M).Sat q := by
  obtain ⟨a, rfl, ha⟩ := hv
  have hi : iSeq e σ M = .ok (xs.map .val, [(a, .lst xs)]) M1 := by unfold iSeq; rw [he]; simp only [R.bind, ha]
  have hle : (xs.map Src.val).length = xs.length := by simp
  have ck : ∀ {j : Nat} {σ : St} {M : Mem}, j ≤ xs.length → P j σ M → Chk.ok [(a, O.lst xs)] M = true := fun {j σ M} hj hp => by
    obtain ⟨b, eb, hb⟩ := hl j σ M hj hp
    cases eb
    simp [Chk.ok, hb]
  refine sat_for hi P h0 (fun j x σ M hx hp => ?_) fun σ M hp => ?_
  · have hj : j < xs.length := by rw [← hle]; exact (List.getElem?_eq_some_iff.mp hx).1
    rw [List.getElem?_map] at hx
    cases e2 : xs[j]? with
    | none => rw [e2] at hx; cases hx
    | some w =>
      rw [e2] at hx
      have ex : x = .val w := (Option.some.inj hx).symm
      subst ex
      exact ⟨ck (by omega) hp, _, M, _, M, rfl, rfl, hs j w σ M e2 hp⟩
  · rw [hle] at hp
    exact ⟨ck (Nat.le_refl _) hp, hd σ M hp⟩
theorem sat_fn {np n : Nat} {body : SM} {args : List W} {M : Mem} {Q : W → Mem → Prop} (hl : args.length = np) (h : (body (args.map some ++ List.replicate (n - np) none) M).Sat { nx := fun _ M' => Q .non M', rt := Q }) : ∃ v M', fn np n body args M = .ok v M' ∧ Q v M' := by
  unfold fn
  rw [if_pos hl]
  cases e : body (args.map some ++ List.replicate (n - np) none) M with
  | nx σ' M' => rw [e] at h; exact ⟨_, _, rfl, h⟩
  | rt v M' => rw [e] at h; exact ⟨_, _, rfl, h⟩
  | ct σ' M' => rw [e] at h; exact h.elim
  | bk σ' M' => rw [e] at h; exact h.elim
  | ex v M' => rw [e] at h; exact h.elim
  | bad => rw [e] at h; exact h.elim
inductive All2 {α β : Type} (R : α → β → Prop) : List α → List β → Prop
  | nil : All2 R [] []
  | cons {a b l m} : R a b → All2 R l m → All2 R (a :: l) (b :: m)
theorem All2.imp {α β : Type} {R S : α → β → Prop} (f : ∀ a b, R a b → S a b) : ∀ {l : List α} {m : List β}, All2 R l m → All2 S l m
  | _, _, .nil => .nil
  | _, _, .cons h t => .cons (f _ _ h) (All2.imp f t)
theorem All2.len {α β : Type} {R : α → β → Prop} : ∀ {l : List α} {m : List β}, All2 R l m → l.length = m.length
  | _, _, .nil => rfl
  | _, _, .cons _ t => by simp [All2.len t]
theorem All2.app {α β : Type} {R : α → β → Prop} : ∀ {l l2 : List α} {m m2 : List β}, All2 R l m → All2 R l2 m2 → All2 R (l ++ l2) (m ++ m2)
  | _, _, _, _, .nil, s => s
  | _, _, _, _, .cons h t, s => .cons h (All2.app t s)
theorem All2.at {α β : Type} {R : α → β → Prop} : ∀ {l : List α} {m : List β} {i : Nat} {x : α}, All2 R l m → l[i]? = some x → ∃ y, m[i]? = some y ∧ R x y
  | _, _, _, _, .nil, e => by simp at e
  | _, _, 0, _, .cons r _, e => by simp at e; subst e; exact ⟨_, rfl, r⟩
  | _, _, i + 1, x, .cons _ t, e => by
    obtain ⟨y, h1, h2⟩ := All2.at (i := i) (x := x) t (by simpa using e)
    exact ⟨y, by simpa using h1, h2⟩
theorem All2.at' {α β : Type} {R : α → β → Prop} : ∀ {l : List α} {m : List β} {i : Nat} {y : β}, All2 R l m → m[i]? = some y → ∃ x, l[i]? = some x ∧ R x y
  | _, _, _, _, .nil, e => by simp at e
  | _, _, 0, _, .cons r _, e => by simp at e; subst e; exact ⟨_, rfl, r⟩
  | _, _, i + 1, y, .cons _ t, e => by
    obtain ⟨x, h1, h2⟩ := All2.at' (i := i) (y := y) t (by simpa using e)
    exact ⟨x, by simpa using h1, h2⟩
theorem comp_grow {c : Chk} {i : Nat} {t : TM} {elt : EM} {σ : St} (p : W → Bool) (P : W → W → Mem → Prop) (mono : ∀ x y M M', M <+: M' → P x y M → P x y M') : ∀ (xs : List W) (M : Mem) (σ' : St) (acc : List W), (∀ v, σ'.set i (some v) = σ.set i (some v)) →
    (∀ M', M <+: M' → c.ok M' = true) →
    (∀ x ∈ xs, ∀ M', M <+: M' → ∃ M1, t (σ.set i (some x)) M' = .ok (p x) M1 ∧ M' <+: M1 ∧ (p x = true → ∃ y M2, elt (σ.set i (some x)) M1 = .ok y M2 ∧ M1 <+: M2 ∧ P x y M2)) →
    ∃ ys M', comp c (gName i) t elt (xs.map .val) σ' M acc = .ok (acc ++ ys) M' ∧ M <+: M' ∧ All2 (fun x y => P x y M') (xs.filter p) ys
  | [], M, σ', acc, _, hc, _ => ⟨[], M, by rw [List.map_nil, comp, if_pos (hc M (pre_rfl M)), List.append_nil], pre_rfl M, .nil⟩
  | x :: r, M, σ', acc, hσ, hc, h => by
    obtain ⟨M1, ht, p1, h2⟩ := h x List.mem_cons_self M (pre_rfl M)
    have hg : gName i x σ' M = .ok (σ.set i (some x)) M := by unfold gName; rw [hσ]
    have hσ2 : ∀ v, (σ.set i (some x)).set i (some v) = σ.set i (some v) := fun v => by simp
    rw [List.map_cons, comp, if_pos (hc M (pre_rfl M))]
    simp only [Src.get, R.bind, hg, ht]
    cases hp : p x with
    | false =>
      obtain ⟨ys, M', e, q, a⟩ := comp_grow p P mono r M1 (σ.set i (some x)) acc hσ2 (fun M' q => hc M' (p1.trans q)) fun z hz M' q => h z (List.mem_cons_of_mem _ hz) M' (p1.trans q)
      simp only [Bool.false_eq_true, if_false]
      exact ⟨ys, M', e, p1.trans q, by rw [List.filter_cons, hp]; exact a⟩
    | true =>
      obtain ⟨y, M2, he, p2, py⟩ := h2 hp
      obtain ⟨ys, M', e, q, a⟩ := comp_grow p P mono r M2 (σ.set i (some x)) (acc ++ [y]) hσ2 (fun M' q => hc M' (p1.trans (p2.trans q))) fun z hz M' q => h z (List.mem_cons_of_mem _ hz) M' (p1.trans (p2.trans q))
      simp only [if_true, he]
      refine ⟨y :: ys, M', by rw [e]; simp, p1.trans (p2.trans q), ?_⟩
      rw [List.filter_cons, hp]
      exact .cons (mono _ _ _ _ q py) a
theorem comp_flat {c : Chk} {i : Nat} {t : TM} {elt : EM} {σ : St} {M : Mem} (p : W → Bool) (f : W → W) : ∀ (xs : List W) (σ' : St) (acc : List W), (∀ v, σ'.set i (some v) = σ.set i (some v)) → c.ok M = true →
    (∀ x ∈ xs, t (σ.set i (some x)) M = .ok (p x) M ∧ (p x = true → elt (σ.set i (some x)) M = .ok (f x) M)) →
    comp c (gName i) t elt (xs.map .val) σ' M acc = .ok (acc ++ (xs.filter p).map f) M
  | [], σ', acc, _, hc, _ => by rw [List.map_nil, comp, if_pos hc]; simp
  | x :: r, σ', acc, hσ, hc, h => by
    obtain ⟨ht, h2⟩ := h x List.mem_cons_self
    have hg : gName i x σ' M = .ok (σ.set i (some x)) M := by unfold gName; rw [hσ]
    have hσ2 : ∀ v, (σ.set i (some x)).set i (some v) = σ.set i (some v) := fun v => by simp
    rw [List.map_cons, comp, if_pos hc]
    simp only [Src.get, R.bind, hg, ht]
    cases hp : p x with
    | false =>
      simp only [Bool.false_eq_true, if_false]
      rw [comp_flat p f r _ acc hσ2 hc fun z hz => h z (List.mem_cons_of_mem _ hz), List.filter_cons, hp]
      simp
    | true =>
      simp only [if_true, h2 hp]
      rw [comp_flat p f r _ (acc ++ [f x]) hσ2 hc fun z hz => h z (List.mem_cons_of_mem _ hz), List.filter_cons, hp]
      simp
def intsW (lo : Int) (n : Nat) : List W := (List.range n).map fun (k : Nat) => .int (lo + (k : Int))
theorem rng_intsW (lo : Int) (n : Nat) : rng lo n = (intsW lo n).map .val := by simp [rng, intsW]
theorem sat_while_step {t : TM} {body : SM} {k : Nat} {σ : St} {M M1 : Mem} {q : Post} (ht : t σ M = .ok true M1) (hb : (body σ M1).Sat { nx := fun σ' M' => (whileN t body k σ' M').Sat q, ct := fun σ' M' => (whileN t body k σ' M').Sat q, bk := q.nx, rt := q.rt }) : (whileN t body (k + 1) σ M).Sat q := by
  rw [whileN, ht]
  simp only [R.bindS, if_true]
  cases e : body σ M1 with
  | nx σ' M' => rw [e] at hb; exact hb
  | rt v M' => rw [e] at hb; exact hb
  | bk σ' M' => rw [e] at hb; exact hb
  | ct σ' M' => rw [e] at hb; exact hb
  | ex v M' => rw [e] at hb; exact hb
  | bad => rw [e] at hb; exact hb
theorem sat_while_end {t : TM} {body : SM} {k : Nat} {σ : St} {M M1 : Mem} {q : Post} (ht : t σ M = .ok false M1) (h : q.nx σ M1) : (whileN t body (k + 1) σ M).Sat q := by
  rw [whileN, ht]
  simp only [R.bindS, Bool.false_eq_true, if_false]
  exact h
end VM
end
section
set_option linter.all false
namespace LV
open VM
def d_L_whole : CM := fn 1 1 (
  sRet (eAnd (eIs [.int] (eVar 0)) (eNot (eIs [.bool] (eVar 0)))))
def d_L_at : CM := fn 2 2 (
  sSeq (
    sIf (tB (eOp oEq (eVar 0) (eLst (aNil)))) (
      sRet (eC (.int 0))) (
      sSkip)) (
  sRet (eOp oAdd (eOp oIx (eVar 0) (eOp oMod (eVar 1) (eCall fLen (aCons (eVar 0) aNil)))) (eOp oMul (eC (.int 3)) (eOp oDiv (eVar 1) (eCall fLen (aCons (eVar 0) aNil)))))))
def d_L_same (c_L_whole : CM) : CM := fn 2 6 (
  sSeq (
    sAsg (eLst (aCons (eVar 0) aNil)) (gName 2)) (
  sSeq (
    sAsg (eLst (aCons (eVar 1) aNil)) (gName 3)) (
  sSeq (
    sWhile 1000000000 (tB (eOp oNe (eVar 3) (eLst (aNil)))) (
      sSeq (
        sAsg (eMeth mPop (eVar 2) (aNil)) (gName 4)) (
      sSeq (
        sAsg (eMeth mPop (eVar 3) (aNil)) (gName 5)) (
      sIf (tB (eIs [.list, .tuple] (eVar 5))) (
        sSeq (
          sIf (tB (eOp oNe (eIs [.list] (eVar 4)) (eIs [.list] (eVar 5)))) (
            sRet (eC (.bl false))) (
            sSkip)) (
        sSeq (
          sIf (tOr (tB (eOp oNe (eIs [.tuple] (eVar 4)) (eIs [.tuple] (eVar 5)))) (tB (eOp oNe (eCall fLen (aCons (eVar 4) aNil)) (eCall fLen (aCons (eVar 5) aNil))))) (
            sRet (eC (.bl false))) (
            sSkip)) (
        sSeq (
          sExpr (eMeth mExtend (eVar 2) (aCons (eVar 4) aNil))) (
        sExpr (eMeth mExtend (eVar 3) (aCons (eVar 5) aNil)))))) (
        sIf (tB (eIsN (eVar 5))) (
          sIf (tB (eNotN (eVar 4))) (
            sRet (eC (.bl false))) (
            sSkip)) (
          sIf (tB (eIs [.bool] (eVar 5))) (
            sIf (tOr (tNot (tB (eIs [.bool] (eVar 4)))) (tB (eOp oNe (eVar 4) (eVar 5)))) (
              sRet (eC (.bl false))) (
              sSkip)) (
            sIf (tB (eIs [.str] (eVar 5))) (
              sIf (tOr (tNot (tB (eIs [.str] (eVar 4)))) (tB (eOp oNe (eVar 4) (eVar 5)))) (
                sRet (eC (.bl false))) (
                sSkip)) (
              sIf (tOr (tNot (tB (eCall c_L_whole (aCons (eVar 4) aNil)))) (tB (eOp oNe (eVar 4) (eVar 5)))) (
                sRet (eC (.bl false))) (
                sSkip))))))))) (
  sRet (eC (.bl true))))))
def d_L_shape_of : CM := fn 1 1 (
  sRet (eOp oIx (eLst (aCons (eTup (aCons (eC (.int 2)) (aCons (eC (.int 2)) aNil))) (aCons (eTup (aCons (eC (.int 2)) (aCons (eC (.int 2)) aNil))) (aCons (eTup (aCons (eC (.int 1)) (aCons (eC (.int 3)) aNil))) (aCons (eTup (aCons (eC (.int 3)) (aCons (eC (.int 1)) aNil))) (aCons (eTup (aCons (eC (.int 2)) (aCons (eC (.int 1)) aNil))) (aCons (eTup (aCons (eC (.int 1)) (aCons (eC (.int 2)) aNil))) (aCons (eTup (aCons (eC (.int 2)) (aCons (eC (.int 2)) aNil))) (aCons (eTup (aCons (eC (.int 1)) (aCons (eC (.int 1)) aNil))) aNil))))))))) (eOp oMod (eVar 0) (eC (.int 8)))))
def d_L_all_groups : CM := fn 2 9 (
  sSeq (
    sAsg (eOp oMul (eVar 0) (eVar 1)) (gName 2)) (
  sSeq (
    sAsg (eComp 1 [] (iRng1 (eOp oMul (eC (.int 3)) (eVar 2))) (gName 9) (tTrue) (eLst (aNil))) (gName 3)) (
  sSeq (
    sFor (iRng1 (eOp oMul (eVar 2) (eVar 2))) (gName 4) (
      sSeq (
        sAsg (eOp oDiv (eVar 4) (eVar 2)) (gName 5)) (
      sSeq (
        sAsg (eOp oMod (eVar 4) (eVar 2)) (gName 6)) (
      sSeq (
        sAsg (eOp oAdd (eOp oMul (eOp oDiv (eVar 5) (eVar 0)) (eVar 0)) (eOp oDiv (eVar 6) (eVar 1))) (gName 7)) (
      sFor (iSeq (eLst (aCons (eVar 5) (aCons (eOp oAdd (eVar 2) (eVar 6)) (aCons (eOp oAdd (eOp oMul (eC (.int 2)) (eVar 2)) (eVar 7)) aNil))))) (gName 8) (
        sExpr (eMeth mAppend (eOp oIx (eVar 3) (eVar 8)) (aCons (eVar 4) aNil)))))))) (
  sRet (eVar 3)))))
def d_L_full_sheet : CM := fn 3 11 (
  sSeq (
    sAsg (eOp oMul (eVar 0) (eVar 1)) (gName 3)) (
  sSeq (
    sAsg (eOp oMod (eVar 2) (eVar 3)) (gName 4)) (
  sSeq (
    sAsg (eLst (aNil)) (gName 5)) (
  sSeq (
    sFor (iRng1 (eVar 3)) (gName 6) (
      sFor (iRng1 (eVar 3)) (gName 7) (
        sSeq (
          sAsg (eOp oMod (eOp oAdd (eOp oAdd (eOp oMul (eVar 1) (eOp oMod (eVar 6) (eVar 0))) (eOp oDiv (eVar 6) (eVar 0))) (eVar 7)) (eVar 3)) (gName 8)) (
        sExpr (eMeth mAppend (eVar 5) (aCons (eOp oAdd (eOp oMod (eOp oAdd (eOp oMul (eVar 8) (eOp oIx (eLst (aCons (eC (.int 1)) (aCons (eOp oSub (eVar 3) (eC (.int 1))) aNil))) (eOp oMod (eOp oDiv (eVar 2) (eC (.int 5))) (eC (.int 2))))) (eVar 4)) (eVar 3)) (eC (.int 1))) aNil)))))) (
  sSeq (
    sIf (tAnd (tB (eOp oEq (eOp oMod (eOp oDiv (eVar 2) (eC (.int 7))) (eC (.int 2))) (eC (.int 1)))) (tB (eOp oEq (eVar 0) (eVar 1)))) (
      sSeq (
        sAsg (eLst (aNil)) (gName 9)) (
      sSeq (
        sFor (iRng1 (eOp oMul (eVar 3) (eVar 3))) (gName 10) (
          sExpr (eMeth mAppend (eVar 9) (aCons (eOp oIx (eVar 5) (eOp oAdd (eOp oMul (eOp oMod (eVar 10) (eVar 3)) (eVar 3)) (eOp oDiv (eVar 10) (eVar 3)))) aNil)))) (
      sAsg (eVar 9) (gName 5)))) (
      sSkip)) (
  sRet (eVar 5)))))))
def d_L_sheet_by : CM := fn 3 6 (
  sSeq (
    sAsg (eLst (aNil)) (gName 3)) (
  sSeq (
    sFor (iRng1 (eCall fLen (aCons (eVar 0) aNil))) (gName 4) (
      sSeq (
        sAsg (eC (.int 0)) (gName 5)) (
      sSeq (
        sIf (tB (eOp oLt (eVar 4) (eCall fLen (aCons (eVar 1) aNil)))) (
          sAsg (eOp oIx (eVar 1) (eVar 4)) (gName 5)) (
          sSkip)) (
      sExpr (eMeth mAppend (eVar 3) (aCons (eOp oMul (eOp oIx (eVar 0) (eVar 4)) (eCall fInt (aCons (eOp oGe (eOp oMod (eOp oAdd (eVar 5) (eVar 4)) (eC (.int 7))) (eVar 2)) aNil))) aNil)))))) (
  sRet (eVar 3))))
def d_L_barred : CM := fn 4 6 (
  sSeq (
    sFor (iSeq (eVar 0)) (gName 4) (
      sIf (tB (eOp oIn (eVar 2) (eVar 4))) (
        sFor (iSeq (eVar 4)) (gName 5) (
          sIf (tAnd (tB (eOp oNe (eVar 5) (eVar 2))) (tB (eOp oEq (eOp oIx (eVar 1) (eVar 5)) (eVar 3)))) (
            sRet (eC (.bl true))) (
            sSkip))) (
        sSkip))) (
  sRet (eC (.bl false))))
def d_L_can_have (c_L_barred : CM) : CM := fn 3 7 (
  sSeq (
    sAsg (eLst (aNil)) (gName 3)) (
  sSeq (
    sFor (iRng1 (eCall fLen (aCons (eVar 1) aNil))) (gName 4) (
      sSeq (
        sAsg (eLst (aNil)) (gName 5)) (
      sSeq (
        sFor (iRng2 (eC (.int 1)) (eOp oAdd (eVar 2) (eC (.int 1)))) (gName 6) (
          sIf (tAnd (tB (eOp oEq (eOp oIx (eVar 1) (eVar 4)) (eC (.int 0)))) (tNot (tB (eCall c_L_barred (aCons (eVar 0) (aCons (eVar 1) (aCons (eVar 4) (aCons (eVar 6) aNil)))))))) (
            sExpr (eMeth mAppend (eVar 5) (aCons (eVar 6) aNil))) (
            sSkip))) (
      sExpr (eMeth mAppend (eVar 3) (aCons (eVar 5) aNil)))))) (
  sRet (eVar 3))))
def d_L_spots : CM := fn 4 4 (
  sRet (eComp 1 [] (iSeq (eOp oIx (eVar 0) (eVar 2))) (gName 4) (tB (eOp oIn (eVar 3) (eOp oIx (eVar 1) (eVar 4)))) (eVar 4)))
def d_L_lacks : CM := fn 5 5 (
  sSeq (
    sIf (tOr (tB (eOp oLt (eVar 2) (eC (.int 0)))) (tOr (tB (eOp oGe (eVar 2) (eCall fLen (aCons (eVar 0) aNil)))) (tOr (tB (eOp oLt (eVar 3) (eC (.int 1)))) (tB (eOp oGt (eVar 3) (eVar 4)))))) (
      sRet (eC (.bl false))) (
      sSkip)) (
  sRet (eOp oNotIn (eVar 3) (eComp 1 [] (iSeq (eOp oIx (eVar 0) (eVar 2))) (gName 5) (tTrue) (eOp oIx (eVar 1) (eVar 5))))))
def d_L_step_right (c_L_spots c_L_lacks : CM) : CM := fn 5 6 (
  sSeq (
    sAsg (eOp oIx (eVar 3) (eC (.int 1))) (gName 5)) (
  sSeq (
    sIf (tOr (tB (eOp oLt (eVar 5) (eC (.int 0)))) (tOr (tB (eOp oGe (eVar 5) (eCall fLen (aCons (eVar 1) aNil)))) (tB (eOp oNe (eOp oIx (eVar 1) (eVar 5)) (eC (.int 0)))))) (
      sRet (eC (.bl false))) (
      sSkip)) (
  sSeq (
    sIf (tB (eOp oEq (eOp oIx (eVar 3) (eC (.int 0))) (eC (.str [102, 105, 101, 108, 100])))) (
      sRet (eOp oEq (eOp oIx (eVar 2) (eVar 5)) (eLst (aCons (eOp oIx (eVar 3) (eC (.int 2))) aNil)))) (
      sSkip)) (
  sSeq (
    sIf (tNot (tB (eCall c_L_lacks (aCons (eVar 0) (aCons (eVar 1) (aCons (eOp oIx (eVar 3) (eC (.int 3))) (aCons (eOp oIx (eVar 3) (eC (.int 2))) (aCons (eVar 4) aNil)))))))) (
      sRet (eC (.bl false))) (
      sSkip)) (
  sRet (eOp oEq (eCall c_L_spots (aCons (eVar 0) (aCons (eVar 2) (aCons (eOp oIx (eVar 3) (eC (.int 3))) (aCons (eOp oIx (eVar 3) (eC (.int 2))) aNil))))) (eLst (aCons (eVar 5) aNil))))))))
def d_L_step_by : CM := fn 6 16 (
  sSeq (
    sAsg (eOp oMod (eVar 4) (eC (.int 13))) (gName 6)) (
  sSeq (
    sAsg (eOp oMod (eOp oDiv (eVar 3) (eC (.int 2))) (eCall fLen (aCons (eVar 1) aNil))) (gName 7)) (
  sSeq (
    sAsg (eVar 7) (gName 8)) (
  sSeq (
    sIf (tB (eOp oEq (eOp oIx (eVar 2) (eVar 8)) (eLst (aNil)))) (
      sFor (iRng1 (eCall fLen (aCons (eVar 1) aNil))) (gName 9) (
        sIf (tB (eOp oNe (eOp oIx (eVar 2) (eOp oMod (eOp oAdd (eVar 7) (eVar 9)) (eCall fLen (aCons (eVar 1) aNil)))) (eLst (aNil)))) (
          sSeq (
            sAsg (eOp oMod (eOp oAdd (eVar 7) (eVar 9)) (eCall fLen (aCons (eVar 1) aNil))) (gName 8)) (
          sBk)) (
          sSkip))) (
      sSkip)) (
  sSeq (
    sAsg (eOp oAdd (eOp oIx (eVar 2) (eVar 8)) (eLst (aCons (eOp oAdd (eC (.int 1)) (eOp oMod (eVar 3) (eVar 5))) aNil))) (gName 10)) (
  sSeq (
    sAsg (eOp oIx (eVar 10) (eOp oMod (eOp oAdd (eOp oDiv (eVar 4) (eC (.int 13))) (eVar 3)) (eCall fLen (aCons (eVar 10) aNil)))) (gName 11)) (
  sSeq (
    sAsg (eComp 0 [9] (iRng1 (eCall fLen (aCons (eVar 0) aNil))) (gName 9) (tB (eOp oIn (eVar 8) (eOp oIx (eVar 0) (eVar 9)))) (eVar 9)) (gName 12)) (
  sSeq (
    sAsg (eOp oIx (eVar 12) (eOp oMod (eOp oAdd (eVar 3) (eVar 4)) (eCall fLen (aCons (eVar 12) aNil)))) (gName 13)) (
  sSeq (
    sAsg (eOp oMod (eOp oMul (eVar 4) (eC (.int 48271))) (eOp oPow (eC (.int 10)) (eC (.int 30)))) (gName 14)) (
  sSeq (
    sAsg (eLst (aCons (eNeg (eC (.int 1))) (aCons (eC (.int 0)) (aCons (eC (.int 1000000000000)) (aCons (eVar 14) (aCons (eOp oSub (eNeg (eC (.int 2))) (eVar 14)) aNil)))))) (gName 15)) (
  sSeq (
    sIf (tB (eOp oEq (eVar 6) (eC (.int 1)))) (
      sAsg (eOp oIx (eOp oAdd (eVar 15) (eLst (aCons (eCall fLen (aCons (eVar 1) aNil)) aNil))) (eOp oMod (eOp oDiv (eVar 4) (eC (.int 13))) (eC (.int 6)))) (gName 8)) (
      sSkip)) (
  sSeq (
    sIf (tB (eOp oEq (eVar 6) (eC (.int 2)))) (
      sAsg (eOp oIx (eOp oAdd (eVar 15) (eLst (aCons (eOp oAdd (eVar 5) (eC (.int 1))) aNil))) (eOp oMod (eOp oDiv (eVar 4) (eC (.int 13))) (eC (.int 6)))) (gName 11)) (
      sSkip)) (
  sSeq (
    sIf (tB (eOp oEq (eVar 6) (eC (.int 3)))) (
      sAsg (eOp oIx (eOp oAdd (eVar 15) (eLst (aCons (eCall fLen (aCons (eVar 0) aNil)) aNil))) (eOp oMod (eOp oDiv (eVar 4) (eC (.int 13))) (eC (.int 6)))) (gName 13)) (
      sSkip)) (
  sSeq (
    sIf (tB (eOp oEq (eVar 6) (eC (.int 4)))) (
      sAsg (eOp oMod (eOp oDiv (eVar 4) (eC (.int 13))) (eCall fLen (aCons (eVar 0) aNil))) (gName 13)) (
      sSkip)) (
  sSeq (
    sIf (tB (eOp oEq (eOp oMod (eVar 3) (eC (.int 2))) (eC (.int 0)))) (
      sRet (eTup (aCons (eC (.str [102, 105, 101, 108, 100])) (aCons (eVar 8) (aCons (eVar 11) aNil))))) (
      sSkip)) (
  sRet (eTup (aCons (eC (.str [103, 114, 111, 117, 112])) (aCons (eVar 8) (aCons (eVar 11) (aCons (eVar 13) aNil)))))))))))))))))))))
end LV
end
section
set_option linter.all false
namespace PB
open VM
def d_row_fields : CM := fn 2 2 (
  sRet (eComp 1 [] (iRng1 (eVar 0)) (gName 2) (tTrue) (eOp oAdd (eOp oMul (eVar 1) (eVar 0)) (eVar 2))))
def d_column_fields : CM := fn 2 2 (
  sRet (eComp 1 [] (iRng1 (eVar 0)) (gName 2) (tTrue) (eOp oAdd (eOp oMul (eVar 2) (eVar 0)) (eVar 1))))
def d_box_fields : CM := fn 3 9 (
  sSeq (
    sAsg (eOp oMul (eVar 0) (eVar 1)) (gName 3)) (
  sSeq (
    sAsg (eOp oMul (eOp oDiv (eVar 2) (eVar 0)) (eVar 0)) (gName 4)) (
  sSeq (
    sAsg (eOp oMul (eOp oMod (eVar 2) (eVar 0)) (eVar 1)) (gName 5)) (
  sSeq (
    sAsg (eLst (aNil)) (gName 6)) (
  sSeq (
    sFor (iRng2 (eVar 4) (eOp oAdd (eVar 4) (eVar 0))) (gName 7) (
      sFor (iRng2 (eVar 5) (eOp oAdd (eVar 5) (eVar 1))) (gName 8) (
        sExpr (eMeth mAppend (eVar 6) (aCons (eOp oAdd (eOp oMul (eVar 7) (eVar 3)) (eVar 8)) aNil))))) (
  sRet (eVar 6)))))))
def d_groups_of (c_row_fields c_column_fields c_box_fields : CM) : CM := fn 2 6 (
  sSeq (
    sAsg (eOp oMul (eVar 0) (eVar 1)) (gName 2)) (
  sSeq (
    sAsg (eComp 1 [] (iRng1 (eVar 2)) (gName 6) (tTrue) (eCall c_row_fields (aCons (eVar 2) (aCons (eVar 6) aNil)))) (gName 3)) (
  sSeq (
    sAsg (eComp 1 [] (iRng1 (eVar 2)) (gName 6) (tTrue) (eCall c_column_fields (aCons (eVar 2) (aCons (eVar 6) aNil)))) (gName 4)) (
  sSeq (
    sAsg (eComp 1 [] (iRng1 (eVar 2)) (gName 6) (tTrue) (eCall c_box_fields (aCons (eVar 0) (aCons (eVar 1) (aCons (eVar 6) aNil))))) (gName 5)) (
  sRet (eOp oAdd (eOp oAdd (eVar 3) (eVar 4)) (eVar 5)))))))
def d_refuse_no_sheet : CM := fn 3 5 (
  sSeq (
    sAsg (eOp oMul (eVar 0) (eVar 1)) (gName 3)) (
  sSeq (
    sIf (tB (eOp oNe (eCall fLen (aCons (eVar 2) aNil)) (eOp oMul (eVar 3) (eVar 3)))) (
      sBad) (
      sSkip)) (
  sFor (iSeq (eVar 2)) (gName 4) (
    sIf (tOr (tB (eOp oLt (eVar 4) (eC (.int 0)))) (tB (eOp oGt (eVar 4) (eVar 3)))) (
      sBad) (
      sSkip)))))
def d_groups_at : CM := fn 3 7 (
  sSeq (
    sAsg (eOp oMul (eVar 0) (eVar 1)) (gName 3)) (
  sSeq (
    sAsg (eOp oDiv (eVar 2) (eVar 3)) (gName 4)) (
  sSeq (
    sAsg (eOp oMod (eVar 2) (eVar 3)) (gName 5)) (
  sSeq (
    sAsg (eOp oAdd (eOp oMul (eOp oDiv (eVar 4) (eVar 0)) (eVar 0)) (eOp oDiv (eVar 5) (eVar 1))) (gName 6)) (
  sRet (eLst (aCons (eVar 4) (aCons (eOp oAdd (eVar 3) (eVar 5)) (aCons (eOp oAdd (eOp oMul (eC (.int 2)) (eVar 3)) (eVar 6)) aNil)))))))))
def d_State_init (c_groups_of c_refuse_no_sheet c_State_numbers_for : CM) : CM := fn 4 6 (
  sSeq (
    sExpr (eCall c_refuse_no_sheet (aCons (eVar 1) (aCons (eVar 2) (aCons (eVar 3) aNil))))) (
  sSeq (
    sFld [83, 116, 97, 116, 101] [104, 105, 103, 104] (eVar 0) (eVar 1)) (
  sSeq (
    sFld [83, 116, 97, 116, 101] [119, 105, 100, 101] (eVar 0) (eVar 2)) (
  sSeq (
    sFld [83, 116, 97, 116, 101] [103, 114, 111, 117, 112, 115] (eVar 0) (eCall c_groups_of (aCons (eVar 1) (aCons (eVar 2) aNil)))) (
  sSeq (
    sFld [83, 116, 97, 116, 101] [110, 117, 109, 98, 101, 114, 115] (eVar 0) (eCall fList (aCons (eVar 3) aNil))) (
  sSeq (
    sFld [83, 116, 97, 116, 101] [99, 97, 110] (eVar 0) (eDNew)) (
  sFor (iEnum (eVar 3)) (gTup [gName 4, gName 5]) (
    sIf (tB (eOp oEq (eVar 5) (eC (.int 0)))) (
      sDPut (eFld [83, 116, 97, 116, 101] [99, 97, 110] (eVar 0)) (eVar 4) (eMethO [83, 116, 97, 116, 101] [110, 117, 109, 98, 101, 114, 115, 95, 102, 111, 114] c_State_numbers_for (eVar 0) (aCons (eVar 4) aNil))) (
      sSkip)))))))))
def d_State_numbers_for (c_groups_at : CM) : CM := fn 2 5 (
  sSeq (
    sAsg (eDNew) (gName 2)) (
  sSeq (
    sFor (iSeq (eCall c_groups_at (aCons (eFld [83, 116, 97, 116, 101] [104, 105, 103, 104] (eVar 0)) (aCons (eFld [83, 116, 97, 116, 101] [119, 105, 100, 101] (eVar 0)) (aCons (eVar 1) aNil))))) (gName 3) (
      sFor (iSeq (eOp oIx (eFld [83, 116, 97, 116, 101] [103, 114, 111, 117, 112, 115] (eVar 0)) (eVar 3))) (gName 4) (
        sDPut (eVar 2) (eOp oIx (eFld [83, 116, 97, 116, 101] [110, 117, 109, 98, 101, 114, 115] (eVar 0)) (eVar 4)) (eC (.bl true))))) (
  sRet (eComp 1 [] (iRng2 (eC (.int 1)) (eOp oAdd (eOp oMul (eFld [83, 116, 97, 116, 101] [104, 105, 103, 104] (eVar 0)) (eFld [83, 116, 97, 116, 101] [119, 105, 100, 101] (eVar 0))) (eC (.int 1)))) (gName 5) (tB (eDIn true (eVar 5) (eVar 2))) (eVar 5)))))
def d_State_put (c_groups_at : CM) : CM := fn 3 5 (
  sSeq (
    sAsg (eVar 2) (gSub (eFld [83, 116, 97, 116, 101] [110, 117, 109, 98, 101, 114, 115] (eVar 0)) (eVar 1))) (
  sSeq (
    sExpr (eD1 dPop (eFld [83, 116, 97, 116, 101] [99, 97, 110] (eVar 0)) (eVar 1))) (
  sFor (iSeq (eCall c_groups_at (aCons (eFld [83, 116, 97, 116, 101] [104, 105, 103, 104] (eVar 0)) (aCons (eFld [83, 116, 97, 116, 101] [119, 105, 100, 101] (eVar 0)) (aCons (eVar 1) aNil))))) (gName 3) (
    sFor (iSeq (eOp oIx (eFld [83, 116, 97, 116, 101] [103, 114, 111, 117, 112, 115] (eVar 0)) (eVar 3))) (gName 4) (
      sIf (tB (eOp oIn (eVar 2) (eD2 dGetD (eFld [83, 116, 97, 116, 101] [99, 97, 110] (eVar 0)) (eVar 4) (eLst (aNil))))) (
        sDPut (eFld [83, 116, 97, 116, 101] [99, 97, 110] (eVar 0)) (eVar 4) (eComp 1 [] (iSeq (eDGet (eFld [83, 116, 97, 116, 101] [99, 97, 110] (eVar 0)) (eVar 4))) (gName 5) (tB (eOp oNe (eVar 5) (eVar 2))) (eVar 5))) (
        sSkip))))))
def d_State_behind (c_State_put c_State : CM) : CM := fn 3 4 (
  sSeq (
    sAsg (eCall c_State (aCons (eFld [83, 116, 97, 116, 101] [104, 105, 103, 104] (eVar 0)) (aCons (eFld [83, 116, 97, 116, 101] [119, 105, 100, 101] (eVar 0)) (aCons (eFld [83, 116, 97, 116, 101] [110, 117, 109, 98, 101, 114, 115] (eVar 0)) aNil)))) (gName 3)) (
  sSeq (
    sExpr (eMethO [83, 116, 97, 116, 101] [112, 117, 116] c_State_put (eVar 3) (aCons (eVar 1) (aCons (eVar 2) aNil)))) (
  sRet (eVar 3))))
def d_State (c_State_init : CM) : CM := mkO [83, 116, 97, 116, 101] c_State_init
def d_is_group : CM := fn 2 2 (
  sRet (eChain oLe oLt (eC (.int 0)) (eVar 1) (eCall fLen (aCons (eFld [83, 116, 97, 116, 101] [103, 114, 111, 117, 112, 115] (eVar 0)) aNil))))
def d_homes_in : CM := fn 2 5 (
  sSeq (
    sAsg (eDNew) (gName 2)) (
  sSeq (
    sFor (iSeq (eOp oIx (eFld [83, 116, 97, 116, 101] [103, 114, 111, 117, 112, 115] (eVar 0)) (eVar 1))) (gName 3) (
      sFor (iSeq (eD2 dGetD (eFld [83, 116, 97, 116, 101] [99, 97, 110] (eVar 0)) (eVar 3) (eLst (aNil)))) (gName 4) (
        sExpr (eMeth mAppend (eD2 dSetD (eVar 2) (eVar 4) (eLst (aNil))) (aCons (eVar 3) aNil))))) (
  sRet (eVar 2))))
def d_step_follows (c_is_group c_homes_in : CM) : CM := fn 2 2 (
  sSeq (
    sIf (tB (eOp oEq (eOp oIx (eVar 1) (eC (.int 0))) (eC (.str [102, 105, 101, 108, 100])))) (
      sRet (eOp oEq (eD1 (fun x y => dGetD x y .non) (eFld [83, 116, 97, 116, 101] [99, 97, 110] (eVar 0)) (eOp oIx (eVar 1) (eC (.int 1)))) (eLst (aCons (eOp oIx (eVar 1) (eC (.int 2))) aNil)))) (
      sSkip)) (
  sRet (eAnd (eCall c_is_group (aCons (eVar 0) (aCons (eOp oIx (eVar 1) (eC (.int 3))) aNil))) (eOp oEq (eD1 (fun x y => dGetD x y .non) (eCall c_homes_in (aCons (eVar 0) (aCons (eOp oIx (eVar 1) (eC (.int 3))) aNil))) (eOp oIx (eVar 1) (eC (.int 2)))) (eLst (aCons (eOp oIx (eVar 1) (eC (.int 1))) aNil))))))
def d_follows (c_State c_step_follows : CM) : CM := fn 4 4 (
  sRet (eCall c_step_follows (aCons (eCall c_State (aCons (eVar 0) (aCons (eVar 1) (aCons (eVar 2) aNil)))) (aCons (eVar 3) aNil))))
end PB
end
section
set_option linter.all false
set_option autoImplicit false
set_option maxRecDepth 100000
namespace LV
open VM
local macro_rules | `(tactic| walk_at "ev") => `(tactic| simp only [tB, tAnd, tOr, tNot, tTrue, eOp, eVar, eC, eLst, eTup, aNil, aCons, eCall, eAnd, eOr, eNot, eIf, eIsN, eNotN, eMeth, R.bind, oAdd, oSub, gName, gSub, gTup, gEach, iRng1, iRng2, List.length_cons, List.length_nil, List.map_cons, List.map_nil, List.cons_append, List.nil_append, List.append_nil, List.getElem?_cons_zero, List.getElem?_cons_succ, List.set_cons_zero, List.set_cons_succ, if_true, if_false, Bool.false_eq_true, Nat.reduceAdd, Nat.reduceSub, List.replicate_succ, List.replicate_zero, Nat.zero_add, Nat.add_zero, clr, List.foldl_nil, List.foldl_cons, List.append_assoc])
theorem mul_ok {i j : Int} {M : Mem} (h : i.natAbs ≤ 1000000) : oMul (.int i) (.int j) M = .ok (.int (i * j)) M := if_pos (.inl (by unfold two64; omega))
theorem div_ok {i j : Int} {M : Mem} (h : 0 < j) (h2 : j < 1000000) : oDiv (.int i) (.int j) M = .ok (.int (i / j)) M := if_pos ⟨h, by omega⟩
theorem mod_ok {i j : Int} {M : Mem} (h : 0 < j) : oMod (.int i) (.int j) M = .ok (.int (i % j)) M := if_pos h
theorem rng_ok {j : Int} (h : 0 ≤ j) (h2 : j < 1000000) : j.natAbs < two62 := by unfold two62; omega
def IntL (M : Mem) (v : W) (ns : List Int) : Prop := Lst M v (ns.map .int)
def LL (M : Mem) (v : W) (nss : List (List Int)) : Prop := ∃ ws, Lst M v ws ∧ All2 (fun w ns => IntL M w ns) ws nss
theorem LL.mono {M M' : Mem} {v : W} {nss : List (List Int)} (h : LL M v nss) (p : M <+: M') : LL M' v nss := by
  obtain ⟨ws, h1, h2⟩ := h
  exact ⟨ws, h1.mono p, h2.imp fun _ _ q => Lst.mono q p⟩
def rowF (s r : Nat) : List Int := (List.range s).map fun (c : Nat) => (r : Int) * s + (c : Int)
def colF (s c : Nat) : List Int := (List.range s).map fun (r : Nat) => (r : Int) * s + (c : Int)
def boxF (h w b : Nat) : List Int := (List.range h).flatMap fun r => (List.range w).map fun c => ((b / h * h + r : Nat) : Int) * (h * w : Nat) + (b % h * w + c : Nat)
def grps (h w : Nat) : List (List Int) := (List.range (h * w)).map (rowF (h * w)) ++ (List.range (h * w)).map (colF (h * w)) ++ (List.range (h * w)).map (boxF h w)
theorem filter_tt {α : Type} (l : List α) : l.filter (fun _ => true) = l := by
  induction l with
  | nil => rfl
  | cons a r ih => simp [ih]
theorem append_ok {M : Mem} {a : Nat} {xs : List W} {y : W} (h : M[a]? = some (.lst xs)) (hl : xs.length < 16777216) : mAppend (.ref a) [y] M = .ok .non (M.set a (.lst (xs ++ [y]))) := by
  unfold mAppend
  rw [mutOf_at h]
  exact if_pos hl
theorem range_flat_succ {α : Type} (n : Nat) (f : Nat → List α) : (List.range (n + 1)).flatMap f = (List.range n).flatMap f ++ f n := by
  rw [List.range_succ, List.flatMap_append]; simp
theorem range_map_succ {α : Type} (n : Nat) (f : Nat → α) : (List.range (n + 1)).map f = (List.range n).map f ++ [f n] := by
  rw [List.range_succ, List.map_append]; rfl
theorem lists_ok {elt : EM} {σ : St} {M : Mem} {s : Nat} (k : Nat) (f : Nat → List Int) (e : EM) (he : e σ M = .ok (.int s) M) (hs : s ≤ 9)
    (h : ∀ j, j < s → ∀ M', M <+: M' → ∃ v M'', elt ((σ ++ [none]).set k (some (.int j))) M' = .ok v M'' ∧ M' <+: M'' ∧ IntL M'' v (f j)) :
    ∃ v M', eComp 1 [] (iRng1 e) (gName k) tTrue elt σ M = .ok v M' ∧ M <+: M' ∧ LL M' v ((List.range s).map f) := by
  have hr1 : (s : Int).natAbs < two62 := rng_ok (by omega) (by omega)
  have hi : iRng1 e σ M = .ok (rng 0 s, []) M := by
    unfold iRng1; rw [he]; simp only [R.bind]; rw [if_pos hr1, Int.toNat_natCast]
  obtain ⟨ys, M', hc, pre, all⟩ := comp_grow (c := []) (i := k) (t := tTrue) (elt := elt) (σ := σ ++ [none]) (fun _ => true) (fun x y M => ∃ j : Nat, x = .int j ∧ IntL M y (f j)) (fun x y M M' p ⟨j, e, q⟩ => ⟨j, e, Lst.mono q p⟩)
    (intsW 0 s) M (σ ++ [none]) [] (fun _ => rfl) (fun _ _ => rfl) (fun x hx M' p => by
      obtain ⟨j, hj, rfl⟩ := List.mem_map.mp hx
      rw [List.mem_range] at hj
      refine ⟨M', rfl, pre_rfl _, fun _ => ?_⟩
      have ez : (0 : Int) + (j : Int) = (j : Int) := by omega
      obtain ⟨v, M'', h1, h2, h3⟩ := h j hj M' p
      rw [ez]
      exact ⟨v, M'', h1, h2, j, rfl, h3⟩)
  have len : ys.length = s := by
    have := all.len
    rw [filter_tt] at this
    simp [intsW] at this
    omega
  refine ⟨.ref M'.length, M' ++ [.lst ys], ?_, pre.trans (pre_app _ _), ys, Lst.new _ _, ?_⟩
  · unfold eComp
    rw [hi]
    simp only [R.bind, R.noex, clr, List.foldl_nil, List.replicate_succ, List.replicate_zero, rng_intsW]
    rw [hc]
    simp only [R.bind, List.nil_append]
    exact newL_ok (by omega)
  · rw [filter_tt] at all
    have g : ∀ (js : List Nat) (ys : List W) (N : Mem), M' <+: N → All2 (fun x y => ∃ j : Nat, x = W.int j ∧ IntL M' y (f j)) (js.map fun (j : Nat) => W.int (0 + (j : Int))) ys → All2 (fun w ns => IntL N w ns) ys (js.map f) := by
      intro js
      induction js with
      | nil => intro ys N p a; cases a; exact .nil
      | cons j r ih =>
        intro ys N p a
        cases a with
        | cons h t =>
          obtain ⟨j', e, q⟩ := h
          have ej : j = j' := by injection e with e; omega
          subst ej
          exact .cons (Lst.mono q p) (ih _ N p t)
    exact g _ _ _ (pre_app _ _) all
theorem cat_ok {M : Mem} {v u : W} {xs ys : List (List Int)} (h1 : LL M v xs) (h2 : LL M u ys) (hl : xs.length + ys.length ≤ 1000) : ∃ w M', oAdd v u M = .ok w M' ∧ M <+: M' ∧ LL M' w (xs ++ ys) := by
  obtain ⟨ws, ⟨a, rfl, ha⟩, r1⟩ := h1
  obtain ⟨us, ⟨b, rfl, hb⟩, r2⟩ := h2
  have l1 := r1.len
  have l2 := r2.len
  refine ⟨.ref M.length, M ++ [.lst (ws ++ us)], ?_, pre_app _ _, ws ++ us, Lst.new _ _, ?_⟩
  · simp only [oAdd, mutOf_at ha, mutOf_at hb]
    exact newL_ok (by rw [List.length_append]; omega)
  · exact All2.app (r1.imp fun _ _ q => Lst.mono q (pre_app _ _)) (r2.imp fun _ _ q => Lst.mono q (pre_app _ _))
def GroupsSpec (f : CM) : Prop := ∀ (h w : Nat) (M : Mem), 1 ≤ h ∧ h ≤ 3 → 1 ≤ w ∧ w ≤ 3 → ∃ v M', f [.int h, .int w] M = .ok v M' ∧ M <+: M' ∧ LL M' v (grps h w)
def nth (fs : List Int) (i : Int) : Int := fs.getD i.toNat 0
theorem at_nth {fs : List Int} {i : Int} (h0 : 0 ≤ i) (h : i < (fs.length : Int)) : atI (fs.map W.int) i = some (.int (nth fs i)) := by
  have hn : i.toNat < fs.length := by omega
  have e : ixN (fs.map W.int).length i = some i.toNat := by
    unfold ixN
    rw [if_pos h0, List.length_map, if_pos h]
  unfold atI
  rw [e]
  show (fs.map W.int)[i.toNat]? = _
  rw [List.getElem?_map, List.getElem?_eq_getElem hn]
  simp [nth, List.getD, hn]
theorem ix_ok {M : Mem} {v : W} {fs : List Int} {i : Int} (h : IntL M v fs) (h0 : 0 ≤ i) (h1 : i < (fs.length : Int)) : oIx v (.int i) M = .ok (.int (nth fs i)) M := by
  simp only [oIx, Lst.seqOf h, at_nth h0 h1]
theorem len_ok {M : Mem} {v : W} {fs : List Int} (h : IntL M v fs) : fLen [v] M = .ok (.int fs.length) M := by
  unfold fLen
  simp only [Lst.seqOf h, List.length_map]
theorem ne_int {i j : Int} {M : Mem} : oNe (.int i) (.int j) M = .ok (.bl (!decide (i = j))) M := by
  unfold oNe eqO
  simp [VM.scal]
theorem eq_int {i j : Int} {M : Mem} : oEq (.int i) (.int j) M = .ok (.bl (decide (i = j))) M := by
  unfold oEq eqO
  simp [VM.scal]
theorem lt_int {i j : Int} {M : Mem} : oLt (.int i) (.int j) M = .ok (.bl (decide (i < j))) M := rfl
theorem gt_int {i j : Int} {M : Mem} : oGt (.int i) (.int j) M = .ok (.bl (decide (j < i))) M := rfl
theorem ge_int {i j : Int} {M : Mem} : oGe (.int i) (.int j) M = .ok (.bl (decide (j ≤ i))) M := rfl
theorem le_int {i j : Int} {M : Mem} : oLe (.int i) (.int j) M = .ok (.bl (decide (i ≤ j))) M := rfl
structure Sheet (s : Nat) (ns : List Int) : Prop where
  len : ns.length = s * s
  lo : ∀ x ∈ ns, 0 ≤ x
  hi : ∀ x ∈ ns, x ≤ (s : Int)
theorem mem_of_map {ns : List Int} {j : Nat} {x : W} (h : (ns.map W.int)[j]? = some x) : ∃ n ∈ ns, x = .int n ∧ ns[j]? = some n := by
  rw [List.getElem?_map] at h
  cases e : ns[j]? with
  | none => rw [e] at h; cases h
  | some n => rw [e] at h; exact ⟨n, List.mem_of_getElem? e, (Option.some.inj h).symm, rfl⟩
theorem pair_get (x y : W) (M : Mem) : (Src.pair x y).get M = .ok (.ref M.length) (M ++ [.tup [x, y]]) := by
  show newT [x, y] M = _
  exact newT_ok (by show 2 ≤ 16777216; decide)
theorem intsOf_map (ns : List Int) : intsOf (ns.map .int) = some ns := by
  induction ns with
  | nil => rfl
  | cons n r ih => simp only [List.map_cons, intsOf, ih]; rfl
theorem pick_ok {σ : St} {M : Mem} {vg vf : W} {g fs : List Int} (e : EM) (ef : EM) (k : Nat) (he : e σ M = .ok vg M) (hg : IntL M vg g) (hf : IntL M vf fs) (hin : ∀ i ∈ g, 0 ≤ i ∧ i < (fs.length : Int)) (hl : g.length ≤ 1000)
    (hef : ∀ x, ef ((σ ++ [none]).set k (some x)) M = .ok vf M) (hk : ∀ x, eVar k ((σ ++ [none]).set k (some x)) M = .ok x M) :
    eComp 1 [] (iSeq e) (gName k) tTrue (eOp oIx ef (eVar k)) σ M = .ok (.ref M.length) (M ++ [.lst ((g.map (nth fs)).map .int)]) := by
  obtain ⟨a, rfl, ha⟩ := hg
  unfold eComp
  have hi : iSeq e σ M = .ok ((g.map W.int).map .val, [(a, .lst (g.map .int))]) M := by unfold iSeq; rw [he]; simp only [R.bind, ha]
  rw [hi]
  simp only [R.bind, R.noex, clr, List.foldl_nil, List.replicate_succ, List.replicate_zero]
  rw [comp_flat (σ := σ ++ [none]) (fun _ => true) (fun x => match x with | .int i => .int (nth fs i) | _ => .non) _ _ _ (fun _ => rfl) (by simp [Chk.ok, ha]) ?_]
  · simp only [filter_tt, List.nil_append, List.map_map]
    exact newL_ok (by simp; omega)
  · intro x hx
    obtain ⟨i, hi2, rfl⟩ := List.mem_map.mp hx
    obtain ⟨h1, h2⟩ := hin i hi2
    refine ⟨rfl, fun _ => ?_⟩
    simp only [eOp, hef, hk, R.bind]
    exact ix_ok hf h1 h2
theorem flat_ints (ns : List Int) : (ns.map W.int).all flat = true := by
  induction ns with
  | nil => rfl
  | cons n r ih => simp only [List.map_cons, List.all_cons, ih, Bool.and_true]; rfl
theorem inW_ints (x : Int) (ns : List Int) : inW (.int x) (ns.map .int) = ns.any (· == x) := by
  unfold inW
  rw [List.any_map]
  rfl
theorem in_ok {M : Mem} {u : W} {fs : List Int} (x : Int) (h : IntL M u fs) : oIn (.int x) u M = .ok (.bl (fs.any (· == x))) M := by
  unfold oIn
  rw [Lst.seqOf h]
  simp only [flat, flat_ints, Bool.and_true, if_true, inW_ints]
theorem h3 {h : Nat} (hh : 1 ≤ h ∧ h ≤ 3) : h = 1 ∨ h = 2 ∨ h = 3 := by omega
def grpIn (h w : Nat) : Bool := (grps h w).all fun g => decide (g.length ≤ 9) && g.all fun i => decide (0 ≤ i) && decide (i < ((h * w * (h * w) : Nat) : Int))
theorem grp_in {h w : Nat} (hh : 1 ≤ h ∧ h ≤ 3) (hw : 1 ≤ w ∧ w ≤ 3) : ∀ g ∈ grps h w, g.length ≤ 9 ∧ ∀ i ∈ g, 0 ≤ i ∧ i < ((h * w * (h * w) : Nat) : Int) := by
  have key : grpIn h w = true := by
    rcases h3 hh with rfl | rfl | rfl <;> rcases h3 hw with rfl | rfl | rfl <;> decide +kernel
  intro g hg
  have h1 := List.all_eq_true.mp key g hg
  rw [Bool.and_eq_true] at h1
  refine ⟨of_decide_eq_true h1.1, fun i hi => ?_⟩
  have h2 := List.all_eq_true.mp h1.2 i hi
  rw [Bool.and_eq_true] at h2
  exact ⟨of_decide_eq_true h2.1, of_decide_eq_true h2.2⟩
theorem any_eq (l : List Int) (n : Int) : l.any (· == n) = true ↔ n ∈ l := by
  rw [List.any_eq_true]
  constructor
  · rintro ⟨x, h, e⟩
    rw [beq_iff_eq] at e; subst e; exact h
  · intro h
    exact ⟨n, h, by simp⟩
theorem nth_mem {fs : List Int} {i : Int} (h0 : 0 ≤ i) (h : i < (fs.length : Int)) : nth fs i ∈ fs := by
  have hn : i.toNat < fs.length := by omega
  have : nth fs i = fs[i.toNat] := by simp [nth, List.getD, hn]
  rw [this]
  exact List.getElem_mem hn
theorem nth_nat {fs : List Int} {j : Nat} (h : j < fs.length) : nth fs (j : Int) = fs[j] := by
  simp [nth, List.getD, h]
def Scr (M : Mem) (ns : List Int) : Prop := M[0]? = some (.frz (ns.map .int))
theorem Scr.mono {M M' : Mem} {ns : List Int} (h : Scr M ns) (p : M <+: M') : Scr M' ns := pre_get p h
theorem Scr.lstOf {M : Mem} {ns : List Int} (h : Scr M ns) : lstOf M (.ref 0) = some (ns.map .int) := by
  unfold Scr at h; simp only [VM.lstOf, h]
theorem Scr.seqOf {M : Mem} {ns : List Int} (h : Scr M ns) : seqOf M (.ref 0) = some (ns.map .int) := by
  simp only [VM.seqOf, h.lstOf]
theorem Scr.len {M : Mem} {ns : List Int} (h : Scr M ns) : fLen [.ref 0] M = .ok (.int ns.length) M := by
  unfold fLen
  simp only [h.seqOf, List.length_map]
theorem at_ok (ns : List Int) (M : Mem) (k : Int) (hM : Scr M ns) (hl : ns.length ≤ 63) :
    ∃ v M', d_L_at [.ref 0, .int k] M = .ok (.int v) M' ∧ M <+: M' := by
  have key : ∃ r M', d_L_at [.ref 0, .int k] M = .ok r M' ∧ ((∃ v : Int, r = .int v) ∧ M <+: M') := by
    refine sat_fn rfl ?_
    show (sSeq _ _ [some (.ref 0), some (.int k)] M).Sat _
    have hs : newL [] M = .ok (.ref M.length) (M ++ [.lst []]) := rfl
    have hS := hM.mono (pre_app M [.lst []])
    have L := Lst.new M []
    have hq : VM.scal (.ref 0) (.ref M.length) = false := rfl
    refine sat_seq (sat_if (c := decide (ns = [])) (M1 := M ++ [.lst []]) ?_ (fun hc => ?_) fun hc => ?_)
    · walk_at "ev"
      simp only [hs, oEq, eqO, hq, hS.lstOf, L.lstOf, Bool.false_eq_true, if_false]
      cases ns with
      | nil => rfl
      | cons n r =>
        have : eqSeq ((n :: r).map W.int) [] = some false := by
          unfold eqSeq
          rw [if_pos (by simp)]
        rw [this]
        simp
    · exact sat_ret rfl ⟨⟨_, rfl⟩, pre_app _ _⟩
    · refine sat_skip ?_
      dsimp only
      have hne : ns ≠ [] := of_decide_eq_false hc
      have hpos : 0 < ns.length := List.length_pos_iff.mpr hne
      have hd : (0 : Int) < (ns.length : Int) := by omega
      have m1 := mod_ok (M := M ++ [.lst []]) (i := k) hd
      have d1 := div_ok (M := M ++ [.lst []]) (i := k) hd (by omega)
      have e1 := Int.emod_nonneg k (show (ns.length : Int) ≠ 0 by omega)
      have e2 := Int.emod_lt_of_pos k hd
      have i1 : oIx (.ref 0) (.int (k % (ns.length : Int))) (M ++ [.lst []]) = .ok (.int (nth ns (k % (ns.length : Int)))) (M ++ [.lst []]) := by
        simp only [oIx, hS.seqOf, at_nth e1 e2]
      have u1 := mul_ok (M := M ++ [.lst []]) (i := 3) (j := k / (ns.length : Int)) (by decide)
      refine sat_ret (v := .int (nth ns (k % (ns.length : Int)) + 3 * (k / (ns.length : Int)))) (M1 := M ++ [.lst []]) ?_ ⟨⟨_, rfl⟩, pre_app _ _⟩
      walk_at "ev"
      simp only [hS.len, m1, d1, i1, u1]
  obtain ⟨r, M', e, ⟨v, rfl⟩, p⟩ := key
  exact ⟨v, M', e, p⟩
def amP : List (Int × Int) → AM
  | [] => aNil
  | p :: r => aCons (eTup (aCons (eC (.int p.1)) (aCons (eC (.int p.2)) aNil))) (amP r)
theorem amP_ok (σ : St) : ∀ (ps : List (Int × Int)) (M : Mem), ∃ vs M', amP ps σ M = .ok vs M' ∧ M <+: M' ∧ All2 (fun v p => Tup M' v [.int p.1, .int p.2]) vs ps
  | [], M => ⟨[], M, rfl, pre_rfl _, .nil⟩
  | p :: r, M => by
    have hn : newT [.int p.1, .int p.2] M = .ok (.ref M.length) (M ++ [.tup [.int p.1, .int p.2]]) := newT_ok (by show 2 ≤ 16777216; decide)
    obtain ⟨vs, M', e, q, a⟩ := amP_ok σ r (M ++ [.tup [.int p.1, .int p.2]])
    refine ⟨.ref M.length :: vs, M', ?_, (pre_app _ _).trans q, .cons ((Tup.new M _).mono q) a⟩
    unfold amP
    walk_at "ev"
    simp only [hn, e]
theorem pick_shape (σ : St) (M : Mem) (ps : List (Int × Int)) (hps : ps.length ≤ 100) (hb : ∀ p ∈ ps, (∃ h : Nat, p.1 = h ∧ 1 ≤ h ∧ h ≤ 3) ∧ ∃ w : Nat, p.2 = w ∧ 1 ≤ w ∧ w ≤ 3) (ei : EM) (i : Int) (h0 : 0 ≤ i) (h1 : i < ps.length) (hi : ∀ M', M <+: M' → ei σ M' = .ok (.int i) M') :
    ∃ v M' , eOp oIx (eLst (amP ps)) ei σ M = .ok v M' ∧ M <+: M' ∧ ∃ h w : Nat, Tup M' v [.int h, .int w] ∧ (1 ≤ h ∧ h ≤ 3) ∧ (1 ≤ w ∧ w ≤ 3) := by
  obtain ⟨vs, M1, e1, p1, a⟩ := amP_ok σ ps M
  have hl := a.len
  have hn : newL vs M1 = .ok (.ref M1.length) (M1 ++ [.lst vs]) := newL_ok (by omega)
  have L := Lst.new M1 vs
  have hj : i.toNat < ps.length := by omega
  have hjv : ps[i.toNat]? = some ps[i.toNat] := List.getElem?_eq_getElem hj
  obtain ⟨v, hv, ht⟩ := a.at' hjv
  obtain ⟨⟨h, eh, bh⟩, w, ew, bw⟩ := hb _ (List.getElem_mem hj)
  refine ⟨v, M1 ++ [.lst vs], ?_, p1.trans (pre_app _ _), h, w, ?_, bh, bw⟩
  · have hat : atI vs i = some v := by
      unfold atI ixN
      rw [if_pos h0, if_pos (by omega)]
      exact hv
    unfold eOp eLst
    simp only [e1, R.bind, hn, hi _ (p1.trans (pre_app _ _)), oIx, L.seqOf, hat]
  · rw [← eh, ← ew]
    exact ht.mono (pre_app _ _)
def ShapeSpec (f : CM) : Prop := ∀ (M : Mem) (ns : List Int), Scr M ns → ns.length ≤ 63 → ∃ v M', f [.ref 0] M = .ok v M' ∧ M <+: M' ∧ ∃ h w : Nat, Tup M' v [.int h, .int w] ∧ (1 ≤ h ∧ h ≤ 3) ∧ (1 ≤ w ∧ w ≤ 3)
theorem shape_of_ok (c : Int) (M : Mem) : ∃ v M', d_L_shape_of [.int c] M = .ok v M' ∧ M <+: M' ∧ ∃ h w : Nat, Tup M' v [.int h, .int w] ∧ (1 ≤ h ∧ h ≤ 3) ∧ (1 ≤ w ∧ w ≤ 3) := by
  refine sat_fn rfl ?_
  show (sRet _ [some (.int c)] M).Sat _
  obtain ⟨v, M', e, r⟩ := pick_shape [some (.int c)] M [(2, 2), (2, 2), (1, 3), (3, 1), (2, 1), (1, 2), (2, 2), (1, 1)] (by decide) (by
    intro p hp
    simp only [List.mem_cons, List.not_mem_nil, or_false] at hp
    rcases hp with rfl | rfl | rfl | rfl | rfl | rfl | rfl | rfl <;> exact ⟨⟨_, rfl, by decide⟩, _, rfl, by decide⟩)
    (eOp oMod (eVar 0) (eC (.int 8))) (c % 8) (by omega) (by show c % 8 < ((8 : Nat) : Int); omega) (fun M' _ => by
      have := mod_ok (M := M') (i := c) (j := 8) (by decide)
      walk_at "ev"; exact this)
  exact sat_ret e r
theorem cut_map (ns : List Int) (lo hi : Option Int) : cut (ns.map W.int) lo hi = (cut ns lo hi).map W.int := by
  unfold cut
  simp [List.map_drop, List.map_take]
theorem cut_len (ns : List Int) (lo hi : Option Int) : (cut ns lo hi).length ≤ ns.length := by
  unfold cut
  rw [List.length_take, List.length_drop]
  omega
theorem Scr.cut {M : Mem} {ns : List Int} (h : Scr M ns) (hl : ns.length ≤ 63) (lo hi : Option Int) : cutO (.ref 0) lo hi M = .ok (.ref M.length) (M ++ [.lst ((VM.cut ns lo hi).map .int)]) := by
  unfold cutO
  rw [h.lstOf]
  simp only [cut_map]
  exact newL_ok (by have := cut_len ns lo hi; simp; omega)
theorem own_get (M J : Mem) (o : O) : (M ++ o :: J)[M.length]? = some o := by simp
theorem own_set (M J : Mem) (o o' : O) : (M ++ o :: J).set M.length o' = M ++ o' :: J := by simp
theorem own_app (M J J2 : Mem) (o : O) : (M ++ o :: J) ++ J2 = M ++ o :: (J ++ J2) := by simp
theorem own_pre (M J : Mem) (o : O) : M <+: M ++ o :: J := ⟨o :: J, rfl⟩
theorem app_ok {σ : St} {M M1 : Mem} {a : Nat} {xs : List W} {o arg : EM} {y : W} (ho : o σ M = .ok (.ref a) M) (h : M[a]? = some (.lst xs)) (he : arg σ M = .ok y M1) (h1 : M1[a]? = some (.lst xs)) (hl : xs.length < 16777216) :
    eMeth mAppend o (aCons arg aNil) σ M = .ok .non (M1.set a (.lst (xs ++ [y]))) := by
  unfold eMeth
  rw [ho]
  simp only [R.bind, lstOf_at h, aCons, he, aNil, append_ok h1 hl]
def numE : EM := eOp oMod (eOp oAdd (eOp oAdd (eOp oMul (eVar 1) (eOp oMod (eVar 6) (eVar 0))) (eOp oDiv (eVar 6) (eVar 0))) (eVar 7)) (eVar 3)
def putE : EM := eOp oAdd (eOp oMod (eOp oAdd (eOp oMul (eVar 8) (eOp oIx (eLst (aCons (eC (.int 1)) (aCons (eOp oSub (eVar 3) (eC (.int 1))) aNil))) (eOp oMod (eOp oDiv (eVar 2) (eC (.int 5))) (eC (.int 2))))) (eVar 4)) (eVar 3)) (eC (.int 1))
def Good (s : Nat) (l : List Int) : Prop := ∀ x ∈ l, 1 ≤ x ∧ x ≤ (s : Int)
theorem Good.app {s : Nat} {l : List Int} (h : Good s l) {z : Int} (h1 : 1 ≤ z) (h2 : z ≤ s) : Good s (l ++ [z]) := fun x hx => by
  rcases List.mem_append.mp hx with q | q
  · exact h x q
  · rw [List.mem_singleton] at q; subst q; exact ⟨h1, h2⟩
theorem num_ok (h w s : Nat) (c t r k : Int) (f a b d : Option W) (hh : 1 ≤ h ∧ h ≤ 3) (hw : 1 ≤ w ∧ w ≤ 3) (hs : 1 ≤ s ∧ s ≤ 9) (M : Mem) :
    ∃ z : Int, numE [some (.int h), some (.int w), some (.int c), some (.int s), some (.int t), f, some (.int r), some (.int k), a, b, d] M = .ok (.int z) M ∧ 0 ≤ z ∧ z < s := by
  have h1 := mod_ok (M := M) (i := r) (j := h) (by omega)
  have h2 := mul_ok (M := M) (i := (w : Int)) (j := r % h) (by omega)
  have h3 := div_ok (M := M) (i := r) (j := h) (by omega) (by omega)
  have h4 := mod_ok (M := M) (i := (w : Int) * (r % h) + r / h + k) (j := s) (by omega)
  refine ⟨((w : Int) * (r % h) + r / h + k) % s, ?_, Int.emod_nonneg _ (by omega), Int.emod_lt_of_pos _ (by omega)⟩
  unfold numE
  walk_at "ev"
  simp only [h1, h2, h3, h4]
theorem put_ok (h w s : Nat) (c t r k z : Int) (f b d : Option W) (hs : 1 ≤ s ∧ s ≤ 9) (hz : 0 ≤ z ∧ z < s) (M : Mem) :
    ∃ y : Int, putE [some (.int h), some (.int w), some (.int c), some (.int s), some (.int t), f, some (.int r), some (.int k), some (.int z), b, d] M = .ok (.int y) (M ++ [.lst [.int 1, .int ((s : Int) - 1)]]) ∧ 1 ≤ y ∧ y ≤ s := by
  have hn : newL [.int 1, .int ((s : Int) - 1)] M = .ok (.ref M.length) (M ++ [.lst [.int 1, .int ((s : Int) - 1)]]) := newL_ok (by show 2 ≤ 16777216; decide)
  have L : IntL (M ++ [.lst [.int 1, .int ((s : Int) - 1)]]) (.ref M.length) [1, (s : Int) - 1] := Lst.new M _
  have h1 := div_ok (M := M ++ [.lst [.int 1, .int ((s : Int) - 1)]]) (i := c) (j := 5) (by decide) (by decide)
  have h2 := mod_ok (M := M ++ [.lst [.int 1, .int ((s : Int) - 1)]]) (i := c / 5) (j := 2) (by decide)
  have i1 := ix_ok L (i := c / 5 % 2) (by omega) (by show c / 5 % 2 < ((2 : Nat) : Int); omega)
  have h3 := mul_ok (M := M ++ [.lst [.int 1, .int ((s : Int) - 1)]]) (i := z) (j := nth [1, (s : Int) - 1] (c / 5 % 2)) (by omega)
  have h4 := mod_ok (M := M ++ [.lst [.int 1, .int ((s : Int) - 1)]]) (i := z * nth [1, (s : Int) - 1] (c / 5 % 2) + t) (j := s) (by omega)
  refine ⟨(z * nth [1, (s : Int) - 1] (c / 5 % 2) + t) % s + 1, ?_, ?_, ?_⟩
  · unfold putE
    walk_at "ev"
    simp only [hn, h1, h2, i1, h3, h4]
  · have := Int.emod_nonneg (z * nth [1, (s : Int) - 1] (c / 5 % 2) + t) (show (s : Int) ≠ 0 by omega)
    omega
  · have := Int.emod_lt_of_pos (z * nth [1, (s : Int) - 1] (c / 5 % 2) + t) (show (0 : Int) < s by omega)
    omega
def FullSpec (f : CM) : Prop := ∀ (h w : Nat) (c : Int) (M : Mem), 1 ≤ h ∧ h ≤ 3 → 1 ≤ w ∧ w ≤ 3 → ∃ v M', f [.int h, .int w, .int c] M = .ok v M' ∧ M <+: M' ∧ ∃ fs, IntL M' v fs ∧ fs.length = h * w * (h * w) ∧ Good (h * w) fs
theorem full_ok : FullSpec d_L_full_sheet := by
  intro h w c M hh hw
  refine sat_fn rfl ?_
  have hs9 : h * w ≤ 9 := Nat.le_trans (Nat.mul_le_mul hh.2 hw.2) (by decide)
  have hs1 : 1 ≤ h * w := Nat.mul_pos hh.1 hw.1
  have m1 := mul_ok (M := M) (i := (h : Int)) (j := (w : Int)) (by omega)
  have es : (h : Int) * (w : Int) = ((h * w : Nat) : Int) := by simp
  show (sSeq _ _ [some (.int h), some (.int w), some (.int c), none, none, none, none, none, none, none, none] M).Sat _
  refine sat_seq (sat_set (v := .int ((h : Int) * w)) (M1 := M) (by walk_at "ev"; simp only [m1]) ?_)
  simp only [List.set_cons_zero, List.set_cons_succ, es]
  generalize hsz : h * w = s at hs9 hs1
  have m2 := mod_ok (M := M) (i := c) (j := s) (by omega)
  refine sat_seq (sat_set (v := .int (c % s)) (M1 := M) (by walk_at "ev"; simp only [m2]) ?_)
  simp only [List.set_cons_zero, List.set_cons_succ]
  refine sat_seq (sat_set (v := .ref M.length) (M1 := M ++ [.lst []]) rfl ?_)
  simp only [List.set_cons_zero, List.set_cons_succ]
  refine sat_seq ?_
  have r1 : (s : Int).natAbs < two62 := rng_ok (by omega) (by omega)
  refine sat_rng (lo := 0) (n := s) (M1 := M ++ [.lst []]) (by walk_at "ev"; rw [if_pos r1, Int.toNat_natCast])
    (fun j σ M' => (∃ x y z, σ = [some (.int h), some (.int w), some (.int c), some (.int s), some (.int (c % s)), some (.ref M.length), x, y, z, none, none]) ∧ ∃ l J, M' = M ++ .lst (l.map .int) :: J ∧ l.length = j * s ∧ Good s l) ⟨⟨_, _, _, rfl⟩, [], [], rfl, by simp, fun x hx => by simp at hx⟩ ?_ ?_
  · rintro j σ M' hj ⟨⟨x, y, z, rfl⟩, l, J, rfl, ll, lg⟩
    simp only [List.set_cons_zero, List.set_cons_succ]
    refine sat_rng (lo := 0) (n := s) (M1 := M ++ .lst (l.map .int) :: J) (by walk_at "ev"; rw [if_pos r1, Int.toNat_natCast])
      (fun k σ M' => (∃ y z, σ = [some (.int h), some (.int w), some (.int c), some (.int s), some (.int (c % s)), some (.ref M.length), some (.int (0 + (j : Int))), y, z, none, none]) ∧ ∃ l J, M' = M ++ .lst (l.map .int) :: J ∧ l.length = j * s + k ∧ Good s l) ⟨⟨_, _, rfl⟩, l, J, rfl, by simpa using ll, lg⟩ ?_ ?_
    · rintro k σ M' hk ⟨⟨y, z, rfl⟩, l, J, rfl, ll, lg⟩
      simp only [List.set_cons_zero, List.set_cons_succ]
      obtain ⟨zz, e1, z0, z1⟩ := num_ok h w s c (c % s) (0 + (j : Int)) (0 + (k : Int)) (some (.ref M.length)) z none none hh hw ⟨hs1, hs9⟩ (M ++ .lst (l.map .int) :: J)
      refine sat_seq (sat_set (v := .int zz) (M1 := M ++ .lst (l.map .int) :: J) e1 ?_)
      simp only [List.set_cons_zero, List.set_cons_succ]
      obtain ⟨yy, e2, y0, y1⟩ := put_ok h w s c (c % s) (0 + (j : Int)) (0 + (k : Int)) zz (some (.ref M.length)) none none ⟨hs1, hs9⟩ ⟨z0, z1⟩ (M ++ .lst (l.map .int) :: J)
      have hlen : (l.map W.int).length < 16777216 := by
        have : j * s ≤ 9 * 9 := Nat.mul_le_mul (by omega) hs9
        rw [List.length_map]; omega
      have a1 := app_ok (σ := [some (.int h), some (.int w), some (.int c), some (.int s), some (.int (c % s)), some (.ref M.length), some (.int (0 + (j : Int))), some (.int (0 + (k : Int))), some (.int zz), none, none]) (o := eVar 5) rfl (own_get M J _) e2 (by rw [own_app]; exact own_get M _ _) hlen
      rw [own_app, own_set] at a1
      refine sat_expr a1 ?_
      refine ⟨⟨_, _, rfl⟩, l ++ [yy], J ++ [.lst [.int 1, .int ((s : Int) - 1)]], by simp, ?_, lg.app y0 y1⟩
      rw [List.length_append, ll]
      simp only [List.length_cons, List.length_nil]
      omega
    · rintro σ M' ⟨⟨y, z, rfl⟩, l, J, rfl, ll, lg⟩
      exact ⟨⟨_, _, _, rfl⟩, l, J, rfl, by rw [ll, Nat.succ_mul], lg⟩
  · rintro σ M' ⟨⟨x, y, z, rfl⟩, l, J, rfl, ll, lg⟩
    dsimp only
    generalize hM2 : M ++ O.lst (l.map .int) :: J = M2
    have p2 : M <+: M2 := by rw [← hM2]; exact own_pre _ _ _
    have L2 : IntL M2 (.ref M.length) l := ⟨_, rfl, by rw [← hM2]; exact own_get M J _⟩
    refine sat_seq ?_
    have d7 := div_ok (M := M2) (i := c) (j := 7) (by decide) (by decide)
    have q7 := mod_ok (M := M2) (i := c / 7) (j := 2) (by decide)
    refine sat_if (c := decide (c / 7 % 2 = 1) && decide (h = w)) (M1 := M2) ?_ (fun _ => ?_) fun _ => ?_
    · walk_at "ev"
      simp only [d7, q7, eq_int]
      have : decide ((h : Int) = w) = decide (h = w) := by rw [Bool.eq_iff_iff, decide_eq_true_iff, decide_eq_true_iff]; omega
      rw [this]
      cases decide (c / 7 % 2 = 1) <;> rfl
    · refine sat_seq (sat_set (v := .ref M2.length) (M1 := M2 ++ [.lst []]) rfl ?_)
      simp only [List.set_cons_zero, List.set_cons_succ]
      refine sat_seq ?_
      have m3 := mul_ok (M := M2 ++ [.lst []]) (i := (s : Int)) (j := (s : Int)) (by omega)
      have es2 : (s : Int) * (s : Int) = ((s * s : Nat) : Int) := by simp
      have hss : s * s ≤ 9 * 9 := Nat.mul_le_mul hs9 hs9
      have r2 : ((s * s : Nat) : Int).natAbs < two62 := rng_ok (by omega) (by omega)
      refine sat_rng (lo := 0) (n := s * s) (M1 := M2 ++ [.lst []]) (by walk_at "ev"; simp only [m3]; rw [es2, if_pos r2, Int.toNat_natCast])
        (fun j σ M' => (∃ u, σ = [some (.int h), some (.int w), some (.int c), some (.int s), some (.int (c % s)), some (.ref M.length), x, y, z, some (.ref M2.length), u]) ∧ ∃ l, M' = M2 ++ [.lst (l.map .int)] ∧ l.length = j ∧ Good s l) ⟨⟨_, rfl⟩, [], rfl, rfl, fun x hx => by simp at hx⟩ ?_ ?_
      · rintro j σ M' hj ⟨⟨u, rfl⟩, l2, rfl, ll2, lg2⟩
        simp only [List.set_cons_zero, List.set_cons_succ]
        have ez : (0 : Int) + (j : Int) = (j : Int) := by omega
        have n1 := mod_ok (M := M2 ++ [.lst (l2.map .int)]) (i := (j : Int)) (j := (s : Int)) (by omega)
        have n2 := mul_ok (M := M2 ++ [.lst (l2.map .int)]) (i := (j : Int) % (s : Int)) (j := (s : Int)) (by
          have a := Int.emod_nonneg (j : Int) (show (s : Int) ≠ 0 by omega)
          have b := Int.emod_lt_of_pos (j : Int) (show (0 : Int) < s by omega)
          omega)
        have n3 := div_ok (M := M2 ++ [.lst (l2.map .int)]) (i := (j : Int)) (j := (s : Int)) (by omega) (by omega)
        have e3 : (j : Int) % (s : Int) * (s : Int) + (j : Int) / (s : Int) = ((j % s * s + j / s : Nat) : Int) := by simp
        have b3 : j % s * s + j / s < s * s := by
          have a := Nat.mod_lt j hs1
          have b : j / s < s := Nat.div_lt_of_lt_mul hj
          have d : (j % s + 1) * s ≤ s * s := Nat.mul_le_mul_right s a
          rw [Nat.succ_mul] at d
          omega
        have i3 := ix_ok (L2.mono (pre_app M2 [.lst (l2.map .int)])) (i := ((j % s * s + j / s : Nat) : Int)) (Int.natCast_nonneg _) (by rw [ll]; exact Int.ofNat_lt.mpr b3)
        have ge : eOp oIx (eVar 5) (eOp oAdd (eOp oMul (eOp oMod (eVar 10) (eVar 3)) (eVar 3)) (eOp oDiv (eVar 10) (eVar 3))) [some (.int h), some (.int w), some (.int c), some (.int s), some (.int (c % s)), some (.ref M.length), x, y, z, some (.ref M2.length), some (.int (0 + (j : Int)))] (M2 ++ [.lst (l2.map .int)]) = .ok (.int (nth l ((j % s * s + j / s : Nat) : Int))) (M2 ++ [.lst (l2.map .int)]) := by
          walk_at "ev"
          simp only [ez, n1, n2, n3, e3, i3]
        have a1 := app_ok (o := eVar 9) rfl (get_last M2 _) ge (get_last M2 _) (by rw [List.length_map]; omega)
        rw [set_last] at a1
        refine sat_expr a1 ?_
        have hm := nth_mem (fs := l) (i := ((j % s * s + j / s : Nat) : Int)) (Int.natCast_nonneg _) (by rw [ll]; exact Int.ofNat_lt.mpr b3)
        exact ⟨⟨_, rfl⟩, l2 ++ [nth l ((j % s * s + j / s : Nat) : Int)], by simp, by rw [List.length_append, ll2]; rfl, lg2.app (lg _ hm).1 (lg _ hm).2⟩
      · rintro σ M' ⟨⟨u, rfl⟩, l2, rfl, ll2, lg2⟩
        dsimp only
        refine sat_set (v := .ref M2.length) (M1 := M2 ++ [.lst (l2.map .int)]) rfl ?_
        simp only [List.set_cons_zero, List.set_cons_succ]
        refine sat_ret (v := .ref M2.length) (M1 := M2 ++ [.lst (l2.map .int)]) rfl ?_
        exact ⟨p2.trans (pre_app _ _), l2, Lst.new _ _, ll2, lg2⟩
    · refine sat_skip ?_
      dsimp only
      exact sat_ret (v := .ref M.length) (M1 := M2) rfl ⟨p2, l, L2, ll, lg⟩
theorem by_ok (M : Mem) (vf vc : W) (fs cs : List Int) (sh : Int) (hf : IntL M vf fs) (hc : IntL M vc cs) (hl : fs.length ≤ 81) : ∃ ss : List Int, d_L_sheet_by [vf, vc, .int sh] M = .ok (.ref M.length) (M ++ [.lst (ss.map .int)]) ∧ ss.length = fs.length ∧ ∀ j : Nat, j < fs.length → (nth ss j = 0 ∨ nth ss j = nth fs j) := by
  suffices key : ∃ v M', d_L_sheet_by [vf, vc, .int sh] M = .ok v M' ∧ ∃ ss : List Int, v = .ref M.length ∧ M' = M ++ [.lst (ss.map .int)] ∧ ss.length = fs.length ∧ ∀ j : Nat, j < fs.length → (nth ss j = 0 ∨ nth ss j = nth fs j) by
    obtain ⟨v, M', e, ss, rfl, rfl, h⟩ := key
    exact ⟨ss, e, h⟩
  refine sat_fn rfl ?_
  show (sSeq _ _ [some vf, some vc, some (.int sh), none, none, none] M).Sat _
  refine sat_seq (sat_set (v := .ref M.length) (M1 := M ++ [.lst []]) rfl ?_)
  simp only [List.set_cons_zero, List.set_cons_succ]
  refine sat_seq ?_
  have r1 : (fs.length : Int).natAbs < two62 := rng_ok (by omega) (by omega)
  refine sat_rng (lo := 0) (n := fs.length) (M1 := M ++ [.lst []]) (by walk_at "ev"; simp only [len_ok (Lst.mono hf (pre_app M _))]; rw [if_pos r1, Int.toNat_natCast])
    (fun j σ M' => (∃ x y, σ = [some vf, some vc, some (.int sh), some (.ref M.length), x, y]) ∧ ∃ l, M' = M ++ [.lst (l.map .int)] ∧ l.length = j ∧ ∀ i : Nat, i < j → (nth l i = 0 ∨ nth l i = nth fs i)) ⟨⟨_, _, rfl⟩, [], rfl, rfl, fun i hi => by omega⟩ ?_ ?_
  · rintro j σ M' hj ⟨⟨x, y, rfl⟩, l, rfl, ll, lg⟩
    simp only [List.set_cons_zero, List.set_cons_succ]
    have ez : (0 : Int) + (j : Int) = (j : Int) := by omega
    have F := Lst.mono hf (pre_app M [.lst (l.map .int)])
    have C := Lst.mono hc (pre_app M [.lst (l.map .int)])
    refine sat_seq (sat_set (v := .int 0) (M1 := M ++ [.lst (l.map .int)]) rfl ?_)
    simp only [List.set_cons_zero, List.set_cons_succ]
    have step : ∀ cell : Int, (sExpr (eMeth mAppend (eVar 3) (aCons (eOp oMul (eOp oIx (eVar 0) (eVar 4)) (eCall fInt (aCons (eOp oGe (eOp oMod (eOp oAdd (eVar 5) (eVar 4)) (eC (.int 7))) (eVar 2)) aNil))) aNil)) [some vf, some vc, some (.int sh), some (.ref M.length), some (.int (0 + (j : Int))), some (.int cell)] (M ++ [.lst (l.map .int)])).Sat
        { nx := fun σ M' => (∃ x y, σ = [some vf, some vc, some (.int sh), some (.ref M.length), x, y]) ∧ ∃ l, M' = M ++ [.lst (l.map .int)] ∧ l.length = j + 1 ∧ ∀ i : Nat, i < j + 1 → (nth l i = 0 ∨ nth l i = nth fs i), rt := fun _ _ => False } := by
      intro cell
      have i1 := ix_ok F (i := (j : Int)) (by omega) (by omega)
      have m1 := mod_ok (M := M ++ [.lst (l.map .int)]) (i := cell + (j : Int)) (j := 7) (by decide)
      have hone : ∀ b : Bool, (if b then (1 : Int) else 0).natAbs ≤ 1000000 := fun b => by cases b <;> decide
      have m2 : ∀ b : Bool, oMul (.int (nth fs j)) (.int (if b then 1 else 0)) (M ++ [.lst (l.map .int)]) = .ok (.int (nth fs j * (if b then 1 else 0))) (M ++ [.lst (l.map .int)]) := fun b => if_pos (.inr (by have := hone b; unfold two64; omega))
      have ge : eOp oMul (eOp oIx (eVar 0) (eVar 4)) (eCall fInt (aCons (eOp oGe (eOp oMod (eOp oAdd (eVar 5) (eVar 4)) (eC (.int 7))) (eVar 2)) aNil)) [some vf, some vc, some (.int sh), some (.ref M.length), some (.int (0 + (j : Int))), some (.int cell)] (M ++ [.lst (l.map .int)]) = .ok (.int (nth fs j * (if decide (sh ≤ (cell + (j : Int)) % 7) then 1 else 0))) (M ++ [.lst (l.map .int)]) := by
        walk_at "ev"
        simp only [ez, i1, m1, ge_int, fInt, m2]
      have a1 := app_ok (o := eVar 3) rfl (get_last M _) ge (get_last M _) (by rw [List.length_map]; omega)
      rw [set_last] at a1
      refine sat_expr a1 ⟨⟨_, _, rfl⟩, l ++ [nth fs j * (if decide (sh ≤ (cell + (j : Int)) % 7) then 1 else 0)], by simp, by rw [List.length_append, ll]; rfl, fun i hi => ?_⟩
      by_cases q : i < j
      · have := lg i q
        have e : nth (l ++ [nth fs j * (if decide (sh ≤ (cell + (j : Int)) % 7) then 1 else 0)]) i = nth l i := by
          have h1 : i < l.length := by omega
          rw [nth_nat h1, nth_nat (by rw [List.length_append]; omega), List.getElem_append_left h1]
        rw [e]; exact this
      · have q' : i = l.length := by omega
        subst q'
        rw [nth_nat (j := l.length) (by simp)]
        simp only [List.getElem_concat_length]
        rw [← ll]
        split
        · right; omega
        · left; omega
    refine sat_seq (sat_if (c := decide ((j : Int) < (cs.length : Int))) (M1 := M ++ [.lst (l.map .int)]) ?_ (fun hc2 => ?_) fun _ => ?_)
    · walk_at "ev"
      simp only [ez, len_ok C, lt_int]
    · have hb : (j : Int) < (cs.length : Int) := of_decide_eq_true hc2
      refine sat_set (v := .int (nth cs j)) (M1 := M ++ [.lst (l.map .int)]) (by walk_at "ev"; simp only [ez]; exact ix_ok C (by omega) hb) ?_
      simp only [List.set_cons_zero, List.set_cons_succ]
      exact RS.Sat.mono (step _) (fun _ _ q => q) (fun _ _ q => q.elim) (fun _ _ q => q.elim) (fun _ _ q => q.elim)
    · refine sat_skip ?_
      dsimp only
      exact RS.Sat.mono (step _) (fun _ _ q => q) (fun _ _ q => q.elim) (fun _ _ q => q.elim) (fun _ _ q => q.elim)
  · rintro σ M' ⟨⟨x, y, rfl⟩, l, rfl, ll, lg⟩
    dsimp only
    refine sat_ret (v := .ref M.length) (M1 := M ++ [.lst (l.map .int)]) rfl ?_
    exact ⟨l, rfl, rfl, ll, lg⟩
theorem comp_nils {i : Nat} : ∀ (xs : List W) (σ : St) (M : Mem) (acc : List W), comp [] (gName i) tTrue (eLst aNil) (xs.map .val) σ M acc = .ok (acc ++ (List.range' M.length xs.length).map .ref) (M ++ List.replicate xs.length (.lst []))
  | [], σ, M, acc => by
    rw [List.map_nil, comp, if_pos (show Chk.ok [] M = true from rfl)]; simp
  | x :: r, σ, M, acc => by
    rw [List.map_cons, comp, if_pos (show Chk.ok [] M = true from rfl)]
    have hn : newL [] M = .ok (.ref M.length) (M ++ [.lst []]) := rfl
    simp only [Src.get, R.bind, gName, tTrue, if_true, eLst, aNil, hn]
    have := comp_nils (i := i) r (σ.set i (some x)) (M ++ [.lst []]) (acc ++ [.ref M.length])
    unfold eLst aNil at this
    simp only [R.bind] at this
    refine this.trans ?_
    simp [List.range'_succ, List.replicate_succ]
def enc (A : List (List Int)) : Mem := A.map fun l => O.lst (l.map .int)
theorem enc_get (M K : Mem) (A : List (List Int)) (g : Nat) (hg : g < A.length) : (M ++ (enc A ++ K))[M.length + g]? = some (.lst ((A[g]).map .int)) := by
  rw [List.getElem?_append_right (by omega), Nat.add_sub_cancel_left, List.getElem?_append_left (by simpa [enc] using hg)]
  simp [enc, hg]
theorem enc_set (M K : Mem) (A : List (List Int)) (g : Nat) (l : List Int) (hg : g < A.length) : (M ++ (enc A ++ K)).set (M.length + g) (.lst (l.map .int)) = M ++ (enc (A.set g l) ++ K) := by
  rw [List.set_append_right _ _ (by omega), Nat.add_sub_cancel_left, List.set_append_left _ _ (by simpa [enc] using hg)]
  simp [enc, List.map_set]
def addTo (p : Int) (A : List (List Int)) (g : Nat) : List (List Int) := A.set g (A.getD g [] ++ [p])
theorem addTo_len (p : Int) (A : List (List Int)) (g : Nat) : (addTo p A g).length = A.length := by simp [addTo]
def gsOf (h w p : Nat) : List Nat := [p / (h * w), h * w + p % (h * w), 2 * (h * w) + (p / (h * w) / h * h + p % (h * w) / w)]
def AG (h w n : Nat) : List (List Int) := (List.range n).foldl (fun A (p : Nat) => (gsOf h w p).foldl (addTo (p : Int)) A) (List.replicate (3 * (h * w)) [])
theorem AG_succ (h w n : Nat) : AG h w (n + 1) = (gsOf h w n).foldl (addTo (n : Int)) (AG h w n) := by
  unfold AG
  rw [List.range_succ, List.foldl_append]
  rfl
theorem foldTo_len (p : Int) : ∀ (gs : List Nat) (A : List (List Int)), (gs.foldl (addTo p) A).length = A.length
  | [], _ => rfl
  | g :: r, A => by rw [List.foldl_cons, foldTo_len p r, addTo_len]
theorem AG_len (h w n : Nat) : (AG h w n).length = 3 * (h * w) := by
  induction n with
  | zero => simp [AG]
  | succ n ih => rw [AG_succ, foldTo_len, ih]
theorem AG_grps {h w : Nat} (hh : 1 ≤ h ∧ h ≤ 3) (hw : 1 ≤ w ∧ w ≤ 3) : AG h w (h * w * (h * w)) = grps h w := by
  rcases h3 hh with rfl | rfl | rfl <;> rcases h3 hw with rfl | rfl | rfl <;> decide +kernel
theorem gs_in {h w p : Nat} (hh : 1 ≤ h ∧ h ≤ 3) (hw : 1 ≤ w ∧ w ≤ 3) (hp : p < h * w * (h * w)) : ∀ g ∈ gsOf h w p, g < 3 * (h * w) := by
  intro g hg
  simp only [gsOf, List.mem_cons, List.not_mem_nil, or_false] at hg
  rcases h3 hh with rfl | rfl | rfl <;> rcases h3 hw with rfl | rfl | rfl <;> simp at hp hg ⊢ <;> omega
theorem All2.of_get {α β : Type} {R : α → β → Prop} : ∀ {l : List α} {m : List β}, l.length = m.length → (∀ (i : Nat) x y, l[i]? = some x → m[i]? = some y → R x y) → All2 R l m
  | [], [], _, _ => .nil
  | x :: l, y :: m, h, f => .cons (f 0 x y rfl rfl) (All2.of_get (by simpa using h) fun i a b ha hb => f (i + 1) a b (by simpa using ha) (by simpa using hb))
  | [], _ :: _, h, _ => by simp at h
  | _ :: _, [], h, _ => by simp at h
theorem all_groups_ok : GroupsSpec d_L_all_groups := by
  intro h w M hh hw
  refine sat_fn rfl ?_
  have hs9 : h * w ≤ 9 := Nat.le_trans (Nat.mul_le_mul hh.2 hw.2) (by decide)
  have hs1 : 1 ≤ h * w := Nat.mul_pos hh.1 hw.1
  have m1 := mul_ok (M := M) (i := (h : Int)) (j := (w : Int)) (by omega)
  have es : (h : Int) * (w : Int) = ((h * w : Nat) : Int) := by simp
  show (sSeq _ _ [some (.int h), some (.int w), none, none, none, none, none, none, none] M).Sat _
  refine sat_seq (sat_set (v := .int ((h : Int) * w)) (M1 := M) (by walk_at "ev"; simp only [m1]) ?_)
  simp only [List.set_cons_zero, List.set_cons_succ, es]
  have gi : ∀ p, p < h * w * (h * w) → ∀ g ∈ gsOf h w p, g < 3 * (h * w) := fun p hp => gs_in hh hw hp
  have hag := AG_len h w
  have agr := AG_grps hh hw
  have ags := AG_succ h w
  have gsd : ∀ p, gsOf h w p = [p / (h * w), h * w + p % (h * w), 2 * (h * w) + (p / (h * w) / h * h + p % (h * w) / w)] := fun p => rfl
  have ag0 : AG h w 0 = List.replicate (3 * (h * w)) [] := rfl
  generalize hsz : h * w = s at hs9 hs1 gi hag agr gsd ag0
  have m3 := mul_ok (M := M) (i := (3 : Int)) (j := (s : Int)) (by decide)
  have e3 : (3 : Int) * (s : Int) = ((3 * s : Nat) : Int) := by simp
  have r3 : ((3 * s : Nat) : Int).natAbs < two62 := rng_ok (by omega) (by omega)
  have hrefs : ((List.range' M.length (3 * s)).map W.ref).length = 3 * s := by simp
  have hc : eComp 1 [] (iRng1 (eOp oMul (eC (.int 3)) (eVar 2))) (gName 9) tTrue (eLst aNil) [some (.int h), some (.int w), some (.int s), none, none, none, none, none, none] M = .ok (.ref (M.length + 3 * s)) (M ++ (enc (AG h w 0) ++ [.lst ((List.range' M.length (3 * s)).map .ref)])) := by
    unfold eComp
    have hi : iRng1 (eOp oMul (eC (.int 3)) (eVar 2)) [some (.int h), some (.int w), some (.int s), none, none, none, none, none, none] M = .ok (rng 0 (3 * s), []) M := by
      walk_at "ev"
      simp only [m3]
      rw [e3, if_pos r3, Int.toNat_natCast]
    rw [hi]
    simp only [R.bind, rng_intsW]
    rw [comp_nils]
    have hl : (intsW 0 (3 * s)).length = 3 * s := by simp [intsW]
    rw [hl]
    simp only [R.bind, R.noex, List.nil_append]
    rw [newL_ok (by omega), ag0]
    have e4 : enc (List.replicate (3 * s) []) = List.replicate (3 * s) (.lst []) := by simp [enc]
    rw [e4, List.length_append, List.length_replicate, List.append_assoc]
  refine sat_seq (sat_set hc ?_)
  simp only [List.set_cons_zero, List.set_cons_succ]
  refine sat_seq ?_
  generalize hM1 : M ++ (enc (AG h w 0) ++ [.lst ((List.range' M.length (3 * s)).map .ref)]) = M1
  have m4 := mul_ok (M := M1) (i := (s : Int)) (j := (s : Int)) (by omega)
  have e5 : (s : Int) * (s : Int) = ((s * s : Nat) : Int) := by simp
  have hss : s * s ≤ 9 * 9 := Nat.mul_le_mul hs9 hs9
  have r5 : ((s * s : Nat) : Int).natAbs < two62 := rng_ok (by omega) (by omega)
  have grefs : ∀ (A : List (List Int)) (J : Mem), A.length = 3 * s → (M ++ (enc A ++ .lst ((List.range' M.length (3 * s)).map .ref) :: J))[M.length + 3 * s]? = some (.lst ((List.range' M.length (3 * s)).map .ref)) := fun A J hA => by
    rw [List.getElem?_append_right (by omega), Nat.add_sub_cancel_left, List.getElem?_append_right (by simp [enc, hA])]
    simp [enc, hA]
  refine sat_rng (lo := 0) (n := s * s) (M1 := M1) (by walk_at "ev"; simp only [m4]; rw [e5, if_pos r5, Int.toNat_natCast])
    (fun p σ M' => (∃ a b c d e, σ = [some (.int h), some (.int w), some (.int s), some (.ref (M.length + 3 * s)), a, b, c, d, e]) ∧ ∃ J, M' = M ++ (enc (AG h w p) ++ .lst ((List.range' M.length (3 * s)).map .ref) :: J) ∧ ∀ l ∈ AG h w p, l.length ≤ 3 * p) ⟨⟨_, _, _, _, _, rfl⟩, [], hM1.symm, fun l hl => by rw [ag0] at hl; rw [List.eq_of_mem_replicate hl]; simp⟩ ?_ ?_
  · rintro p σ M' hp ⟨⟨a, b, c, d, e, rfl⟩, J, rfl, hlen⟩
    simp only [List.set_cons_zero, List.set_cons_succ]
    have ez : (0 : Int) + (p : Int) = (p : Int) := by omega
    generalize hM2 : M ++ (enc (AG h w p) ++ .lst ((List.range' M.length (3 * s)).map .ref) :: J) = M2
    have d1 := div_ok (M := M2) (i := (p : Int)) (j := (s : Int)) (by omega) (by omega)
    have d2 := mod_ok (M := M2) (i := (p : Int)) (j := (s : Int)) (by omega)
    have c1 : (p : Int) / (s : Int) = ((p / s : Nat) : Int) := by simp
    have c2 : (p : Int) % (s : Int) = ((p % s : Nat) : Int) := by simp
    refine sat_seq (sat_set (v := .int (p / s : Nat)) (M1 := M2) (by walk_at "ev"; simp only [ez, d1, c1]) ?_)
    simp only [List.set_cons_zero, List.set_cons_succ]
    refine sat_seq (sat_set (v := .int (p % s : Nat)) (M1 := M2) (by walk_at "ev"; simp only [ez, d2, c2]) ?_)
    simp only [List.set_cons_zero, List.set_cons_succ]
    have d3 := div_ok (M := M2) (i := ((p / s : Nat) : Int)) (j := (h : Int)) (by omega) (by omega)
    have d4 := div_ok (M := M2) (i := ((p % s : Nat) : Int)) (j := (w : Int)) (by omega) (by omega)
    have d5 : oMul (.int (((p / s : Nat) : Int) / (h : Int))) (.int h) M2 = .ok (.int (((p / s : Nat) : Int) / (h : Int) * h)) M2 := if_pos (.inr (by unfold two64; omega))
    have c3 : ((p / s : Nat) : Int) / (h : Int) * h + ((p % s : Nat) : Int) / (w : Int) = ((p / s / h * h + p % s / w : Nat) : Int) := by simp
    refine sat_seq (sat_set (v := .int (p / s / h * h + p % s / w : Nat)) (M1 := M2) (by walk_at "ev"; simp only [d3, d4, d5, c3]) ?_)
    simp only [List.set_cons_zero, List.set_cons_succ]
    have d6 := mul_ok (M := M2) (i := 2) (j := (s : Int)) (by decide)
    have hn : newL ((gsOf h w p).map fun (g : Nat) => W.int g) M2 = .ok (.ref M2.length) (M2 ++ [.lst ((gsOf h w p).map fun (g : Nat) => W.int g)]) := newL_ok (by rw [gsd]; show 3 ≤ 16777216; decide)
    have hle : eLst (aCons (eVar 5) (aCons (eOp oAdd (eVar 2) (eVar 6)) (aCons (eOp oAdd (eOp oMul (eC (.int 2)) (eVar 2)) (eVar 7)) aNil))) [some (.int h), some (.int w), some (.int s), some (.ref (M.length + 3 * s)), some (.int (0 + (p : Int))), some (.int (p / s : Nat)), some (.int (p % s : Nat)), some (.int (p / s / h * h + p % s / w : Nat)), e] M2 = .ok (.ref M2.length) (M2 ++ [.lst ((gsOf h w p).map fun (g : Nat) => W.int g)]) := by
      rw [← hn]
      unfold eLst
      have c4 : (s : Int) + ((p % s : Nat) : Int) = ((s + p % s : Nat) : Int) := by simp
      have c5 : (2 : Int) * (s : Int) + ((p / s / h * h + p % s / w : Nat) : Int) = ((2 * s + (p / s / h * h + p % s / w) : Nat) : Int) := by simp
      walk_at "ev"
      simp only [d6, R.bind, c4, c5, gsd, List.map_cons, List.map_nil]
    have hgl : (gsOf h w p).length = 3 := rfl
    have hgm : ∀ (k : Nat) (g : Nat), (gsOf h w p)[k]? = some g → g < 3 * s := fun k g hg => gi p hp g (List.mem_of_getElem? hg)
    have foldt : ∀ k g, (gsOf h w p)[k]? = some g → (((gsOf h w p).take (k + 1)).foldl (addTo (p : Int)) (AG h w p)) = addTo (p : Int) (((gsOf h w p).take k).foldl (addTo (p : Int)) (AG h w p)) g := fun k g hg => by
      rw [List.take_succ, hg, List.foldl_append]; rfl
    refine sat_lst (v := .ref M2.length) (xs := (gsOf h w p).map fun (g : Nat) => W.int g) hle (Lst.new _ _)
      (fun k σ M' => (∃ e, σ = [some (.int h), some (.int w), some (.int s), some (.ref (M.length + 3 * s)), some (.int (0 + (p : Int))), some (.int (p / s : Nat)), some (.int (p % s : Nat)), some (.int (p / s / h * h + p % s / w : Nat)), e]) ∧ M' = M ++ (enc (((gsOf h w p).take k).foldl (addTo (p : Int)) (AG h w p)) ++ .lst ((List.range' M.length (3 * s)).map .ref) :: (J ++ [.lst ((gsOf h w p).map fun (g : Nat) => W.int g)])) ∧ ∀ l ∈ ((gsOf h w p).take k).foldl (addTo (p : Int)) (AG h w p), l.length ≤ 3 * p + k)
      ⟨⟨_, rfl⟩, by rw [← hM2]; simp, fun l hl => hlen l hl⟩ ?_ ?_ ?_
    · rintro k σ M' hk ⟨_, rfl, _⟩
      refine ⟨_, rfl, ?_⟩
      rw [← hM2]
      have q1 : M ++ (enc (((gsOf h w p).take k).foldl (addTo (p : Int)) (AG h w p)) ++ .lst ((List.range' M.length (3 * s)).map .ref) :: (J ++ [.lst ((gsOf h w p).map fun (g : Nat) => W.int g)])) = (M ++ (enc (((gsOf h w p).take k).foldl (addTo (p : Int)) (AG h w p)) ++ .lst ((List.range' M.length (3 * s)).map .ref) :: J)) ++ [.lst ((gsOf h w p).map fun (g : Nat) => W.int g)] := by simp
      rw [q1, List.getElem?_append_right (by simp [enc, foldTo_len])]
      simp [enc, foldTo_len]
    · rintro k x σ M' hx ⟨⟨e, rfl⟩, rfl, hlk⟩
      simp only [List.set_cons_zero, List.set_cons_succ]
      rw [List.getElem?_map] at hx
      cases eg : (gsOf h w p)[k]? with
      | none => rw [eg] at hx; cases hx
      | some g =>
        rw [eg] at hx
        have ex : x = .int g := (Option.some.inj hx).symm
        subst ex
        have gl := hgm k g eg
        have k3 : k < 3 := by have := (List.getElem?_eq_some_iff.mp eg).1; omega
        generalize hA : ((gsOf h w p).take k).foldl (addTo (p : Int)) (AG h w p) = A at hlk
        have hAl : A.length = 3 * s := by rw [← hA, foldTo_len, hag]
        have gA : g < A.length := by omega
        generalize hK : O.lst ((List.range' M.length (3 * s)).map .ref) :: (J ++ [.lst ((gsOf h w p).map fun (g : Nat) => W.int g)]) = K
        have ix : oIx (.ref (M.length + 3 * s)) (.int g) (M ++ (enc A ++ K)) = .ok (.ref (M.length + g)) (M ++ (enc A ++ K)) := by
          have q := grefs A (J ++ [.lst ((gsOf h w p).map fun (g : Nat) => W.int g)]) hAl
          rw [hK] at q
          have hat : atI ((List.range' M.length (3 * s)).map W.ref) (g : Int) = some (.ref (M.length + g)) := by
            unfold atI ixN
            rw [if_pos (by omega), if_pos (by rw [hrefs]; omega)]
            simp [gl]
          simp only [oIx, seqOf_at q, hat]
        have hAg : A[g].length ≤ 3 * p + k := hlk _ (List.getElem_mem gA)
        have a1 := app_ok (σ := [some (.int h), some (.int w), some (.int s), some (.ref (M.length + 3 * s)), some (.int (0 + (p : Int))), some (.int (p / s : Nat)), some (.int (p % s : Nat)), some (.int (p / s / h * h + p % s / w : Nat)), some (.int g)]) (o := eOp oIx (eVar 3) (eVar 8)) (arg := eVar 4) (by walk_at "ev"; exact ix) (enc_get M K A g gA) (show _ = R.ok (.int (0 + (p : Int))) _ from rfl) (enc_get M K A g gA) (by rw [List.length_map]; omega)
        have e6 : (A[g].map W.int ++ [W.int (0 + (p : Int))]) = (A.getD g [] ++ [(p : Int)]).map .int := by
          simp [List.getD, gA]
        rw [e6, enc_set M K A g _ gA] at a1
        refine sat_expr a1 ?_
        refine ⟨⟨_, rfl⟩, ?_, ?_⟩
        · rw [foldt k g eg, hA]; rfl
        · rw [foldt k g eg, hA]
          intro l hl
          unfold addTo at hl
          rcases List.mem_or_eq_of_mem_set hl with q | q
          · have := hlk l q; omega
          · subst q
            simp [List.getD, gA]
            omega
    · rintro σ M' ⟨⟨e, rfl⟩, rfl, hlk⟩
      have e7 : (gsOf h w p).take ((gsOf h w p).map fun (g : Nat) => W.int g).length = gsOf h w p := by rw [List.length_map, List.take_length]
      rw [e7] at hlk
      refine ⟨⟨_, _, _, _, _, rfl⟩, J ++ [.lst ((gsOf h w p).map fun (g : Nat) => W.int g)], by rw [e7, ← ags], ?_⟩
      rw [ags]
      intro l hl
      have := hlk l hl
      rw [List.length_map, hgl] at this
      omega
  · rintro σ M' ⟨⟨a, b, c, d, e, rfl⟩, J, rfl, hlen⟩
    dsimp only
    refine sat_ret (v := .ref (M.length + 3 * s)) (M1 := M ++ (enc (AG h w (s * s)) ++ .lst ((List.range' M.length (3 * s)).map .ref) :: J)) rfl ?_
    refine ⟨pre_app _ _, (List.range' M.length (3 * s)).map .ref, ⟨_, rfl, grefs _ J (hag _)⟩, ?_⟩
    have hgl : (grps h w).length = 3 * s := by rw [← agr, hag]
    rw [agr]
    refine All2.of_get (by rw [hrefs, hgl]) fun i x y hx hy => ?_
    obtain ⟨hi, ey⟩ := List.getElem?_eq_some_iff.mp hy
    have hi2 : i < 3 * s := by omega
    have ex : x = .ref (M.length + i) := by simp [hi2] at hx; exact hx.symm
    subst ex
    refine ⟨_, rfl, ?_⟩
    rw [enc_get M _ _ i hi, ey]
inductive Wk (M : Mem) : List W → List W → Nat → Prop
  | nil : Wk M [] [] 0
  | flat {x : W} {ls rs : List W} {n : Nat} : VM.flat x = true → Wk M ls rs n → Wk M (ls ++ [x]) (rs ++ [x]) (n + 1)
  | seq {a b : Nat} {xs ys ls rs : List W} {n : Nat} : M[a]? = some (.lst xs) → M[b]? = some (.lst ys) → xs.length = ys.length → Wk M (ls ++ xs) (rs ++ ys) n → Wk M (ls ++ [.ref a]) (rs ++ [.ref b]) (n + 1)
  | tup {a b : Nat} {xs ys ls rs : List W} {n : Nat} : M[a]? = some (.tup xs) → M[b]? = some (.tup ys) → xs.length = ys.length → Wk M (ls ++ xs) (rs ++ ys) n → Wk M (ls ++ [.ref a]) (rs ++ [.ref b]) (n + 1)
theorem Wk.len {M : Mem} {ls rs : List W} {n : Nat} (h : Wk M ls rs n) : ls.length ≤ n ∧ rs.length ≤ n := by
  induction h with
  | nil => simp
  | flat _ _ ih => simp; omega
  | seq _ _ _ _ ih => simp at ih ⊢; omega
  | tup _ _ _ _ ih => simp at ih ⊢; omega
theorem Wk.flats {M : Mem} {ls rs : List W} {n : Nat} (h : Wk M ls rs n) : ∀ (zs : List W), zs.all VM.flat = true → Wk M (ls ++ zs) (rs ++ zs) (n + zs.length) := by
  intro zs
  induction zs generalizing ls rs n with
  | nil => intro _; simpa using h
  | cons z r ih =>
    intro hz
    rw [List.all_cons, Bool.and_eq_true] at hz
    have := ih (h.flat hz.1) hz.2
    rw [List.append_assoc, List.append_assoc] at this
    rw [List.length_cons, show n + (r.length + 1) = n + 1 + r.length by omega]
    exact this
theorem two_get (M J : Mem) (o p : O) : (M ++ o :: p :: J)[M.length]? = some o ∧ (M ++ o :: p :: J)[M.length + 1]? = some p := by
  constructor
  · simp
  · rw [List.getElem?_append_right (by omega)]; simp
theorem two_set0 (M J : Mem) (o p o' : O) : (M ++ o :: p :: J).set M.length o' = M ++ o' :: p :: J := by simp
theorem two_set1 (M J : Mem) (o p p' : O) : (M ++ o :: p :: J).set (M.length + 1) p' = M ++ o :: p' :: J := by
  rw [List.set_append_right _ _ (by omega)]; simp
theorem pop_ok {M : Mem} {a : Nat} {xs : List W} {x : W} (h : M[a]? = some (.lst (xs ++ [x]))) : mPop (.ref a) [] M = .ok x (M.set a (.lst xs)) := by
  unfold mPop
  rw [mutOf_at h]
  have e : (xs ++ [x])[(xs ++ [x]).length - 1]? = some x := by simp
  simp only [e]
  simp
theorem ext_ok {M : Mem} {a b : Nat} {xs ys : List W} (h : M[a]? = some (.lst xs)) (h2 : M[b]? = some (.lst ys) ∨ M[b]? = some (.tup ys)) (hl : xs.length + ys.length ≤ 16777216) : mExtend (.ref a) [.ref b] M = .ok .non (M.set a (.lst (xs ++ ys))) := by
  have e : litOf M (.ref b) = some ys := by
    rcases h2 with h2 | h2 <;> simp only [litOf, h2]
  simp only [mExtend, mutOf_at h, e]
  exact if_pos hl
theorem tup_seq {M : Mem} {a : Nat} {xs : List W} (h : M[a]? = some (.tup xs)) : seqOf M (.ref a) = some xs := by
  have e : lstOf M (.ref a) = none := by simp only [VM.lstOf, h]
  simp only [VM.seqOf, e, VM.tupOf, h]
theorem whole_int (i : Int) (M : Mem) : d_L_whole [.int i] M = .ok (.bl true) M := rfl
theorem ne_same (x : W) (M : Mem) (h : VM.flat x = true) : oNe x x M = .ok (.bl false) M := by
  unfold oNe eqO
  cases x <;> simp [VM.scal, VM.flat] at h ⊢
theorem ne_bl (a b : Bool) (M : Mem) : oNe (.bl a) (.bl b) M = .ok (.bl (!decide (a = b))) M := by
  unfold oNe eqO
  simp [VM.scal]
def sameT : TM := tB (eOp oNe (eVar 3) (eLst (aNil)))
def sameR (c_L_whole : CM) : SM :=
      sIf (tB (eIs [.list, .tuple] (eVar 5))) (
        sSeq (
          sIf (tB (eOp oNe (eIs [.list] (eVar 4)) (eIs [.list] (eVar 5)))) (
            sRet (eC (.bl false))) (
            sSkip)) (
        sSeq (
          sIf (tOr (tB (eOp oNe (eIs [.tuple] (eVar 4)) (eIs [.tuple] (eVar 5)))) (tB (eOp oNe (eCall fLen (aCons (eVar 4) aNil)) (eCall fLen (aCons (eVar 5) aNil))))) (
            sRet (eC (.bl false))) (
            sSkip)) (
        sSeq (
          sExpr (eMeth mExtend (eVar 2) (aCons (eVar 4) aNil))) (
        sExpr (eMeth mExtend (eVar 3) (aCons (eVar 5) aNil)))))) (
        sIf (tB (eIsN (eVar 5))) (
          sIf (tB (eNotN (eVar 4))) (
            sRet (eC (.bl false))) (
            sSkip)) (
          sIf (tB (eIs [.bool] (eVar 5))) (
            sIf (tOr (tNot (tB (eIs [.bool] (eVar 4)))) (tB (eOp oNe (eVar 4) (eVar 5)))) (
              sRet (eC (.bl false))) (
              sSkip)) (
            sIf (tB (eIs [.str] (eVar 5))) (
              sIf (tOr (tNot (tB (eIs [.str] (eVar 4)))) (tB (eOp oNe (eVar 4) (eVar 5)))) (
                sRet (eC (.bl false))) (
                sSkip)) (
              sIf (tOr (tNot (tB (eCall c_L_whole (aCons (eVar 4) aNil)))) (tB (eOp oNe (eVar 4) (eVar 5)))) (
                sRet (eC (.bl false))) (
                sSkip)))))
def sameB (c_L_whole : CM) : SM := sSeq (sAsg (eMeth mPop (eVar 2) (aNil)) (gName 4)) (sSeq (sAsg (eMeth mPop (eVar 3) (aNil)) (gName 5)) (sameR c_L_whole))
theorem same_loop (M : Mem) (f d : W) : ∀ (n : Nat) (k : Nat) (ls rs : List W) (J : Mem) (x y : Option W), Wk M ls rs n → n < k → n ≤ 16000000 →
    (whileN sameT (sameB d_L_whole) k [some f, some d, some (.ref M.length), some (.ref (M.length + 1)), x, y] (M ++ .lst ls :: .lst rs :: J)).Sat { nx := fun _ M' => M <+: M', rt := fun _ _ => False } := by
  intro n
  induction n with
  | zero =>
    intro k ls rs J x y hw hk _
    obtain ⟨k, rfl⟩ : ∃ j, k = j + 1 := ⟨k - 1, by omega⟩
    cases hw
    have t : sameT [some f, some d, some (.ref M.length), some (.ref (M.length + 1)), x, y] (M ++ .lst [] :: .lst [] :: J) = .ok false (M ++ .lst [] :: .lst [] :: J ++ [.lst []]) := by
      have hn : newL [] (M ++ .lst [] :: .lst [] :: J) = .ok (.ref (M ++ O.lst [] :: .lst [] :: J).length) (M ++ .lst [] :: .lst [] :: J ++ [.lst []]) := rfl
      have g1 := pre_get (pre_app (M ++ O.lst [] :: .lst [] :: J) [.lst []]) (two_get M J (.lst []) (.lst [])).2
      have g2 := Lst.new (M ++ O.lst [] :: .lst [] :: J) []
      unfold sameT
      simp only [tB, eOp, eVar, eLst, aNil, List.getElem?_cons_succ, List.getElem?_cons_zero, R.bind, hn, oNe, eqO, VM.scal, Bool.false_eq_true, if_false, lstOf_at g1, g2.lstOf]
      rfl
    refine sat_while_end t ?_
    exact ⟨.lst [] :: .lst [] :: J ++ [.lst []], by simp⟩
  | succ n ih =>
    intro k ls rs J x y hw hk hk2
    obtain ⟨k, rfl⟩ : ∃ j, k = j + 1 := ⟨k - 1, by omega⟩
    have hl := hw.len
    have key : ∀ (l r : W) (ls' rs' : List W), ls = ls' ++ [l] → rs = rs' ++ [r] →
        ((sameR d_L_whole) [some f, some d, some (.ref M.length), some (.ref (M.length + 1)), some l, some r] (M ++ .lst ls' :: .lst rs' :: (J ++ [.lst []]))).Sat { nx := fun σ' M' => (whileN sameT (sameB d_L_whole) k σ' M').Sat { nx := fun _ M' => M <+: M', rt := fun _ _ => False }, rt := fun _ _ => False, ct := fun σ' M' => (whileN sameT (sameB d_L_whole) k σ' M').Sat { nx := fun _ M' => M <+: M', rt := fun _ _ => False }, bk := fun _ M' => M <+: M' } →
        (whileN sameT (sameB d_L_whole) (k + 1) [some f, some d, some (.ref M.length), some (.ref (M.length + 1)), x, y] (M ++ .lst ls :: .lst rs :: J)).Sat { nx := fun _ M' => M <+: M', rt := fun _ _ => False } := by
      rintro l r ls' rs' rfl rfl hrest
      have t : sameT [some f, some d, some (.ref M.length), some (.ref (M.length + 1)), x, y] (M ++ .lst (ls' ++ [l]) :: .lst (rs' ++ [r]) :: J) = .ok true (M ++ .lst (ls' ++ [l]) :: .lst (rs' ++ [r]) :: (J ++ [.lst []])) := by
        have hn : newL [] (M ++ .lst (ls' ++ [l]) :: .lst (rs' ++ [r]) :: J) = .ok (.ref (M ++ O.lst (ls' ++ [l]) :: .lst (rs' ++ [r]) :: J).length) (M ++ .lst (ls' ++ [l]) :: .lst (rs' ++ [r]) :: J ++ [.lst []]) := rfl
        have g1 := pre_get (pre_app (M ++ O.lst (ls' ++ [l]) :: .lst (rs' ++ [r]) :: J) [.lst []]) (two_get M J (.lst (ls' ++ [l])) (.lst (rs' ++ [r]))).2
        have g2 := Lst.new (M ++ O.lst (ls' ++ [l]) :: .lst (rs' ++ [r]) :: J) []
        have e0 : eqSeq (rs' ++ [r]) [] = some false := by unfold eqSeq; rw [if_pos (by simp)]
        unfold sameT
        simp only [tB, eOp, eVar, eLst, aNil, List.getElem?_cons_succ, List.getElem?_cons_zero, R.bind, hn, oNe, eqO, VM.scal, Bool.false_eq_true, if_false, lstOf_at g1, g2.lstOf, e0]
        simp
      refine sat_while_step t ?_
      unfold sameB
      obtain ⟨g1, g2⟩ := two_get M (J ++ [.lst []]) (.lst (ls' ++ [l])) (.lst (rs' ++ [r]))
      have p1 := pop_ok g1
      rw [two_set0] at p1
      refine sat_seq (sat_set (v := l) (M1 := M ++ .lst ls' :: .lst (rs' ++ [r]) :: (J ++ [.lst []])) ?_ ?_)
      · simp only [eMeth, eVar, aNil, List.getElem?_cons_succ, List.getElem?_cons_zero, R.bind, lstOf_at g1]
        exact p1
      simp only [List.set_cons_zero, List.set_cons_succ]
      obtain ⟨g3, g4⟩ := two_get M (J ++ [.lst []]) (.lst ls') (.lst (rs' ++ [r]))
      have p2 := pop_ok g4
      rw [two_set1] at p2
      refine sat_seq (sat_set (v := r) (M1 := M ++ .lst ls' :: .lst rs' :: (J ++ [.lst []])) ?_ ?_)
      · simp only [eMeth, eVar, aNil, List.getElem?_cons_succ, List.getElem?_cons_zero, R.bind, lstOf_at g4]
        exact p2
      simp only [List.set_cons_zero, List.set_cons_succ]
      exact hrest
    cases hw with
    | @flat l ls' rs' _ hf h' =>
      refine key l l ls' rs' rfl rfl ?_
      have go := ih k ls' rs' (J ++ [.lst []]) (some l) (some l) h' (by omega) (by omega)
      generalize M ++ O.lst ls' :: .lst rs' :: (J ++ [.lst []]) = N at go
      have hne := ne_same l N hf
      cases l with
      | ref a => cases hf
      | non =>
        refine sat_if (c := false) (M1 := N) rfl (fun z => nomatch z) fun _ => ?_
        refine sat_if (c := true) (M1 := N) rfl (fun _ => ?_) fun z => nomatch z
        exact sat_if (c := false) (M1 := N) rfl (fun z => nomatch z) fun _ => go
      | bl b =>
        refine sat_if (c := false) (M1 := N) rfl (fun z => nomatch z) fun _ => ?_
        refine sat_if (c := false) (M1 := N) rfl (fun z => nomatch z) fun _ => ?_
        refine sat_if (c := true) (M1 := N) rfl (fun _ => ?_) fun z => nomatch z
        refine sat_if (c := false) (M1 := N) ?_ (fun z => nomatch z) fun _ => go
        walk_at "ev"
        simp only [eIs, anyKd, isKd, R.bind, eVar, List.getElem?_cons_succ, List.getElem?_cons_zero, hne]
        simp
      | str b =>
        refine sat_if (c := false) (M1 := N) rfl (fun z => nomatch z) fun _ => ?_
        refine sat_if (c := false) (M1 := N) rfl (fun z => nomatch z) fun _ => ?_
        refine sat_if (c := false) (M1 := N) rfl (fun z => nomatch z) fun _ => ?_
        refine sat_if (c := true) (M1 := N) rfl (fun _ => ?_) fun z => nomatch z
        refine sat_if (c := false) (M1 := N) ?_ (fun z => nomatch z) fun _ => go
        walk_at "ev"
        simp only [eIs, anyKd, isKd, R.bind, eVar, List.getElem?_cons_succ, List.getElem?_cons_zero, hne]
        simp
      | int b =>
        refine sat_if (c := false) (M1 := N) rfl (fun z => nomatch z) fun _ => ?_
        refine sat_if (c := false) (M1 := N) rfl (fun z => nomatch z) fun _ => ?_
        refine sat_if (c := false) (M1 := N) rfl (fun z => nomatch z) fun _ => ?_
        refine sat_if (c := false) (M1 := N) rfl (fun z => nomatch z) fun _ => ?_
        refine sat_if (c := false) (M1 := N) ?_ (fun z => nomatch z) fun _ => go
        walk_at "ev"
        simp only [whole_int, R.bind, hne]
        simp
    | @seq a b xs ys ls' rs' _ ha hb hxy h' =>
      refine key (.ref a) (.ref b) ls' rs' rfl rfl ?_
      have go := ih k (ls' ++ xs) (rs' ++ ys) (J ++ [.lst []]) (some (.ref a)) (some (.ref b)) h' (by omega) (by omega)
      have hl' := h'.len
      rw [List.length_append, List.length_append] at hl'
      obtain ⟨g1, g2⟩ := two_get M (J ++ [.lst []]) (.lst ls') (.lst rs')
      have A := pre_get (pre_app M (O.lst ls' :: .lst rs' :: (J ++ [.lst []]))) ha
      have B := pre_get (pre_app M (O.lst ls' :: .lst rs' :: (J ++ [.lst []]))) hb
      have x1 := ext_ok g1 (.inl A) (by omega)
      rw [two_set0] at x1
      obtain ⟨g3, g4⟩ := two_get M (J ++ [.lst []]) (.lst (ls' ++ xs)) (.lst rs')
      have B2 := pre_get (pre_app M (O.lst (ls' ++ xs) :: .lst rs' :: (J ++ [.lst []]))) hb
      have x2 := ext_ok g4 (.inl B2) (by omega)
      rw [two_set1] at x2
      generalize hN : M ++ O.lst ls' :: .lst rs' :: (J ++ [.lst []]) = N at A B x1 g1 g2
      refine sat_if (c := true) (M1 := N) ?_ (fun _ => ?_) fun z => nomatch z
      · simp only [tB, eIs, eVar, List.getElem?_cons_succ, List.getElem?_cons_zero, R.bind, anyKd, isKd, B]
        rfl
      refine sat_seq (sat_if (c := false) (M1 := N) ?_ (fun z => nomatch z) fun _ => ?_)
      · simp only [tB, eOp, eIs, eVar, List.getElem?_cons_succ, List.getElem?_cons_zero, R.bind, anyKd, isKd, A, B, ne_bl]
        rfl
      refine sat_skip ?_
      dsimp only
      refine sat_seq (sat_if (c := false) (M1 := N) ?_ (fun z => nomatch z) fun _ => ?_)
      · simp only [tOr, tB, eOp, eIs, eCall, aCons, aNil, eVar, List.getElem?_cons_succ, List.getElem?_cons_zero, R.bind, anyKd, isKd, A, B, ne_bl, fLen, seqOf_at A, seqOf_at B, ne_int, hxy]
        simp
      refine sat_skip ?_
      dsimp only
      refine sat_seq (sat_expr (v := .non) (M1 := M ++ O.lst (ls' ++ xs) :: .lst rs' :: (J ++ [.lst []])) ?_ ?_)
      · simp only [eMeth, eVar, aCons, aNil, List.getElem?_cons_succ, List.getElem?_cons_zero, R.bind, lstOf_at g1]
        exact x1
      refine sat_expr (v := .non) (M1 := M ++ O.lst (ls' ++ xs) :: .lst (rs' ++ ys) :: (J ++ [.lst []])) ?_ ?_
      · simp only [eMeth, eVar, aCons, aNil, List.getElem?_cons_succ, List.getElem?_cons_zero, R.bind, lstOf_at g4]
        exact x2
      exact go
    | @tup a b xs ys ls' rs' _ ha hb hxy h' =>
      refine key (.ref a) (.ref b) ls' rs' rfl rfl ?_
      have go := ih k (ls' ++ xs) (rs' ++ ys) (J ++ [.lst []]) (some (.ref a)) (some (.ref b)) h' (by omega) (by omega)
      have hl' := h'.len
      rw [List.length_append, List.length_append] at hl'
      obtain ⟨g1, g2⟩ := two_get M (J ++ [.lst []]) (.lst ls') (.lst rs')
      have A := pre_get (pre_app M (O.lst ls' :: .lst rs' :: (J ++ [.lst []]))) ha
      have B := pre_get (pre_app M (O.lst ls' :: .lst rs' :: (J ++ [.lst []]))) hb
      have x1 := ext_ok g1 (.inr A) (by omega)
      rw [two_set0] at x1
      obtain ⟨g3, g4⟩ := two_get M (J ++ [.lst []]) (.lst (ls' ++ xs)) (.lst rs')
      have B2 := pre_get (pre_app M (O.lst (ls' ++ xs) :: .lst rs' :: (J ++ [.lst []]))) hb
      have x2 := ext_ok g4 (.inr B2) (by omega)
      rw [two_set1] at x2
      generalize hN : M ++ O.lst ls' :: .lst rs' :: (J ++ [.lst []]) = N at A B x1 g1 g2
      refine sat_if (c := true) (M1 := N) ?_ (fun _ => ?_) fun z => nomatch z
      · simp only [tB, eIs, eVar, List.getElem?_cons_succ, List.getElem?_cons_zero, R.bind, anyKd, isKd, B]
        rfl
      refine sat_seq (sat_if (c := false) (M1 := N) ?_ (fun z => nomatch z) fun _ => ?_)
      · simp only [tB, eOp, eIs, eVar, List.getElem?_cons_succ, List.getElem?_cons_zero, R.bind, anyKd, isKd, A, B, ne_bl]
        rfl
      refine sat_skip ?_
      dsimp only
      refine sat_seq (sat_if (c := false) (M1 := N) ?_ (fun z => nomatch z) fun _ => ?_)
      · simp only [tOr, tB, eOp, eIs, eCall, aCons, aNil, eVar, List.getElem?_cons_succ, List.getElem?_cons_zero, R.bind, anyKd, isKd, A, B, ne_bl, fLen, tup_seq A, tup_seq B, ne_int, hxy]
        simp
      refine sat_skip ?_
      dsimp only
      refine sat_seq (sat_expr (v := .non) (M1 := M ++ O.lst (ls' ++ xs) :: .lst rs' :: (J ++ [.lst []])) ?_ ?_)
      · simp only [eMeth, eVar, aCons, aNil, List.getElem?_cons_succ, List.getElem?_cons_zero, R.bind, lstOf_at g1]
        exact x1
      refine sat_expr (v := .non) (M1 := M ++ O.lst (ls' ++ xs) :: .lst (rs' ++ ys) :: (J ++ [.lst []])) ?_ ?_
      · simp only [eMeth, eVar, aCons, aNil, List.getElem?_cons_succ, List.getElem?_cons_zero, R.bind, lstOf_at g4]
        exact x2
      exact go
theorem same_ok (M : Mem) (f d : W) (n : Nat) (h : Wk M [f] [d] n) (hn : n ≤ 16000000) : ∃ M', d_L_same d_L_whole [f, d] M = .ok (.bl true) M' ∧ M <+: M' := by
  have key : ∃ r M', d_L_same d_L_whole [f, d] M = .ok r M' ∧ (r = .bl true ∧ M <+: M') := by
    refine sat_fn rfl ?_
    show (sSeq _ _ [some f, some d, none, none, none, none] M).Sat _
    have n1 : newL [f] M = .ok (.ref M.length) (M ++ [.lst [f]]) := newL_ok (by show 1 ≤ 16777216; decide)
    have n2 : newL [d] (M ++ [.lst [f]]) = .ok (.ref (M.length + 1)) (M ++ .lst [f] :: .lst [d] :: []) := by
      rw [newL_ok (by show 1 ≤ 16777216; decide)]
      simp
    refine sat_seq (sat_set (v := .ref M.length) (M1 := M ++ [.lst [f]]) (by walk_at "ev"; exact n1) ?_)
    simp only [List.set_cons_zero, List.set_cons_succ]
    refine sat_seq (sat_set (v := .ref (M.length + 1)) (M1 := M ++ .lst [f] :: .lst [d] :: []) (by walk_at "ev"; exact n2) ?_)
    simp only [List.set_cons_zero, List.set_cons_succ]
    refine sat_seq ?_
    refine RS.Sat.mono (same_loop M f d n 1000000000 [f] [d] [] none none h (by omega) hn) (fun σ M' p => ?_) (fun _ _ z => z.elim) (fun _ _ z => z.elim) (fun _ _ z => z.elim)
    dsimp only
    refine sat_ret (v := .bl true) (M1 := M') rfl ?_
    exact ⟨rfl, p⟩
  obtain ⟨r, M', e, rfl, p⟩ := key
  exact ⟨M', e, p⟩
theorem flist_ok {M : Mem} {v : W} {fs : List Int} (h : IntL M v fs) (hl : fs.length ≤ 1000) : fList [v] M = .ok (.ref M.length) (M ++ [.lst (fs.map .int)]) := by
  unfold fList
  simp only [Lst.seqOf h]
  exact newL_ok (by rw [List.length_map]; omega)
end LV
end
section
set_option linter.all false
set_option autoImplicit false
set_option maxRecDepth 100000
namespace VM
theorem sat_lst_find {e : EM} {k : Nat} {body : SM} {σ : St} {M M1 : Mem} {v : W} {xs : List W} {q : Post} (he : e σ M = .ok v M1) (hv : Lst M1 v xs) (F : St → Mem → Prop) (p : Nat → Bool) (Q : W → Mem → Prop) (h0 : F σ M1)
    (hl : ∀ σ M, F σ M → Lst M v xs)
    (hs : ∀ (j : Nat) x σ M, xs[j]? = some x → F σ M → (body (σ.set k (some x)) M).Sat { nx := fun σ M => F σ M ∧ p j = false, ct := fun σ M => F σ M ∧ p j = false, rt := fun v M => p j = true ∧ Q v M })
    (hn : ∀ σ M, F σ M → (List.range xs.length).any p = false → q.nx σ M) (hr : ∀ v M, Q v M → (List.range xs.length).any p = true → q.rt v M) : (sFor (iSeq e) (gName k) body σ M).Sat q := by
  refine sat_lst he hv (fun j σ M => F σ M ∧ (List.range j).any p = false) ⟨h0, rfl⟩ (fun j σ M _ h => hl σ M h.1) ?_ ?_
  · rintro j x σ M hx ⟨hf, ha⟩
    have hj : j < xs.length := (List.getElem?_eq_some_iff.mp hx).1
    refine RS.Sat.mono (hs j x σ M hx hf) (fun σ M h => ⟨h.1, ?_⟩) (fun v M h => hr v M h.2 ?_) (fun _ _ z => z.elim) (fun σ M h => ⟨h.1, ?_⟩)
    · rw [List.range_succ, List.any_append, ha]; simp [h.2]
    · rw [List.any_eq_true]; exact ⟨j, List.mem_range.mpr hj, h.1⟩
    · rw [List.range_succ, List.any_append, ha]; simp [h.2]
  · rintro σ M ⟨hf, ha⟩
    exact hn σ M hf ha
theorem op_run {f : OpM} {a b : EM} {σ : St} {M M1 M2 : Mem} {x y : W} {r : R W} (ha : a σ M = .ok x M1) (hb : b σ M1 = .ok y M2) (hf : f x y M2 = r) : eOp f a b σ M = r := by
  unfold eOp
  rw [ha]
  simp only [R.bind]
  rw [hb]
  exact hf
theorem tB_run {e : EM} {σ : St} {M M1 : Mem} {b : Bool} (h : e σ M = .ok (.bl b) M1) : tB e σ M = .ok b M1 := by
  unfold tB
  rw [h]
  rfl
theorem any_range {α : Type} (l : List α) (d : α) (f : α → Bool) : (List.range l.length).any (fun j => f (l.getD j d)) = l.any f := by
  induction l with
  | nil => rfl
  | cons x r ih =>
    rw [List.length_cons, List.range_succ_eq_map, List.any_cons, List.any_map, List.any_cons, ← ih]
    rfl
end VM
namespace LV
open VM
local macro_rules | `(tactic| walk_at "ev") => `(tactic| simp only [tB, tAnd, tOr, tNot, tTrue, eOp, eVar, eC, eLst, eTup, aNil, aCons, eCall, eAnd, eOr, eNot, eIf, eIsN, eNotN, eMeth, R.bind, oAdd, oSub, gName, gSub, gTup, gEach, iRng1, iRng2, List.length_cons, List.length_nil, List.map_cons, List.map_nil, List.cons_append, List.nil_append, List.append_nil, List.getElem?_cons_zero, List.getElem?_cons_succ, List.set_cons_zero, List.set_cons_succ, if_true, if_false, Bool.false_eq_true, Nat.reduceAdd, Nat.reduceSub, List.replicate_succ, List.replicate_zero, Nat.zero_add, Nat.add_zero, clr, List.foldl_nil, List.foldl_cons, List.append_assoc])
theorem getD_at {α : Type} {l : List α} {j : Nat} {x d : α} (h : l[j]? = some x) : l.getD j d = x := by
  simp [List.getD, h]
def barG (ss g : List Int) (p n : Int) : Bool := g.any (· == p) && g.any fun q => !decide (q = p) && decide (nth ss q = n)
def barB (G : List (List Int)) (ss : List Int) (p n : Int) : Bool := G.any fun g => barG ss g p n
theorem barred_ok (M : Mem) (vG vs : W) (G : List (List Int)) (ss : List Int) (p n : Int) (hG : LL M vG G) (hs : IntL M vs ss) (hin : ∀ g ∈ G, ∀ i ∈ g, 0 ≤ i ∧ i < (ss.length : Int)) :
    d_L_barred [vG, vs, .int p, .int n] M = .ok (.bl (barB G ss p n)) M := by
  have key : ∃ r M', d_L_barred [vG, vs, .int p, .int n] M = .ok r M' ∧ (r = .bl (barB G ss p n) ∧ M' = M) := by
    refine sat_fn rfl ?_
    show (sSeq _ _ [some vG, some vs, some (.int p), some (.int n), none, none] M).Sat _
    refine sat_seq ?_
    obtain ⟨ws, hL, hA⟩ := hG
    have hlen := hA.len
    have anyG : (List.range ws.length).any (fun j => barG ss (G.getD j []) p n) = barB G ss p n := by rw [hlen]; exact any_range G [] (fun g => barG ss g p n)
    refine sat_lst_find (v := vG) (M1 := M) (xs := ws) rfl hL (fun σ M' => (∃ x y, σ = [some vG, some vs, some (.int p), some (.int n), x, y]) ∧ M' = M) (fun j => barG ss (G.getD j []) p n) (fun v M' => v = .bl true ∧ M' = M) ⟨⟨_, _, rfl⟩, rfl⟩ (fun σ M' ⟨_, e⟩ => by rw [e]; exact hL) ?_ ?_ ?_
    · rintro j x σ M' hx ⟨⟨y, z, rfl⟩, rfl⟩
      obtain ⟨g, hg, hgl⟩ := hA.at hx
      rw [getD_at hg]
      simp only [List.set_cons_zero, List.set_cons_succ]
      have hi := in_ok p hgl
      refine sat_if (c := g.any (· == p)) (M1 := M') (by walk_at "ev"; simp only [hi]) (fun hc => ?_) fun hc => ?_
      · have anyg : (List.range g.length).any (fun i => !decide (g.getD i 0 = p) && decide (nth ss (g.getD i 0) = n)) = g.any fun q => !decide (q = p) && decide (nth ss q = n) := any_range g 0 (fun q => !decide (q = p) && decide (nth ss q = n))
        refine sat_lst_find (v := x) (M1 := M') (xs := g.map .int) rfl hgl (fun σ N => (∃ z, σ = [some vG, some vs, some (.int p), some (.int n), some x, z]) ∧ N = M') (fun i => !decide (g.getD i 0 = p) && decide (nth ss (g.getD i 0) = n)) (fun v N => v = .bl true ∧ N = M') ⟨⟨_, rfl⟩, rfl⟩ (fun σ N ⟨_, e⟩ => by rw [e]; exact hgl) ?_ ?_ ?_
        · rintro i w σ N hw ⟨⟨z, rfl⟩, rfl⟩
          obtain ⟨q, hq, rfl, hq2⟩ := mem_of_map hw
          rw [getD_at hq2]
          simp only [List.set_cons_zero, List.set_cons_succ]
          obtain ⟨b0, b1⟩ := hin g (List.mem_of_getElem? hg) q hq
          have i1 := ix_ok hs b0 b1
          refine sat_if (c := !decide (q = p) && decide (nth ss q = n)) (M1 := N) ?_ (fun hc => ?_) fun hc => ?_
          · walk_at "ev"
            simp only [ne_int, i1, eq_int]
            cases decide (q = p) <;> simp
          · exact sat_ret rfl ⟨hc, rfl, rfl⟩
          · exact ⟨⟨⟨_, rfl⟩, rfl⟩, hc⟩
        · rintro σ N ⟨⟨z, rfl⟩, rfl⟩ ha
          rw [List.length_map, anyg] at ha
          exact ⟨⟨⟨_, _, rfl⟩, rfl⟩, by unfold barG; rw [ha, Bool.and_false]⟩
        · rintro v N ⟨rfl, rfl⟩ ha
          rw [List.length_map, anyg] at ha
          exact ⟨by unfold barG; rw [hc, ha]; rfl, rfl, rfl⟩
      · exact ⟨⟨⟨_, _, rfl⟩, rfl⟩, by unfold barG; rw [hc, Bool.false_and]⟩
    · rintro σ M' ⟨⟨y, z, rfl⟩, rfl⟩ ha
      rw [anyG] at ha
      dsimp only
      exact sat_ret rfl ⟨by rw [ha], rfl⟩
    · rintro v M' ⟨rfl, rfl⟩ ha
      rw [anyG] at ha
      exact ⟨by rw [ha], rfl⟩
  obtain ⟨r, M', e, rfl, rfl⟩ := key
  exact e
def nums (s : Nat) : List Int := (List.range s).map fun (k : Nat) => (k : Int) + 1
def rowOf (G : List (List Int)) (ss : List Int) (s : Nat) (p : Int) : List Int := (nums s).filter fun n => decide (nth ss p = 0) && !barB G ss p n
def tabOf (G : List (List Int)) (ss : List Int) (s : Nat) : List (List Int) := (List.range ss.length).map fun (p : Nat) => rowOf G ss s (p : Int)
theorem rowOf_len (G : List (List Int)) (ss : List Int) (s : Nat) (p : Int) : (rowOf G ss s p).length ≤ s := by
  unfold rowOf
  refine Nat.le_trans (List.length_filter_le _ _) ?_
  simp [nums]
theorem nums_succ (k : Nat) : nums (k + 1) = nums k ++ [(k : Int) + 1] := by unfold nums; rw [List.range_succ, List.map_append]; rfl
def TabJ (a : Nat) (J : Mem) (ws : List W) (rows : List (List Int)) : Prop := All2 (fun w r => ∃ k, w = W.ref (a + 1 + k) ∧ J[k]? = some (O.lst (r.map .int))) ws rows
theorem own_far' (N J : Mem) (o : O) (k : Nat) : (N ++ o :: J)[N.length + 1 + k]? = J[k]? := by
  rw [List.getElem?_append_right (by omega), show N.length + 1 + k - N.length = k + 1 by omega]
  rfl
theorem TabJ.grow {a : Nat} {J : Mem} {ws : List W} {rows : List (List Int)} (h : TabJ a J ws rows) (K : Mem) : TabJ a (J ++ K) ws rows := h.imp fun w r ⟨k, e, q⟩ => ⟨k, e, pre_get (pre_app J K) q⟩
theorem TabJ.ll {N J : Mem} {ws : List W} {rows : List (List Int)} (h : TabJ N.length J ws rows) : LL (N ++ .lst ws :: J) (.ref N.length) rows :=
  ⟨ws, ⟨_, rfl, own_get _ _ _⟩, h.imp fun w r ⟨k, e, q⟩ => ⟨_, e, by rw [own_far']; exact q⟩⟩
def CanSpec (f : CM) : Prop := ∀ (M : Mem) (vG vs : W) (G : List (List Int)) (ss : List Int) (s : Nat), LL M vG G → IntL M vs ss → (∀ g ∈ G, ∀ i ∈ g, 0 ≤ i ∧ i < (ss.length : Int)) → ss.length ≤ 81 → s ≤ 9 →
  ∃ ws J, f [vG, vs, .int s] M = .ok (.ref M.length) (M ++ .lst ws :: J) ∧ TabJ M.length J ws (tabOf G ss s)
theorem can_ok : CanSpec (d_L_can_have d_L_barred) := by
  intro M vG vs G ss s hG hs hin hl hs9
  have key : ∃ r M', d_L_can_have d_L_barred [vG, vs, .int s] M = .ok r M' ∧ (r = .ref M.length ∧ ∃ ws J, M' = M ++ .lst ws :: J ∧ TabJ M.length J ws (tabOf G ss s)) := by
    refine sat_fn rfl ?_
    show (sSeq _ _ [some vG, some vs, some (.int s), none, none, none, none] M).Sat _
    refine sat_seq (sat_set (v := .ref M.length) (M1 := M ++ [.lst []]) rfl ?_)
    simp only [List.set_cons_zero, List.set_cons_succ]
    refine sat_seq ?_
    have r1 : (ss.length : Int).natAbs < two62 := rng_ok (by omega) (by omega)
    refine sat_rng (lo := 0) (n := ss.length) (M1 := M ++ [.lst []]) (by walk_at "ev"; simp only [len_ok (Lst.mono hs (pre_app M _))]; rw [if_pos r1, Int.toNat_natCast])
      (fun j σ M' => (∃ x y z, σ = [some vG, some vs, some (.int s), some (.ref M.length), x, y, z]) ∧ ∃ ws J, M' = M ++ .lst ws :: J ∧ TabJ M.length J ws ((List.range j).map fun (p : Nat) => rowOf G ss s (p : Int))) ⟨⟨_, _, _, rfl⟩, [], [], rfl, .nil⟩ ?_ ?_
    · rintro j σ M' hj ⟨⟨x, y, z, rfl⟩, ws, J, rfl, hT⟩
      simp only [List.set_cons_zero, List.set_cons_succ]
      have ez : (0 : Int) + (j : Int) = (j : Int) := by omega
      generalize hN : M ++ O.lst ws :: J = N
      have pN : M <+: N := by rw [← hN]; exact own_pre _ _ _
      refine sat_seq (sat_set (v := .ref N.length) (M1 := N ++ [.lst []]) rfl ?_)
      simp only [List.set_cons_zero, List.set_cons_succ]
      refine sat_seq ?_
      have r2 : (1 : Int).natAbs < two62 ∧ ((s : Int) + 1).natAbs < two62 := ⟨rng_ok (by omega) (by omega), rng_ok (by omega) (by omega)⟩
      have n2 : ((s : Int) + 1 - 1).toNat = s := by omega
      refine sat_rng (lo := 1) (n := s) (M1 := N ++ [.lst []]) (by walk_at "ev"; rw [if_pos r2, n2])
        (fun k σ M' => (∃ z, σ = [some vG, some vs, some (.int s), some (.ref M.length), some (.int (0 + (j : Int))), some (.ref N.length), z]) ∧ M' = N ++ [.lst (((nums k).filter fun n => decide (nth ss j = 0) && !barB G ss j n).map .int)]) ⟨⟨_, rfl⟩, rfl⟩ ?_ ?_
      · rintro k σ M' hk ⟨⟨z, rfl⟩, rfl⟩
        simp only [List.set_cons_zero, List.set_cons_succ]
        generalize hcur : (nums k).filter (fun n => decide (nth ss j = 0) && !barB G ss j n) = cur
        have hcl : cur.length ≤ k := by rw [← hcur]; exact Nat.le_trans (List.length_filter_le _ _) (by simp [nums])
        have P := pN.trans (pre_app N [.lst (cur.map .int)])
        have i1 := ix_ok (Lst.mono hs P) (i := (j : Int)) (by omega) (by omega)
        have b1 := barred_ok _ vG vs G ss j (1 + (k : Int)) (hG.mono P) (Lst.mono hs P) hin
        have ek : (1 : Int) + (k : Int) = (k : Int) + 1 := by omega
        refine sat_if (c := decide (nth ss j = 0) && !barB G ss j ((k : Int) + 1)) (M1 := N ++ [.lst (cur.map .int)]) ?_ (fun hc => ?_) fun hc => ?_
        · walk_at "ev"
          rw [ek] at b1 ⊢
          simp only [ez, i1, eq_int, b1]
          cases decide (nth ss j = 0) <;> simp
        · have a1 := app_ok (σ := [some vG, some vs, some (.int s), some (.ref M.length), some (.int (0 + (j : Int))), some (.ref N.length), some (.int (1 + (k : Int)))]) (o := eVar 5) (arg := eVar 6) rfl (get_last N (.lst (cur.map .int))) (show _ = R.ok (.int (1 + (k : Int))) _ from rfl) (get_last N (.lst (cur.map .int))) (by rw [List.length_map]; omega)
          rw [set_last] at a1
          refine sat_expr a1 ⟨⟨_, rfl⟩, ?_⟩
          rw [nums_succ, List.filter_append, hcur]
          simp [hc, ek]
        · refine ⟨⟨_, rfl⟩, ?_⟩
          rw [nums_succ, List.filter_append, hcur]
          simp [hc]
      · rintro σ M' ⟨⟨z, rfl⟩, rfl⟩
        dsimp only
        have hT' := hT.len
        have hrow : (nums s).filter (fun n => decide (nth ss j = 0) && !barB G ss j n) = rowOf G ss s j := rfl
        rw [hrow]
        have g0 : (N ++ [.lst ((rowOf G ss s j).map .int)])[M.length]? = some (.lst ws) := pre_get (pre_app _ _) (by rw [← hN]; exact own_get _ _ _)
        have hwl : ws.length = j := by rw [hT']; simp
        have a1 := app_ok (σ := [some vG, some vs, some (.int s), some (.ref M.length), some (.int (0 + (j : Int))), some (.ref N.length), z]) (o := eVar 3) (arg := eVar 5) rfl g0 (show _ = R.ok (.ref N.length) _ from rfl) g0 (by omega)
        refine sat_expr a1 ?_
        refine ⟨⟨_, _, _, rfl⟩, ws ++ [.ref N.length], J ++ [.lst ((rowOf G ss s j).map .int)], ?_, ?_⟩
        · rw [← hN]; simp
        · rw [List.range_succ, List.map_append]
          refine All2.app (hT.grow _) (.cons ⟨J.length, ?_, by simp⟩ .nil)
          rw [← hN]; simp; omega
    · rintro σ M' ⟨⟨x, y, z, rfl⟩, ws, J, rfl, hT⟩
      dsimp only
      exact sat_ret (v := .ref M.length) (M1 := M ++ .lst ws :: J) rfl ⟨rfl, ws, J, rfl, hT⟩
  obtain ⟨r, M', e, rfl, ws, J, rfl, h⟩ := key
  exact ⟨ws, J, e, h⟩
theorem ll_at {M : Mem} {v : W} {G : List (List Int)} (h : LL M v G) {i : Int} (h0 : 0 ≤ i) (h1 : i < (G.length : Int)) : ∃ w, oIx v (.int i) M = .ok w M ∧ IntL M w (G.getD i.toNat []) := by
  obtain ⟨ws, hL, hA⟩ := h
  have hl := hA.len
  have hg : G[i.toNat]? = some (G.getD i.toNat []) := by
    have : i.toNat < G.length := by omega
    simp [List.getD, this]
  obtain ⟨w, hw, q⟩ := hA.at' hg
  refine ⟨w, ?_, q⟩
  have hat : atI ws i = some w := by
    unfold atI ixN
    rw [if_pos h0, if_pos (by omega)]
    exact hw
  simp only [oIx, hL.seqOf, hat]
theorem ll_len {M : Mem} {v : W} {G : List (List Int)} (h : LL M v G) : fLen [v] M = .ok (.int G.length) M := by
  obtain ⟨ws, hL, hA⟩ := h
  unfold fLen
  simp only [hL.seqOf, hA.len]
def spotsOf (G T : List (List Int)) (g n : Int) : List Int := (G.getD g.toNat []).filter fun p => (T.getD p.toNat []).any (· == n)
theorem spots_ok (M : Mem) (vG vT : W) (G T : List (List Int)) (g n : Int) (hG : LL M vG G) (hT : LL M vT T) (h0 : 0 ≤ g) (h1 : g < (G.length : Int)) (hin : ∀ i ∈ G.getD g.toNat [], 0 ≤ i ∧ i < (T.length : Int)) (h9 : (G.getD g.toNat []).length ≤ 9) :
    d_L_spots [vG, vT, .int g, .int n] M = .ok (.ref M.length) (M ++ [.lst ((spotsOf G T g n).map .int)]) := by
  obtain ⟨w, hw, hgl⟩ := ll_at hG h0 h1
  obtain ⟨a, rfl, ha⟩ := hgl
  have e : eComp 1 [] (iSeq (eOp oIx (eVar 0) (eVar 2))) (gName 4) (tB (eOp oIn (eVar 3) (eOp oIx (eVar 1) (eVar 4)))) (eVar 4) [some vG, some vT, some (.int g), some (.int n)] M = .ok (.ref M.length) (M ++ [.lst ((spotsOf G T g n).map .int)]) := by
    unfold eComp
    have hi : iSeq (eOp oIx (eVar 0) (eVar 2)) [some vG, some vT, some (.int g), some (.int n)] M = .ok (((G.getD g.toNat []).map W.int).map .val, [(a, .lst ((G.getD g.toNat []).map .int))]) M := by
      unfold iSeq
      walk_at "ev"
      simp only [hw, R.bind, ha]
    rw [hi]
    simp only [R.bind, R.noex, clr, List.foldl_nil, List.replicate_succ, List.replicate_zero, List.cons_append, List.nil_append]
    rw [comp_flat (σ := [some vG, some vT, some (.int g), some (.int n), none]) (fun x => match x with | .int i => (T.getD i.toNat []).any (· == n) | _ => false) (fun x => x) _ _ _ (fun _ => rfl) (by simp [Chk.ok, ha]) ?_]
    · have ef : ((G.getD g.toNat []).map W.int).filter (fun x => match x with | .int i => (T.getD i.toNat []).any (· == n) | _ => false) = (spotsOf G T g n).map .int := by
        unfold spotsOf
        rw [List.filter_map]
        rfl
      rw [ef]
      simp only [List.nil_append, List.map_id']
      have hle : (spotsOf G T g n).length ≤ 9 := Nat.le_trans (List.length_filter_le _ _) h9
      exact newL_ok (by rw [List.length_map]; omega)
    · intro x hx
      obtain ⟨i, hi2, rfl⟩ := List.mem_map.mp hx
      obtain ⟨b0, b1⟩ := hin i hi2
      obtain ⟨u, hu, hul⟩ := ll_at hT b0 b1
      have q := in_ok n hul
      refine ⟨?_, fun _ => rfl⟩
      walk_at "ev"
      simp only [hu, q]
  have key : ∃ r M', d_L_spots [vG, vT, .int g, .int n] M = .ok r M' ∧ (r = .ref M.length ∧ M' = M ++ [.lst ((spotsOf G T g n).map .int)]) := by
    refine sat_fn rfl ?_
    exact sat_ret e ⟨rfl, rfl⟩
  obtain ⟨r, M', e, rfl, rfl⟩ := key
  exact e
def lacksB (G : List (List Int)) (ss : List Int) (g n : Int) (s : Nat) : Bool :=
  !(decide (g < 0) || (decide ((G.length : Int) ≤ g) || (decide (n < 1) || decide ((s : Int) < n)))) && !((G.getD g.toNat []).map (nth ss)).any (· == n)
theorem notin_ok {M : Mem} {u : W} {fs : List Int} (x : Int) (h : IntL M u fs) : oNotIn (.int x) u M = .ok (.bl (!fs.any (· == x))) M := by
  unfold oNotIn
  rw [Lst.seqOf h]
  simp only [flat, flat_ints, Bool.and_true, if_true, inW_ints]
theorem lacks_ok (M : Mem) (vG vs : W) (G : List (List Int)) (ss : List Int) (g n : Int) (s : Nat) (hG : LL M vG G) (hs : IntL M vs ss) (hin : ∀ g ∈ G, g.length ≤ 9 ∧ ∀ i ∈ g, 0 ≤ i ∧ i < (ss.length : Int)) :
    ∃ M', d_L_lacks [vG, vs, .int g, .int n, .int s] M = .ok (.bl (lacksB G ss g n s)) M' ∧ M <+: M' := by
  have key : ∃ r M', d_L_lacks [vG, vs, .int g, .int n, .int s] M = .ok r M' ∧ (r = .bl (lacksB G ss g n s) ∧ M <+: M') := by
    refine sat_fn rfl ?_
    show (sSeq _ _ [some vG, some vs, some (.int g), some (.int n), some (.int s)] M).Sat _
    refine sat_seq (sat_if (c := decide (g < 0) || (decide ((G.length : Int) ≤ g) || (decide (n < 1) || decide ((s : Int) < n)))) (M1 := M) ?_ (fun hc => ?_) fun hc => ?_)
    · walk_at "ev"
      simp only [lt_int, ge_int, gt_int, ll_len hG]
      cases decide (g < 0) <;> cases decide ((G.length : Int) ≤ g) <;> cases decide (n < 1) <;> simp
    · refine sat_ret rfl ⟨?_, pre_rfl _⟩
      unfold lacksB
      rw [hc]; rfl
    · refine sat_skip ?_
      dsimp only
      have hc' := hc
      simp only [Bool.or_eq_false_iff, decide_eq_false_iff_not] at hc'
      obtain ⟨c1, c2, c3, c4⟩ := hc'
      obtain ⟨w, hw, hgl⟩ := ll_at hG (i := g) (by omega) (by omega)
      have hm : G.getD g.toNat [] ∈ G := by
        have : g.toNat < G.length := by omega
        simp [List.getD, this]
      have e := pick_ok (σ := [some vG, some vs, some (.int g), some (.int n), some (.int s)]) (eOp oIx (eVar 0) (eVar 2)) (eVar 1) 5 (M := M) (vg := w) (vf := vs) (by walk_at "ev"; exact hw) hgl hs (hin _ hm).2 (by have := (hin _ hm).1; omega) (fun _ => rfl) (fun _ => rfl)
      have L : IntL (M ++ [.lst (((G.getD g.toNat []).map (nth ss)).map .int)]) (.ref M.length) ((G.getD g.toNat []).map (nth ss)) := Lst.new _ _
      have q := notin_ok n L
      refine sat_ret (v := .bl (lacksB G ss g n s)) (M1 := M ++ [.lst (((G.getD g.toNat []).map (nth ss)).map .int)]) ?_ ⟨rfl, pre_app _ _⟩
      refine op_run (x := .int n) (M1 := M) rfl e ?_
      rw [q]
      unfold lacksB
      rw [hc]
      rfl
  obtain ⟨r, M', e, rfl, p⟩ := key
  exact ⟨M', e, p⟩
end LV
end
section
set_option linter.all false
set_option autoImplicit false
set_option maxRecDepth 100000
namespace LV
open VM
local macro_rules | `(tactic| walk_at "ev") => `(tactic| simp only [tB, tAnd, tOr, tNot, tTrue, eOp, eVar, eC, eLst, eTup, aNil, aCons, eCall, eAnd, eOr, eNot, eIf, eIsN, eNotN, eMeth, R.bind, oAdd, oSub, gName, gSub, gTup, gEach, iRng1, iRng2, List.length_cons, List.length_nil, List.map_cons, List.map_nil, List.cons_append, List.nil_append, List.append_nil, List.getElem?_cons_zero, List.getElem?_cons_succ, List.set_cons_zero, List.set_cons_succ, if_true, if_false, Bool.false_eq_true, Nat.reduceAdd, Nat.reduceSub, List.replicate_succ, List.replicate_zero, Nat.zero_add, Nat.add_zero, clr, List.foldl_nil, List.foldl_cons, List.append_assoc])
inductive Stp where
  | fld (p n : Int)
  | grp (p n g : Int)
  deriving DecidableEq
abbrev sField : W := .str [102, 105, 101, 108, 100]
abbrev sGroup : W := .str [103, 114, 111, 117, 112]
def Stp.ws : Stp → List W
  | .fld p n => [sField, .int p, .int n]
  | .grp p n g => [sGroup, .int p, .int n, .int g]
def Stp.place : Stp → Int
  | .fld p _ => p
  | .grp p _ _ => p
def IsStp (M : Mem) (v : W) (st : Stp) : Prop := Tup M v st.ws
theorem eqWs_ints : ∀ (xs ys : List Int), eqWs (xs.map W.int) (ys.map W.int) = decide (xs = ys)
  | [], [] => rfl
  | [], _ :: _ => rfl
  | _ :: _, [] => rfl
  | x :: xs, y :: ys => by
    show (eqW (.int x) (.int y) && eqWs (xs.map W.int) (ys.map W.int)) = _
    rw [eqWs_ints xs ys, Bool.eq_iff_iff]
    show ((x == y) && _) = true ↔ _
    simp
theorem eqSeq_ints (xs ys : List Int) : eqSeq (xs.map W.int) (ys.map W.int) = some (decide (xs = ys)) := by
  unfold eqSeq
  by_cases h : xs.length = ys.length
  · rw [if_neg (by simpa using h)]
    simp only [flat_ints, Bool.and_true, if_true, eqWs_ints]
  · rw [if_pos (by simpa using h), decide_eq_false (fun e => h (by rw [e]))]
theorem eqO_ints {M : Mem} {u v : W} {xs ys : List Int} (h1 : IntL M u xs) (h2 : IntL M v ys) : eqO M u v = some (decide (xs = ys)) := by
  have l1 := Lst.lstOf h1
  have l2 := Lst.lstOf h2
  obtain ⟨a, rfl, _⟩ := h1
  obtain ⟨b, rfl, _⟩ := h2
  unfold eqO
  rw [if_neg (by simp [VM.scal]), l1, l2]
  exact eqSeq_ints xs ys
theorem eq_ints {M : Mem} {u v : W} {xs ys : List Int} (h1 : IntL M u xs) (h2 : IntL M v ys) : oEq u v M = .ok (.bl (decide (xs = ys))) M := by
  unfold oEq
  rw [eqO_ints h1 h2]
theorem ne_ints {M : Mem} {u v : W} {xs ys : List Int} (h1 : IntL M u xs) (h2 : IntL M v ys) : oNe u v M = .ok (.bl (!decide (xs = ys))) M := by
  unfold oNe
  rw [eqO_ints h1 h2]
theorem eq_str {M : Mem} (a b : List Nat) : oEq (.str a) (.str b) M = .ok (.bl (decide (a = b))) M := by
  unfold oEq eqO
  simp [VM.scal]
theorem tup_ix {M : Mem} {v : W} {ws : List W} (h : Tup M v ws) (i : Nat) {x : W} (hx : ws[i]? = some x) : oIx v (.int i) M = .ok x M := by
  have hat : atI ws (i : Int) = some x := by
    unfold atI ixN
    have hi := (List.getElem?_eq_some_iff.mp hx).1
    rw [if_pos (by omega), if_pos (by omega)]
    exact hx
  simp only [oIx, h.seqOf, hat]
theorem lst1_ok {e : EM} {σ : St} {M M1 : Mem} {x : W} (h : e σ M = .ok x M1) : eLst (aCons e aNil) σ M = .ok (.ref M1.length) (M1 ++ [.lst [x]]) := by
  unfold eLst aCons aNil
  rw [h]
  simp only [R.bind]
  exact newL_ok (by show 1 ≤ 16777216; decide)
def placeB (ss : List Int) (p : Int) : Bool := !(decide (p < 0) || (decide ((ss.length : Int) ≤ p) || !decide (nth ss p = 0)))
def rightB (G : List (List Int)) (ss : List Int) (T : List (List Int)) (s : Nat) : Stp → Bool
  | .fld p n => placeB ss p && decide (T.getD p.toNat [] = [n])
  | .grp p n g => placeB ss p && (lacksB G ss g n s && decide (spotsOf G T g n = [p]))
theorem rightB_fld (G : List (List Int)) (ss : List Int) (T : List (List Int)) (s : Nat) (p n : Int) : rightB G ss T s (.fld p n) = (placeB ss p && decide (T.getD p.toNat [] = [n])) := rfl
theorem rightB_grp (G : List (List Int)) (ss : List Int) (T : List (List Int)) (s : Nat) (p n g : Int) : rightB G ss T s (.grp p n g) = (placeB ss p && (lacksB G ss g n s && decide (spotsOf G T g n = [p]))) := rfl
theorem lacks_in {G : List (List Int)} {ss : List Int} {g n : Int} {s : Nat} (h : lacksB G ss g n s = true) : 0 ≤ g ∧ g < (G.length : Int) ∧ 1 ≤ n ∧ n ≤ (s : Int) := by
  unfold lacksB at h
  simp only [Bool.and_eq_true, Bool.not_eq_true', Bool.or_eq_false_iff, decide_eq_false_iff_not] at h
  omega
def RightSpec (f : CM) : Prop := ∀ (M : Mem) (vG vs vT vst : W) (G : List (List Int)) (ss : List Int) (T : List (List Int)) (s : Nat) (st : Stp), LL M vG G → IntL M vs ss → LL M vT T → IsStp M vst st → T.length = ss.length → (∀ g ∈ G, g.length ≤ 9 ∧ ∀ i ∈ g, 0 ≤ i ∧ i < (ss.length : Int)) →
  ∃ M', f [vG, vs, vT, vst, .int s] M = .ok (.bl (rightB G ss T s st)) M' ∧ M <+: M'
theorem right_ok : RightSpec (d_L_step_right d_L_spots d_L_lacks) := by
  intro M vG vs vT vst G ss T s st hG hs hT hst hl hin
  have key : ∃ r M', d_L_step_right d_L_spots d_L_lacks [vG, vs, vT, vst, .int s] M = .ok r M' ∧ (r = .bl (rightB G ss T s st) ∧ M <+: M') := by
    refine sat_fn rfl ?_
    show (sSeq _ _ [some vG, some vs, some vT, some vst, some (.int s), none] M).Sat _
    have i1 : oIx vst (.int 1) M = .ok (.int st.place) M := by cases st <;> exact tup_ix hst 1 rfl
    refine sat_seq (sat_set (v := .int st.place) (M1 := M) (by walk_at "ev"; exact i1) ?_)
    simp only [List.set_cons_zero, List.set_cons_succ]
    generalize hp : st.place = p
    refine sat_seq (sat_if (c := !placeB ss p) (M1 := M) ?_ (fun hc => ?_) fun hc => ?_)
    · unfold placeB
      rw [Bool.not_not]
      walk_at "ev"
      simp only [lt_int, ge_int, len_ok hs]
      by_cases c1 : p < 0
      · simp [c1]
      · by_cases c2 : (ss.length : Int) ≤ p
        · simp [c1, c2]
        · simp only [c1, c2, decide_false, Bool.false_eq_true, if_false]
          have ix := ix_ok hs (i := p) (by omega) (by omega)
          simp only [ix, ne_int, Bool.false_or]
    · refine sat_ret rfl ⟨?_, pre_rfl _⟩
      rw [Bool.not_eq_true'] at hc
      cases st with
      | fld p' n => cases hp; rw [rightB_fld, show placeB ss p' = false from hc, Bool.false_and]
      | grp p' n g => cases hp; rw [rightB_grp, show placeB ss p' = false from hc, Bool.false_and]
    · refine sat_skip ?_
      dsimp only
      rw [Bool.not_eq_false'] at hc
      have hc2 := hc
      unfold placeB at hc2
      simp only [Bool.not_eq_true', Bool.or_eq_false_iff, decide_eq_false_iff_not, Bool.not_eq_false', decide_eq_true_iff] at hc2
      obtain ⟨c1, c2, c3⟩ := hc2
      cases st with
      | fld p' n =>
        cases hp
        have c1 : ¬ p' < 0 := c1
        have c2 : ¬ (ss.length : Int) ≤ p' := c2
        have e0 := tup_ix hst 0 (x := sField) rfl
        have e2 := tup_ix hst 2 (x := .int n) rfl
        refine sat_seq (sat_if (c := true) (M1 := M) ?_ (fun _ => ?_) fun z => nomatch z)
        · walk_at "ev"
          rw [show oIx vst (.int 0) M = _ from e0]
          simp only [eq_str, decide_true]
        · obtain ⟨w, hw, hwl⟩ := ll_at hT (i := p') (by omega) (by omega)
          have L : IntL (M ++ [.lst [.int n]]) (.ref M.length) [n] := Lst.new _ _
          refine sat_ret (v := .bl (decide (T.getD p'.toNat [] = [n]))) (M1 := M ++ [.lst [.int n]]) ?_ ⟨?_, pre_app _ _⟩
          · refine op_run (x := w) (M1 := M) (by walk_at "ev"; exact hw) (lst1_ok (x := .int n) (M1 := M) (by walk_at "ev"; exact e2)) ?_
            exact eq_ints (Lst.mono hwl (pre_app _ _)) L
          · rw [rightB_fld, show placeB ss p' = true from hc, Bool.true_and]
      | grp p' n g =>
        cases hp
        have e0 := tup_ix hst 0 (x := sGroup) rfl
        have e2 := tup_ix hst 2 (x := .int n) rfl
        have e3 := tup_ix hst 3 (x := .int g) rfl
        refine sat_seq (sat_if (c := false) (M1 := M) ?_ (fun z => nomatch z) fun _ => ?_)
        · walk_at "ev"
          rw [show oIx vst (.int 0) M = _ from e0]
          simp only [eq_str]
          rfl
        refine sat_skip ?_
        dsimp only
        obtain ⟨M1, l1, p1⟩ := lacks_ok M vG vs G ss g n s hG hs hin
        refine sat_seq (sat_if (c := !lacksB G ss g n s) (M1 := M1) ?_ (fun hc3 => ?_) fun hc3 => ?_)
        · walk_at "ev"
          rw [show oIx vst (.int 3) M = _ from e3]
          simp only [R.bind]
          rw [show oIx vst (.int 2) M = _ from e2]
          simp only [l1]
        · refine sat_ret rfl ⟨?_, p1⟩
          rw [Bool.not_eq_true'] at hc3
          rw [rightB_grp, hc3, Bool.false_and, Bool.and_false]
        · refine sat_skip ?_
          dsimp only
          rw [Bool.not_eq_false'] at hc3
          obtain ⟨g0, g1, n0, n1⟩ := lacks_in hc3
          have hm : G.getD g.toNat [] ∈ G := by
            have : g.toNat < G.length := by omega
            simp [List.getD, this]
          have sp := spots_ok M1 vG vT G T g n (hG.mono p1) (hT.mono p1) g0 g1 (fun i hi => by rw [hl]; exact (hin _ hm).2 i hi) (hin _ hm).1
          have st1 := hst.mono p1
          have e2' := tup_ix st1 2 (x := .int n) rfl
          have e3' := tup_ix st1 3 (x := .int g) rfl
          refine sat_ret (v := .bl (decide (spotsOf G T g n = [p']))) (M1 := M1 ++ [.lst ((spotsOf G T g n).map .int)] ++ [.lst [.int p']]) ?_ ⟨?_, p1.trans ((pre_app _ _).trans (pre_app _ _))⟩
          · refine op_run (x := .ref M1.length) (M1 := M1 ++ [.lst ((spotsOf G T g n).map .int)]) ?_ (lst1_ok (x := .int p') (M1 := M1 ++ [.lst ((spotsOf G T g n).map .int)]) rfl) ?_
            · walk_at "ev"
              rw [show oIx vst (.int 3) M1 = _ from e3']
              simp only [R.bind]
              rw [show oIx vst (.int 2) M1 = _ from e2']
              simp only [sp]
            · have L1 : IntL (M1 ++ [.lst ((spotsOf G T g n).map .int)]) (.ref M1.length) (spotsOf G T g n) := Lst.new _ _
              have L2 : IntL (M1 ++ [.lst ((spotsOf G T g n).map .int)] ++ [.lst [.int p']]) (.ref (M1 ++ [O.lst ((spotsOf G T g n).map .int)]).length) [p'] := Lst.new _ _
              exact eq_ints (Lst.mono L1 (pre_app _ _)) L2
          · rw [rightB_grp, show placeB ss p' = true from hc, hc3, Bool.true_and, Bool.true_and]
  obtain ⟨r, M', e, rfl, p⟩ := key
  exact ⟨M', e, p⟩
end LV
end
section
set_option linter.all false
set_option autoImplicit false
set_option maxRecDepth 100000
namespace LV
open VM
local macro_rules | `(tactic| walk_at "ev") => `(tactic| simp only [tB, tAnd, tOr, tNot, tTrue, eOp, eVar, eC, eLst, eTup, aNil, aCons, eCall, eAnd, eOr, eNot, eIf, eIsN, eNotN, eMeth, R.bind, oAdd, oSub, gName, gSub, gTup, gEach, iRng1, iRng2, List.length_cons, List.length_nil, List.map_cons, List.map_nil, List.cons_append, List.nil_append, List.append_nil, List.getElem?_cons_zero, List.getElem?_cons_succ, List.set_cons_zero, List.set_cons_succ, if_true, if_false, Bool.false_eq_true, Nat.reduceAdd, Nat.reduceSub, List.replicate_succ, List.replicate_zero, Nat.zero_add, Nat.add_zero, clr, List.foldl_nil, List.foldl_cons, List.append_assoc])
theorem nil_eq {M : Mem} {σ : St} {e : EM} {w : W} {xs : List Int} (h : e σ M = .ok w M) (hw : IntL M w xs) : eOp oEq e (eLst aNil) σ M = .ok (.bl (decide (xs = []))) (M ++ [.lst []]) :=
  op_run h (show _ = R.ok (.ref M.length) (M ++ [.lst []]) from rfl) (eq_ints (ys := []) (Lst.mono hw (pre_app _ _)) (Lst.new M []))
theorem nil_ne {M : Mem} {σ : St} {e : EM} {w : W} {xs : List Int} (h : e σ M = .ok w M) (hw : IntL M w xs) : eOp oNe e (eLst aNil) σ M = .ok (.bl (!decide (xs = []))) (M ++ [.lst []]) :=
  op_run h (show _ = R.ok (.ref M.length) (M ++ [.lst []]) from rfl) (ne_ints (ys := []) (Lst.mono hw (pre_app _ _)) (Lst.new M []))
theorem cat_ints {M : Mem} {u v : W} {xs ys : List Int} (h1 : IntL M u xs) (h2 : IntL M v ys) (hl : xs.length + ys.length ≤ 1000) : oAdd u v M = .ok (.ref M.length) (M ++ [.lst ((xs ++ ys).map .int)]) := by
  obtain ⟨a, rfl, ha⟩ := h1
  obtain ⟨b, rfl, hb⟩ := h2
  simp only [oAdd, mutOf_at ha, mutOf_at hb]
  rw [List.map_append]
  exact newL_ok (by rw [List.length_append, List.length_map, List.length_map]; omega)
theorem emod_in (a : Int) {n : Nat} (h : 0 < n) : 0 ≤ a % (n : Int) ∧ a % (n : Int) < (n : Int) := ⟨Int.emod_nonneg _ (by omega), Int.emod_lt_of_pos _ (by omega)⟩
def sb (vG vs vT : W) (cell more : Int) (s : Nat) (x6 x7 x8 x9 x10 x11 x12 x13 x14 x15 : Option W) : St := [some vG, some vs, some vT, some (.int cell), some (.int more), some (.int s), x6, x7, x8, x9, x10, x11, x12, x13, x14, x15]
theorem near_ok {σ : St} {M : Mem} {vG : W} {G : List (List Int)} {p : Int} (hG : LL M vG G) (hl : G.length ≤ 27) (hp : ∃ g ∈ G, p ∈ g)
    (e0 : ∀ x, eVar 0 ((clr [9] (σ ++ List.replicate 0 none)).set 9 x) = fun M => .ok vG M) (e0' : eVar 0 σ = fun M => .ok vG M) (e8 : ∀ x, eVar 8 ((clr [9] (σ ++ List.replicate 0 none)).set 9 x) = fun M => .ok (.int p) M) (e9 : ∀ x, eVar 9 ((clr [9] (σ ++ List.replicate 0 none)).set 9 (some x)) = fun M => .ok x M) :
    ∃ ns : List Int, eComp 0 [9] (iRng1 (eCall fLen (aCons (eVar 0) aNil))) (gName 9) (tB (eOp oIn (eVar 8) (eOp oIx (eVar 0) (eVar 9)))) (eVar 9) σ M = .ok (.ref M.length) (M ++ [.lst (ns.map .int)]) ∧ 0 < ns.length ∧ ns.length ≤ 27 := by
  have r1 : (G.length : Int).natAbs < two62 := rng_ok (by omega) (by omega)
  have hi : iRng1 (eCall fLen (aCons (eVar 0) aNil)) σ M = .ok (rng 0 G.length, []) M := by
    unfold iRng1 eCall aCons aNil
    rw [e0']
    simp only [R.bind, ll_len hG]
    rw [if_pos r1, Int.toNat_natCast]
  generalize hσ : clr [9] (σ ++ List.replicate 0 none) = σ' at e0 e8 e9
  let P : W → Bool := fun x => match x with | .int i => (G.getD i.toNat []).any (· == p) | _ => false
  have hc : comp [] (gName 9) (tB (eOp oIn (eVar 8) (eOp oIx (eVar 0) (eVar 9)))) (eVar 9) (rng 0 G.length) σ' M [] = .ok ((intsW 0 G.length).filter P) M := by
    rw [rng_intsW, comp_flat (σ := σ') P (fun x => x) _ _ _ (fun _ => rfl) rfl ?_]
    · simp
    · intro x hx
      obtain ⟨k, hk, rfl⟩ := List.mem_map.mp hx
      rw [List.mem_range] at hk
      obtain ⟨w, hw, hwl⟩ := ll_at hG (i := 0 + (k : Int)) (by omega) (by omega)
      have q := in_ok p hwl
      refine ⟨?_, fun _ => by rw [e9]⟩
      refine tB_run (op_run (x := .int p) (M1 := M) (by rw [e8]) (op_run (x := vG) (y := .int (0 + (k : Int))) (M1 := M) (M2 := M) (by rw [e0]) (by rw [e9]) hw) q)
  obtain ⟨ns, hns⟩ : ∃ ns : List Int, (intsW 0 G.length).filter P = ns.map .int := by
    have all : ∀ l : List W, (∀ x ∈ l, ∃ i, x = W.int i) → ∃ ns : List Int, l = ns.map .int := by
      intro l
      induction l with
      | nil => exact fun _ => ⟨[], rfl⟩
      | cons x r ih =>
        intro h
        obtain ⟨i, rfl⟩ := h x List.mem_cons_self
        obtain ⟨ns, rfl⟩ := ih fun y hy => h y (List.mem_cons_of_mem _ hy)
        exact ⟨i :: ns, rfl⟩
    refine all _ fun x hx => ?_
    obtain ⟨k, _, rfl⟩ := List.mem_map.mp (List.mem_filter.mp hx).1
    exact ⟨_, rfl⟩
  have hlen : ns.length ≤ 27 := by
    have := List.length_filter_le P (intsW 0 G.length)
    rw [hns] at this
    simp [intsW] at this
    omega
  have hpos : 0 < ns.length := by
    obtain ⟨g, hg, hpg⟩ := hp
    obtain ⟨k, hk, e⟩ := List.getElem_of_mem hg
    have : W.int (0 + (k : Int)) ∈ (intsW 0 G.length).filter P := by
      refine List.mem_filter.mpr ⟨List.mem_map.mpr ⟨k, List.mem_range.mpr hk, rfl⟩, ?_⟩
      show (G.getD (0 + (k : Int)).toNat []).any (· == p) = true
      have e2 : (0 + (k : Int)).toNat = k := by omega
      rw [e2, any_eq]
      simp [List.getD, hk, e, hpg]
    rw [hns] at this
    exact List.length_pos_iff.mpr (by rintro rfl; simp at this)
  refine ⟨ns, ?_, hpos, hlen⟩
  unfold eComp
  rw [hi]
  simp only [R.bind]
  rw [hσ, hc]
  simp only [R.bind, hns]
  exact newL_ok (by rw [List.length_map]; omega)
theorem odd_ok {σ : St} {M : Mem} {a : W} {os : List Int} {x more : Int} (ho : IntL M a os) (h5 : os.length = 5) (ex : EM) (e15 : eVar 15 σ = fun M => .ok a M) (e4 : eVar 4 σ = fun M => .ok (.int more) M) (he : ∀ M', M <+: M' → ex σ M' = .ok (.int x) M') :
    ∃ z M', eOp oIx (eOp oAdd (eVar 15) (eLst (aCons ex aNil))) (eOp oMod (eOp oDiv (eVar 4) (eC (.int 13))) (eC (.int 6))) σ M = .ok (.int z) M' ∧ M <+: M' := by
  have L1 : IntL (M ++ [.lst [.int x]]) (.ref M.length) [x] := Lst.new _ _
  have c1 := cat_ints (Lst.mono ho (pre_app M [.lst [.int x]])) L1 (by rw [h5]; show 5 + 1 ≤ 1000; decide)
  have L2 : IntL (M ++ [.lst [.int x]] ++ [.lst ((os ++ [x]).map .int)]) (.ref (M ++ [O.lst [.int x]]).length) (os ++ [x]) := Lst.new _ _
  have d := div_ok (M := M ++ [.lst [.int x]] ++ [.lst ((os ++ [x]).map .int)]) (i := more) (j := 13) (by decide) (by decide)
  have m := mod_ok (M := M ++ [.lst [.int x]] ++ [.lst ((os ++ [x]).map .int)]) (i := more / 13) (j := 6) (by decide)
  have l6 : (os ++ [x]).length = 6 := by rw [List.length_append, h5]; rfl
  have i1 := ix_ok L2 (i := more / 13 % 6) (by omega) (by rw [l6]; omega)
  refine ⟨_, _, op_run (op_run (x := a) (M1 := M) (by rw [e15]) (lst1_ok (x := .int x) (M1 := M) (he M (pre_rfl _))) c1) (op_run (op_run (x := .int more) (y := .int 13) (by rw [e4]) rfl d) (y := .int 6) rfl m) i1, (pre_app _ _).trans (pre_app _ _)⟩
def ByPost (vG vs vT : W) (cell more : Int) (s : Nat) (M : Mem) (σ : St) (M' : Mem) : Prop := ∃ pl nu gr x6 x7 x9 x10 x12 x14 a os, σ = sb vG vs vT cell more s (some (.int x6)) x7 (some (.int pl)) x9 x10 (some (.int nu)) x12 (some (.int gr)) x14 (some a) ∧ M <+: M' ∧ IntL M' a os ∧ os.length = 5
theorem by_tail (vG vs vT : W) (cell more : Int) (s : Nat) (M0 : Mem) (σ : St) (M : Mem) (G : List (List Int)) (ss : List Int) (hG : LL M0 vG G) (hs : IntL M0 vs ss) (hGl : 0 < G.length ∧ G.length ≤ 27) (h : ByPost vG vs vT cell more s M0 σ M) :
    ((sSeq (
    sIf (tB (eOp oEq (eVar 6) (eC (.int 1)))) (
      sAsg (eOp oIx (eOp oAdd (eVar 15) (eLst (aCons (eCall fLen (aCons (eVar 1) aNil)) aNil))) (eOp oMod (eOp oDiv (eVar 4) (eC (.int 13))) (eC (.int 6)))) (gName 8)) (
      sSkip)) (
  sSeq (
    sIf (tB (eOp oEq (eVar 6) (eC (.int 2)))) (
      sAsg (eOp oIx (eOp oAdd (eVar 15) (eLst (aCons (eOp oAdd (eVar 5) (eC (.int 1))) aNil))) (eOp oMod (eOp oDiv (eVar 4) (eC (.int 13))) (eC (.int 6)))) (gName 11)) (
      sSkip)) (
  sSeq (
    sIf (tB (eOp oEq (eVar 6) (eC (.int 3)))) (
      sAsg (eOp oIx (eOp oAdd (eVar 15) (eLst (aCons (eCall fLen (aCons (eVar 0) aNil)) aNil))) (eOp oMod (eOp oDiv (eVar 4) (eC (.int 13))) (eC (.int 6)))) (gName 13)) (
      sSkip)) (
  sSeq (
    sIf (tB (eOp oEq (eVar 6) (eC (.int 4)))) (
      sAsg (eOp oMod (eOp oDiv (eVar 4) (eC (.int 13))) (eCall fLen (aCons (eVar 0) aNil))) (gName 13)) (
      sSkip)) (
  sSeq (
    sIf (tB (eOp oEq (eOp oMod (eVar 3) (eC (.int 2))) (eC (.int 0)))) (
      sRet (eTup (aCons (eC (.str [102, 105, 101, 108, 100])) (aCons (eVar 8) (aCons (eVar 11) aNil))))) (
      sSkip)) (
  sRet (eTup (aCons (eC (.str [103, 114, 111, 117, 112])) (aCons (eVar 8) (aCons (eVar 11) (aCons (eVar 13) aNil)))))))))) : SM) σ M).Sat { nx := fun _ _ => False, rt := fun v M' => M0 <+: M' ∧ ∃ st, IsStp M' v st } := by
  have tw : ∀ (k x6 : Int) (x7 x8 x9 x10 x11 x12 x13 x14 x15 : Option W) (M : Mem), tB (eOp oEq (eVar 6) (eC (.int k))) (sb vG vs vT cell more s (some (.int x6)) x7 x8 x9 x10 x11 x12 x13 x14 x15) M = .ok (decide (x6 = k)) M := fun k x6 x7 x8 x9 x10 x11 x12 x13 x14 x15 M => tB_run (op_run (x := .int x6) (y := .int k) (M1 := M) (M2 := M) rfl rfl eq_int)
  refine sat_seq (RS.Sat.mono (q := { nx := ByPost vG vs vT cell more s M0, rt := fun _ _ => False }) ?_ (fun σ M h => ?_) (fun _ _ z => z.elim) (fun _ _ z => z.elim) (fun _ _ z => z.elim))
  · obtain ⟨pl, nu, gr, x6, x7, x9, x10, x12, x14, a, os, rfl, p, ho, h5⟩ := h
    refine sat_if (tw 1 _ _ _ _ _ _ _ _ _ _ _) (fun _ => ?_) fun _ => ⟨pl, nu, gr, x6, x7, x9, x10, x12, x14, a, os, rfl, p, ho, h5⟩
    obtain ⟨z, M', e, p2⟩ := odd_ok (σ := sb vG vs vT cell more s (some (.int x6)) x7 (some (.int pl)) x9 x10 (some (.int nu)) x12 (some (.int gr)) x14 (some a)) (more := more) (x := ss.length) ho h5 (eCall fLen (aCons (eVar 1) aNil)) rfl rfl (fun M' q => by
      have := len_ok (Lst.mono hs (p.trans q))
      unfold sb; walk_at "ev"; exact this)
    exact sat_set e ⟨z, nu, gr, x6, x7, x9, x10, x12, x14, a, os, rfl, p.trans p2, Lst.mono ho p2, h5⟩
  refine sat_seq (RS.Sat.mono (q := { nx := ByPost vG vs vT cell more s M0, rt := fun _ _ => False }) ?_ (fun σ M h => ?_) (fun _ _ z => z.elim) (fun _ _ z => z.elim) (fun _ _ z => z.elim))
  · obtain ⟨pl, nu, gr, x6, x7, x9, x10, x12, x14, a, os, rfl, p, ho, h5⟩ := h
    refine sat_if (tw 2 _ _ _ _ _ _ _ _ _ _ _) (fun _ => ?_) fun _ => ⟨pl, nu, gr, x6, x7, x9, x10, x12, x14, a, os, rfl, p, ho, h5⟩
    obtain ⟨z, M', e, p2⟩ := odd_ok (σ := sb vG vs vT cell more s (some (.int x6)) x7 (some (.int pl)) x9 x10 (some (.int nu)) x12 (some (.int gr)) x14 (some a)) (more := more) (x := (s : Int) + 1) ho h5 (eOp oAdd (eVar 5) (eC (.int 1))) rfl rfl (fun M' q => rfl)
    exact sat_set e ⟨pl, z, gr, x6, x7, x9, x10, x12, x14, a, os, rfl, p.trans p2, Lst.mono ho p2, h5⟩
  refine sat_seq (RS.Sat.mono (q := { nx := ByPost vG vs vT cell more s M0, rt := fun _ _ => False }) ?_ (fun σ M h => ?_) (fun _ _ z => z.elim) (fun _ _ z => z.elim) (fun _ _ z => z.elim))
  · obtain ⟨pl, nu, gr, x6, x7, x9, x10, x12, x14, a, os, rfl, p, ho, h5⟩ := h
    refine sat_if (tw 3 _ _ _ _ _ _ _ _ _ _ _) (fun _ => ?_) fun _ => ⟨pl, nu, gr, x6, x7, x9, x10, x12, x14, a, os, rfl, p, ho, h5⟩
    obtain ⟨z, M', e, p2⟩ := odd_ok (σ := sb vG vs vT cell more s (some (.int x6)) x7 (some (.int pl)) x9 x10 (some (.int nu)) x12 (some (.int gr)) x14 (some a)) (more := more) (x := G.length) ho h5 (eCall fLen (aCons (eVar 0) aNil)) rfl rfl (fun M' q => by
      have := ll_len (hG.mono (p.trans q))
      unfold sb; walk_at "ev"; exact this)
    exact sat_set e ⟨pl, nu, z, x6, x7, x9, x10, x12, x14, a, os, rfl, p.trans p2, Lst.mono ho p2, h5⟩
  refine sat_seq (RS.Sat.mono (q := { nx := ByPost vG vs vT cell more s M0, rt := fun _ _ => False }) ?_ (fun σ M h => ?_) (fun _ _ z => z.elim) (fun _ _ z => z.elim) (fun _ _ z => z.elim))
  · obtain ⟨pl, nu, gr, x6, x7, x9, x10, x12, x14, a, os, rfl, p, ho, h5⟩ := h
    refine sat_if (tw 4 _ _ _ _ _ _ _ _ _ _ _) (fun _ => ?_) fun _ => ⟨pl, nu, gr, x6, x7, x9, x10, x12, x14, a, os, rfl, p, ho, h5⟩
    have d := div_ok (M := M) (i := more) (j := 13) (by decide) (by decide)
    have m := mod_ok (M := M) (i := more / 13) (j := (G.length : Int)) (by omega)
    have l := ll_len (hG.mono p)
    refine sat_set (v := .int (more / 13 % (G.length : Int))) (M1 := M) (by unfold sb; walk_at "ev"; simp only [d, l, m]) ⟨pl, nu, _, x6, x7, x9, x10, x12, x14, a, os, rfl, p, ho, h5⟩
  obtain ⟨pl, nu, gr, x6, x7, x9, x10, x12, x14, a, os, rfl, p, ho, h5⟩ := h
  have m := mod_ok (M := M) (i := cell) (j := 2) (by decide)
  refine sat_seq (sat_if (c := decide (cell % 2 = 0)) (M1 := M) (by unfold sb; walk_at "ev"; simp only [m, eq_int]) (fun _ => ?_) fun _ => ?_)
  · have hn : newT [sField, .int pl, .int nu] M = .ok (.ref M.length) (M ++ [.tup [sField, .int pl, .int nu]]) := newT_ok (by show 3 ≤ 16777216; decide)
    refine sat_ret (v := .ref M.length) (M1 := M ++ [.tup [sField, .int pl, .int nu]]) (by unfold sb; walk_at "ev"; exact hn) ?_
    exact ⟨p.trans (pre_app _ _), .fld pl nu, Tup.new _ _⟩
  · refine sat_skip ?_
    dsimp only
    have hn : newT [sGroup, .int pl, .int nu, .int gr] M = .ok (.ref M.length) (M ++ [.tup [sGroup, .int pl, .int nu, .int gr]]) := newT_ok (by show 4 ≤ 16777216; decide)
    refine sat_ret (v := .ref M.length) (M1 := M ++ [.tup [sGroup, .int pl, .int nu, .int gr]]) (by unfold sb; walk_at "ev"; exact hn) ?_
    exact ⟨p.trans (pre_app _ _), .grp pl nu gr, Tup.new _ _⟩
theorem step_by_ok (M : Mem) (vG vs vT : W) (G : List (List Int)) (ss : List Int) (T : List (List Int)) (s : Nat) (cell more : Int) (hG : LL M vG G) (hs : IntL M vs ss) (hT : LL M vT T) (hTl : T.length = ss.length) (hn : 0 < ss.length) (hs1 : 1 ≤ s) (hGl : 0 < G.length ∧ G.length ≤ 27)
    (hT9 : ∀ r ∈ T, r.length ≤ 9) (hcov : ∀ p : Int, 0 ≤ p → p < (ss.length : Int) → ∃ g ∈ G, p ∈ g) (h81 : ss.length ≤ 81) :
    ∃ v M', d_L_step_by [vG, vs, vT, .int cell, .int more, .int s] M = .ok v M' ∧ (M <+: M' ∧ ∃ st, IsStp M' v st) := by
  refine sat_fn rfl ?_
  show (sSeq _ _ (sb vG vs vT cell more s none none none none none none none none none none) M).Sat _
  have m1 := mod_ok (M := M) (i := more) (j := 13) (by decide)
  refine sat_seq (sat_set (v := .int (more % 13)) (M1 := M) (by unfold sb; walk_at "ev"; simp only [m1]) ?_)
  show (sSeq _ _ (sb vG vs vT cell more s (some (.int (more % 13))) none none none none none none none none none) M).Sat _
  have d2 := div_ok (M := M) (i := cell) (j := 2) (by decide) (by decide)
  have m2 := mod_ok (M := M) (i := cell / 2) (j := (ss.length : Int)) (by omega)
  refine sat_seq (sat_set (v := .int (cell / 2 % (ss.length : Int))) (M1 := M) (by unfold sb; walk_at "ev"; simp only [d2, len_ok hs, m2]) ?_)
  obtain ⟨sp0, sp1⟩ := emod_in (cell / 2) hn
  generalize cell / 2 % (ss.length : Int) = spot at sp0 sp1
  show (sSeq _ _ (sb vG vs vT cell more s (some (.int (more % 13))) (some (.int spot)) none none none none none none none none) M).Sat _
  refine sat_seq (sat_set (v := .int spot) (M1 := M) rfl ?_)
  show (sSeq _ _ (sb vG vs vT cell more s (some (.int (more % 13))) (some (.int spot)) (some (.int spot)) none none none none none none none) M).Sat _
  -- the place
  refine sat_seq (RS.Sat.mono (q := { nx := fun σ M' => ∃ pl x9, 0 ≤ pl ∧ pl < (ss.length : Int) ∧ σ = sb vG vs vT cell more s (some (.int (more % 13))) (some (.int spot)) (some (.int pl)) x9 none none none none none none ∧ M <+: M', rt := fun _ _ => False }) ?_ (fun σ M1 h => ?_) (fun _ _ z => z.elim) (fun _ _ z => z.elim) (fun _ _ z => z.elim))
  · obtain ⟨w, hw, hwl⟩ := ll_at hT (i := spot) sp0 (by omega)
    refine sat_if (tB_run (nil_eq (w := w) (op_run (x := vT) (y := .int spot) (M1 := M) (M2 := M) rfl rfl hw) hwl)) (fun _ => ?_) fun _ => ⟨spot, none, sp0, sp1, rfl, pre_app _ _⟩
    have r1 : (ss.length : Int).natAbs < two62 := rng_ok (by omega) (by omega)
    refine sat_rng (lo := 0) (n := ss.length) (M1 := M ++ [.lst []]) (by unfold sb; walk_at "ev"; simp only [len_ok (Lst.mono hs (pre_app M [.lst []]))]; rw [if_pos r1, Int.toNat_natCast])
      (fun j σ M' => (∃ x9, σ = sb vG vs vT cell more s (some (.int (more % 13))) (some (.int spot)) (some (.int spot)) x9 none none none none none none) ∧ M <+: M') ⟨⟨_, rfl⟩, pre_app _ _⟩ ?_ ?_
    · rintro j σ M' hj ⟨⟨x9, rfl⟩, p⟩
      obtain ⟨k0, k1⟩ := emod_in (spot + (0 + (j : Int))) hn
      have m3 := mod_ok (M := M') (i := spot + (0 + (j : Int))) (j := (ss.length : Int)) (by omega)
      have L := len_ok (Lst.mono hs p)
      generalize spot + (0 + (j : Int)) = sj at k0 k1 m3
      obtain ⟨w2, hw2, hw2l⟩ := ll_at (hT.mono p) (i := sj % (ss.length : Int)) k0 (by omega)
      show (sIf _ _ _ (sb vG vs vT cell more s (some (.int (more % 13))) (some (.int spot)) (some (.int spot)) (some (.int (0 + (j : Int)))) none none none none none none) M').Sat _
      have em : ∀ N : Mem, M <+: N → eOp oMod (eOp oAdd (eVar 7) (eVar 9)) (eCall fLen (aCons (eVar 1) aNil)) (sb vG vs vT cell more s (some (.int (more % 13))) (some (.int spot)) (some (.int spot)) (some (.int (0 + (j : Int)))) none none none none none none) N = .ok (.int ((spot + (0 + (j : Int))) % (ss.length : Int))) N := fun N q => by
        have m4 := mod_ok (M := N) (i := spot + (0 + (j : Int))) (j := (ss.length : Int)) (by omega)
        have L' := len_ok (Lst.mono hs q)
        unfold sb; walk_at "ev"; simp only [L', m4]
      obtain ⟨k0, k1⟩ := emod_in (spot + (0 + (j : Int))) hn
      obtain ⟨w2, hw2, hw2l⟩ := ll_at (hT.mono p) (i := (spot + (0 + (j : Int))) % (ss.length : Int)) k0 (by omega)
      refine sat_if (tB_run (nil_ne (w := w2) (op_run (x := vT) (M1 := M') rfl (em M' p) hw2) hw2l)) (fun _ => ?_) fun _ => ?_
      · refine sat_seq (sat_set (em _ (p.trans (pre_app _ _))) ?_)
        exact ⟨_, _, k0, k1, rfl, p.trans (pre_app _ _)⟩
      · exact ⟨⟨_, rfl⟩, p.trans (pre_app _ _)⟩
    · rintro σ M' ⟨⟨x9, rfl⟩, p⟩
      exact ⟨spot, x9, sp0, sp1, rfl, p⟩
  obtain ⟨pl, x9, pl0, pl1, rfl, p1⟩ := h
  dsimp only
  -- the numbers
  obtain ⟨w, hw, hwl⟩ := ll_at (hT.mono p1) (i := pl) pl0 (by omega)
  have hr9 : (T.getD pl.toNat []).length ≤ 9 := by
    refine hT9 _ ?_
    have : pl.toNat < T.length := by omega
    simp [List.getD, this]
  generalize T.getD pl.toNat [] = row at hwl hr9
  have m5 := mod_ok (M := M1) (i := cell) (j := (s : Int)) (by omega)
  have L5 : IntL (M1 ++ [.lst [.int (1 + cell % (s : Int))]]) (.ref M1.length) [1 + cell % (s : Int)] := Lst.new _ _
  have c5 := cat_ints (Lst.mono hwl (pre_app M1 [.lst [.int (1 + cell % (s : Int))]])) L5 (by show row.length + 1 ≤ 1000; omega)
  refine sat_seq (sat_set (op_run (op_run (x := vT) (y := .int pl) (M1 := M1) (M2 := M1) rfl rfl hw) (lst1_ok (x := .int (1 + cell % (s : Int))) (M1 := M1) (by unfold sb; walk_at "ev"; simp only [m5])) c5) ?_)
  have p2 : M1 <+: M1 ++ [.lst [.int (1 + cell % (s : Int))]] ++ [.lst ((row ++ [1 + cell % (s : Int)]).map .int)] := (pre_app _ _).trans (pre_app _ _)
  have L6 : IntL (M1 ++ [.lst [.int (1 + cell % (s : Int))]] ++ [.lst ((row ++ [1 + cell % (s : Int)]).map .int)]) (.ref (M1 ++ [O.lst [.int (1 + cell % (s : Int))]]).length) (row ++ [1 + cell % (s : Int)]) := Lst.new _ _
  generalize M1 ++ [O.lst [.int (1 + cell % (s : Int))]] ++ [.lst ((row ++ [1 + cell % (s : Int)]).map .int)] = M2 at p2 L6
  generalize (W.ref (M1 ++ [O.lst [.int (1 + cell % (s : Int))]]).length) = vN at L6
  have l10 : 0 < (row ++ [1 + cell % (s : Int)]).length := by rw [List.length_append]; simp
  generalize row ++ [1 + cell % (s : Int)] = numbers at L6 l10
  show (sSeq _ _ (sb vG vs vT cell more s (some (.int (more % 13))) (some (.int spot)) (some (.int pl)) x9 (some vN) none none none none none) M2).Sat _
  have d6 := div_ok (M := M2) (i := more) (j := 13) (by decide) (by decide)
  have m6 := mod_ok (M := M2) (i := more / 13 + cell) (j := (numbers.length : Int)) (by omega)
  obtain ⟨k0, k1⟩ := emod_in (more / 13 + cell) l10
  have i6 := ix_ok L6 k0 k1
  refine sat_seq (sat_set (v := .int (nth numbers ((more / 13 + cell) % (numbers.length : Int)))) (M1 := M2) (by unfold sb; walk_at "ev"; simp only [d6, len_ok L6, m6, i6]) ?_)
  generalize nth numbers ((more / 13 + cell) % (numbers.length : Int)) = nu
  show (sSeq _ _ (sb vG vs vT cell more s (some (.int (more % 13))) (some (.int spot)) (some (.int pl)) x9 (some vN) (some (.int nu)) none none none none) M2).Sat _
  -- the groups near
  have P2 := p1.trans p2
  obtain ⟨ns, e7, n0, n27⟩ := near_ok (σ := sb vG vs vT cell more s (some (.int (more % 13))) (some (.int spot)) (some (.int pl)) x9 (some vN) (some (.int nu)) none none none none) (hG.mono P2) hGl.2 (hcov pl pl0 pl1) (fun _ => rfl) rfl (fun _ => rfl) (fun _ => rfl)
  refine sat_seq (sat_set e7 ?_)
  have p3 : M2 <+: M2 ++ [.lst (ns.map .int)] := pre_app _ _
  have L7 : IntL (M2 ++ [.lst (ns.map .int)]) (.ref M2.length) ns := Lst.new _ _
  generalize M2 ++ [O.lst (ns.map .int)] = M3 at p3 L7
  generalize (W.ref M2.length) = vR at L7
  show (sSeq _ _ (sb vG vs vT cell more s (some (.int (more % 13))) (some (.int spot)) (some (.int pl)) x9 (some vN) (some (.int nu)) (some vR) none none none) M3).Sat _
  have m8 := mod_ok (M := M3) (i := cell + more) (j := (ns.length : Int)) (by omega)
  obtain ⟨q0, q1⟩ := emod_in (cell + more) n0
  have i8 := ix_ok L7 q0 q1
  refine sat_seq (sat_set (v := .int (nth ns ((cell + more) % (ns.length : Int)))) (M1 := M3) (by unfold sb; walk_at "ev"; simp only [len_ok L7, m8, i8]) ?_)
  generalize nth ns ((cell + more) % (ns.length : Int)) = gr
  show (sSeq _ _ (sb vG vs vT cell more s (some (.int (more % 13))) (some (.int spot)) (some (.int pl)) x9 (some vN) (some (.int nu)) (some vR) (some (.int gr)) none none) M3).Sat _
  -- far, odd
  have u9 : oMul (.int more) (.int 48271) M3 = .ok (.int (more * 48271)) M3 := if_pos (.inr (by unfold two64; decide))
  have w9 : oPow (.int 10) (.int 30) M3 = .ok (.int (10 ^ 30)) M3 := by
    have h : (0 : Int) ≤ 30 ∧ (30 : Int).natAbs ≤ 1000000 ∧ (10 : Int).natAbs < two64 := ⟨by decide, by decide, by unfold two64; decide⟩
    simp only [oPow, h, and_self, if_true]
    rfl
  have m9 := mod_ok (M := M3) (i := more * 48271) (j := 10 ^ 30) (by decide)
  refine sat_seq (sat_set (v := .int (more * 48271 % 10 ^ 30)) (M1 := M3) (op_run (op_run (x := .int more) (y := .int 48271) (M1 := M3) (M2 := M3) rfl rfl u9) (op_run (x := .int 10) (y := .int 30) (M1 := M3) (M2 := M3) rfl rfl w9) m9) ?_)
  generalize more * 48271 % 10 ^ 30 = far
  show (sSeq _ _ (sb vG vs vT cell more s (some (.int (more % 13))) (some (.int spot)) (some (.int pl)) x9 (some vN) (some (.int nu)) (some vR) (some (.int gr)) (some (.int far)) none) M3).Sat _
  have n10 : newL [.int (-1), .int 0, .int 1000000000000, .int far, .int (-2 - far)] M3 = .ok (.ref M3.length) (M3 ++ [.lst [.int (-1), .int 0, .int 1000000000000, .int far, .int (-2 - far)]]) := newL_ok (by show 5 ≤ 16777216; decide)
  refine sat_seq (sat_set (v := .ref M3.length) (M1 := M3 ++ [.lst [.int (-1), .int 0, .int 1000000000000, .int far, .int (-2 - far)]]) (by unfold sb; walk_at "ev"; simp only [eNeg, R.bind, eC]; exact n10) ?_)
  have P3 := P2.trans p3
  refine RS.Sat.mono (by_tail vG vs vT cell more s M _ _ G ss hG hs hGl ⟨pl, nu, gr, more % 13, some (.int spot), x9, some vN, some vR, some (.int far), .ref M3.length, [-1, 0, 1000000000000, far, -2 - far], rfl, P3.trans (pre_app _ _), Lst.new _ _, rfl⟩) (fun _ _ z => z.elim) (fun _ _ z => z) (fun _ _ z => z.elim) (fun _ _ z => z.elim)
end LV
end
section
set_option linter.all false
set_option autoImplicit false
set_option maxRecDepth 100000
namespace LV
open VM
local macro_rules | `(tactic| walk_at "ev") => `(tactic| simp only [tB, tAnd, tOr, tNot, tTrue, eOp, eVar, eC, eLst, eTup, aNil, aCons, eCall, eAnd, eOr, eNot, eIf, eIsN, eNotN, eMeth, R.bind, oAdd, oSub, gName, gSub, gTup, gEach, iRng1, iRng2, List.length_cons, List.length_nil, List.map_cons, List.map_nil, List.cons_append, List.nil_append, List.append_nil, List.getElem?_cons_zero, List.getElem?_cons_succ, List.set_cons_zero, List.set_cons_succ, if_true, if_false, Bool.false_eq_true, Nat.reduceAdd, Nat.reduceSub, List.replicate_succ, List.replicate_zero, Nat.zero_add, Nat.add_zero, clr, List.foldl_nil, List.foldl_cons, List.append_assoc])
theorem sh9 {h w : Nat} (hh : 1 ≤ h ∧ h ≤ 3) (hw : 1 ≤ w ∧ w ≤ 3) : h * w ≤ 9 ∧ 1 ≤ h * w ∧ h * w * (h * w) ≤ 81 := by
  have a : h * w ≤ 9 := Nat.le_trans (Nat.mul_le_mul hh.2 hw.2) (by decide)
  exact ⟨a, Nat.mul_pos hh.1 hw.1, Nat.le_trans (Nat.mul_le_mul a a) (by decide)⟩
theorem seq_set {e : EM} {i : Nat} {b : SM} {σ : St} {M M1 : Mem} {v : W} {q : Post} (h1 : e σ M = .ok v M1) (h : (b (σ.set i (some v)) M1).Sat q) : (sSeq (sAsg e (gName i)) b σ M).Sat q := sat_seq (sat_set h1 h)
structure Start (h w : Nat) (M0 : Mem) (vG vf : W) (fs : List Int) (M : Mem) : Prop where
  hh : 1 ≤ h ∧ h ≤ 3
  hw : 1 ≤ w ∧ w ≤ 3
  pre : M0 <+: M
  G : LL M vG (grps h w)
  F : IntL M vf fs
  fl : fs.length = h * w * (h * w)
  fg : Good (h * w) fs
def headS (shape at' all full : CM) (k : SM) : SM := sSeq (
    sAsg (eCall shape (aCons (eVar 0) aNil)) (gTup [gName 1, gName 2])) (
  sSeq (
    sAsg (eOp oMul (eVar 1) (eVar 2)) (gName 3)) (
  sSeq (
    sAsg (eCall all (aCons (eVar 1) (aCons (eVar 2) aNil))) (gName 4)) (
  sSeq (
    sAsg (eCall full (aCons (eVar 1) (aCons (eVar 2) (aCons (eCall at' (aCons (eVar 0) (aCons (eC (.int 1)) aNil))) aNil)))) (gName 5)) k)))
theorem head_ok {shape : CM} (hsh : ShapeSpec shape) (rest : St) (M0 : Mem) (ns : List Int) (hM0 : Scr M0 ns) (hl : ns.length ≤ 63) {k : SM} {q : Post}
    (H : ∀ h w vG vf fs M, Start h w M0 vG vf fs M → (k (some (.ref 0) :: some (.int h) :: some (.int w) :: some (.int (h * w : Nat)) :: some vG :: some vf :: rest) M).Sat q) :
    (headS shape d_L_at d_L_all_groups d_L_full_sheet k (some (.ref 0) :: none :: none :: none :: none :: none :: rest) M0).Sat q := by
  unfold headS
  obtain ⟨v1, M1, e1, p1, h, w, T1, hh, hw⟩ := hsh M0 ns hM0 hl
  obtain ⟨s9, s1, hss⟩ := sh9 hh hw
  refine sat_seq (sat_asg (v := v1) (M1 := M1) (M2 := M1) (σ1 := some (.ref 0) :: some (.int h) :: some (.int w) :: none :: none :: none :: rest) (by walk_at "ev"; exact e1) (by simp only [gTup, T1.tupOf, gEach, gName, R.bind, List.length_cons, List.length_nil, if_true, List.set_cons_zero, List.set_cons_succ]) ?_)
  dsimp only
  have m1 := mul_ok (M := M1) (i := (h : Int)) (j := (w : Int)) (by omega)
  have es : (h : Int) * (w : Int) = ((h * w : Nat) : Int) := by simp
  refine seq_set (v := .int ((h : Int) * w)) (M1 := M1) (by walk_at "ev"; simp only [m1]) ?_
  simp only [List.set_cons_zero, List.set_cons_succ, es]
  obtain ⟨vG, M2, e2, p2, G2⟩ := all_groups_ok h w M1 hh hw
  refine seq_set (v := vG) (M1 := M2) (by walk_at "ev"; exact e2) ?_
  simp only [List.set_cons_zero, List.set_cons_succ]
  have S2 := (hM0.mono p1).mono p2
  obtain ⟨c3, M3, e3, p3⟩ := at_ok ns M2 1 S2 hl
  obtain ⟨vf, M4, e4, p4, fs, F4, fl, fg⟩ := full_ok h w c3 M3 hh hw
  refine seq_set (v := vf) (M1 := M4) (by walk_at "ev"; simp only [e3, e4]) ?_
  simp only [List.set_cons_zero, List.set_cons_succ]
  exact H h w vG vf fs M4 ⟨hh, hw, p1.trans (p2.trans (p3.trans p4)), G2.mono (p3.trans p4), F4, fl, fg⟩
theorem idx3 (s : Int) : ∃ i : Int, (if decide ((3 : Int) < s) = true then (1 : Int) else 0) + (if decide ((4 : Int) < s) = true then (1 : Int) else 0) = i ∧ 0 ≤ i ∧ i < 3 ∧ 0 < nth [7, 4, 3] i := by
  refine ⟨_, rfl, ?_⟩
  by_cases a : (3 : Int) < s <;> by_cases b : (4 : Int) < s <;> simp [a, b, nth]
def shareE (at' : CM) : EM := eOp oMod (eCall at' (aCons (eVar 0) (aCons (eC (.int 2)) aNil))) (eOp oIx (eLst (aCons (eC (.int 7)) (aCons (eC (.int 4)) (aCons (eC (.int 3)) aNil)))) (eOp oAdd (eCall fInt (aCons (eOp oGt (eVar 3) (eC (.int 3))) aNil)) (eCall fInt (aCons (eOp oGt (eVar 3) (eC (.int 4))) aNil))))
theorem share_ok (M : Mem) (ns : List Int) (hM : Scr M ns) (hl : ns.length ≤ 63) (x1 x2 : Option W) (s : Int) (rest : St) : ∃ z M', shareE d_L_at (some (.ref 0) :: x1 :: x2 :: some (.int s) :: rest) M = .ok (.int z) M' ∧ M <+: M' := by
  obtain ⟨c5, M5, e5, p5⟩ := at_ok ns M 2 hM hl
  obtain ⟨i6, ei6, i60, i61, i62⟩ := idx3 s
  have n6 : newL [.int 7, .int 4, .int 3] M5 = .ok (.ref M5.length) (M5 ++ [.lst [.int 7, .int 4, .int 3]]) := newL_ok (by show 3 ≤ 16777216; decide)
  have p6 : M5 <+: M5 ++ [.lst [.int 7, .int 4, .int 3]] := pre_app _ _
  have L6 : IntL (M5 ++ [.lst [.int 7, .int 4, .int 3]]) (.ref M5.length) [7, 4, 3] := Lst.new _ _
  generalize hM6 : M5 ++ [O.lst [.int 7, .int 4, .int 3]] = M6 at n6 p6 L6
  have x6 := ix_ok L6 i60 (by show i6 < ((3 : Nat) : Int); omega)
  have y6 := mod_ok (M := M6) (i := c5) (j := nth [7, 4, 3] i6) i62
  refine ⟨c5 % nth [7, 4, 3] i6, M6, ?_, p5.trans p6⟩
  unfold shareE
  walk_at "ev"
  simp only [e5, n6, gt_int, fInt, ei6, x6, y6]
theorem sheet_of {s : Nat} {fs ss : List Int} (fl : fs.length = s * s) (fg : Good s fs) (sl : ss.length = fs.length) (h : ∀ j : Nat, j < fs.length → (nth ss j = 0 ∨ nth ss j = nth fs j)) : Sheet s ss := by
  have key : ∀ x ∈ ss, x = 0 ∨ x ∈ fs := by
    intro x hx
    obtain ⟨j, hj, rfl⟩ := List.getElem_of_mem hx
    have := h j (by omega)
    rw [nth_nat hj, nth_nat (fs := fs) (by omega)] at this
    rcases this with q | q
    · exact .inl q
    · rw [q]; exact .inr (List.getElem_mem _)
  refine ⟨by omega, fun x hx => ?_, fun x hx => ?_⟩
  · rcases key x hx with rfl | q
    · omega
    · have := (fg x q).1; omega
  · rcases key x hx with rfl | q
    · omega
    · exact (fg x q).2
def sheetE (by' : CM) : EM := eCall by' (aCons (eVar 5) (aCons (eSl (eVar 0) (pSome (eC (.int 3))) (pSome (eC (.int 19)))) (aCons (eVar 6) aNil)))
theorem sheetE_ok (M : Mem) (ns : List Int) (hM : Scr M ns) (hl : ns.length ≤ 63) {vf : W} {fs : List Int} (F : IntL M vf fs) {s : Nat} (fl : fs.length = s * s) (h81 : s * s ≤ 81) (fg : Good s fs) (x1 x2 x3 x4 : Option W) (sh : Int) (rest : St) :
    ∃ N ss, sheetE d_L_sheet_by (some (.ref 0) :: x1 :: x2 :: x3 :: x4 :: some vf :: some (.int sh) :: rest) M = .ok (.ref N.length) (N ++ .lst (ss.map .int) :: []) ∧ M <+: N ∧ Sheet s ss := by
  have n7 := hM.cut hl (some 3) (some 19)
  have p7 : M <+: M ++ [.lst ((VM.cut ns (some 3) (some 19)).map .int)] := pre_app _ _
  have L7 : IntL (M ++ [.lst ((VM.cut ns (some 3) (some 19)).map .int)]) (.ref M.length) (VM.cut ns (some 3) (some 19)) := Lst.new _ _
  generalize hM7 : M ++ [O.lst ((VM.cut ns (some 3) (some 19)).map .int)] = M7 at n7 p7 L7
  obtain ⟨ss, e8, sl, sb⟩ := by_ok M7 vf (.ref M.length) fs _ sh (Lst.mono F p7) L7 (by omega)
  refine ⟨M7, ss, ?_, p7, sheet_of fl fg sl sb⟩
  unfold sheetE
  walk_at "ev"
  simp only [eSl, pSome, R.bind, eVar, eC, List.getElem?_cons_zero, n7, e8]
theorem Sheet.set {s : Nat} {ts : List Int} (h : Sheet s ts) (i : Nat) {x : Int} (h0 : 0 ≤ x) (h1 : x ≤ s) : Sheet s (ts.set i x) where
  len := by rw [List.length_set]; exact h.len
  lo := fun y hy => by
    rcases List.mem_or_eq_of_mem_set hy with q | q
    · exact h.lo y q
    · rw [q]; exact h0
  hi := fun y hy => by
    rcases List.mem_or_eq_of_mem_set hy with q | q
    · exact h.hi y q
    · rw [q]; exact h1
theorem sub_ok {σ : St} {N J : Mem} {ts : List Int} {i x : Int} {o ie : EM} (ho : o σ (N ++ .lst (ts.map .int) :: J) = .ok (.ref N.length) (N ++ .lst (ts.map .int) :: J)) (hi : ie σ (N ++ .lst (ts.map .int) :: J) = .ok (.int i) (N ++ .lst (ts.map .int) :: J)) (h0 : 0 ≤ i) (h1 : i < (ts.length : Int)) : gSub o ie (.int x) σ (N ++ .lst (ts.map .int) :: J) = .ok σ (N ++ .lst ((ts.set i.toNat x).map .int) :: J) := by
  have hx : ixN (ts.map W.int).length i = some i.toNat := by
    unfold ixN
    rw [if_pos h0, List.length_map, if_pos h1]
  unfold gSub
  simp only [ho, hi, R.bind, mutOf_at (own_get N J _), hx, own_set, List.map_set]
theorem own_of_pre {N J M' : Mem} {o : O} (p : N ++ o :: J <+: M') : ∃ J', M' = N ++ o :: J' := by
  obtain ⟨r, rfl⟩ := p
  exact ⟨J ++ r, by simp⟩
def covB (h w : Nat) : Bool := (List.range (h * w * (h * w))).all fun p => (grps h w).any fun g => g.any (· == (p : Int))
theorem cov {h w : Nat} (hh : 1 ≤ h ∧ h ≤ 3) (hw : 1 ≤ w ∧ w ≤ 3) (p : Int) (h0 : 0 ≤ p) (h1 : p < ((h * w * (h * w) : Nat) : Int)) : ∃ g ∈ grps h w, p ∈ g := by
  have key : covB h w = true := by
    rcases h3 hh with rfl | rfl | rfl <;> rcases h3 hw with rfl | rfl | rfl <;> decide +kernel
  have := List.all_eq_true.mp key p.toNat (List.mem_range.mpr (by omega))
  rw [List.any_eq_true] at this
  obtain ⟨g, hg, hp⟩ := this
  rw [any_eq] at hp
  rw [show ((p.toNat : Nat) : Int) = p by omega] at hp
  exact ⟨g, hg, hp⟩
theorem grps_len {h w : Nat} : (grps h w).length = 3 * (h * w) := by
  unfold grps
  simp
  omega
theorem tab_rows (G : List (List Int)) (ss : List Int) (s : Nat) (hs : s ≤ 9) : ∀ r ∈ tabOf G ss s, r.length ≤ 9 := by
  intro r hr
  obtain ⟨p, _, rfl⟩ := List.mem_map.mp hr
  exact Nat.le_trans (rowOf_len _ _ _ _) hs
theorem tab_len (G : List (List Int)) (ss : List Int) (s : Nat) : (tabOf G ss s).length = ss.length := by simp [tabOf]
theorem same_ints (M : Mem) (a b : W) (xs : List Int) (ha : IntL M a xs) (hb : IntL M b xs) (hl : xs.length ≤ 81) : ∃ M', d_L_same d_L_whole [a, b] M = .ok (.bl true) M' ∧ M <+: M' := by
  obtain ⟨p, rfl, hp⟩ := ha
  obtain ⟨q, rfl, hq⟩ := hb
  refine same_ok M _ _ (0 + (xs.map W.int).length + 1) (Wk.seq (ls := []) (rs := []) hp hq rfl (Wk.flats Wk.nil _ (flat_ints xs))) ?_
  rw [List.length_map]
  omega
end LV
end
section
set_option linter.all false
set_option autoImplicit false
set_option maxRecDepth 100000
namespace LV
open VM
local macro_rules | `(tactic| walk_at "ev") => `(tactic| simp only [tB, tAnd, tOr, tNot, tTrue, eOp, eVar, eC, eLst, eTup, aNil, aCons, eCall, eAnd, eOr, eNot, eIf, eIsN, eNotN, eMeth, R.bind, oAdd, oSub, gName, gSub, gTup, gEach, iRng1, iRng2, List.length_cons, List.length_nil, List.map_cons, List.map_nil, List.cons_append, List.nil_append, List.append_nil, List.getElem?_cons_zero, List.getElem?_cons_succ, List.set_cons_zero, List.set_cons_succ, if_true, if_false, Bool.false_eq_true, Nat.reduceAdd, Nat.reduceSub, List.replicate_succ, List.replicate_zero, Nat.zero_add, Nat.add_zero, clr, List.foldl_nil, List.foldl_cons, List.append_assoc])
theorem row_ok (s r : Nat) (hs : s ≤ 9) (hr : r ≤ 9) (M : Mem) : ∃ v M', PB.d_row_fields [.int s, .int r] M = .ok v M' ∧ M <+: M' ∧ IntL M' v (rowF s r) := by
  refine sat_fn rfl ?_
  have hr1 : (s : Int).natAbs < two62 := rng_ok (by omega) (by omega)
  have e : eComp 1 [] (iRng1 (eVar 0)) (gName 2) tTrue (eOp oAdd (eOp oMul (eVar 1) (eVar 0)) (eVar 2)) [some (.int s), some (.int r)] M = newL ((rowF s r).map .int) M := by
    unfold eComp
    walk_at "ev"
    rw [if_pos hr1]
    simp only [Int.toNat_natCast, rng_intsW]
    rw [comp_flat (σ := [some (.int s), some (.int r), none]) (fun _ => true) (fun x => match x with | .int i => .int ((r : Int) * s + i) | _ => .non) _ _ _ (fun _ => rfl) rfl ?_]
    · simp only [filter_tt, List.nil_append, intsW, rowF, List.map_map]
      congr 1
      apply List.map_congr_left
      intro a _
      simp
    · intro x hx
      obtain ⟨k, _, rfl⟩ := List.mem_map.mp hx
      refine ⟨rfl, fun _ => ?_⟩
      have hm := mul_ok (M := M) (i := (r : Int)) (j := (s : Int)) (by omega)
      walk_at "ev"
      simp only [hm]
  have hl : ((rowF s r).map W.int).length ≤ 16777216 := by simp [rowF]; omega
  rw [newL_ok hl] at e
  refine sat_ret e ?_
  exact ⟨pre_app _ _, Lst.new _ _⟩
theorem col_ok (s c : Nat) (hs : s ≤ 9) (hc : c ≤ 9) (M : Mem) : ∃ v M', PB.d_column_fields [.int s, .int c] M = .ok v M' ∧ M <+: M' ∧ IntL M' v (colF s c) := by
  refine sat_fn rfl ?_
  have hr1 : (s : Int).natAbs < two62 := rng_ok (by omega) (by omega)
  have e : eComp 1 [] (iRng1 (eVar 0)) (gName 2) tTrue (eOp oAdd (eOp oMul (eVar 2) (eVar 0)) (eVar 1)) [some (.int s), some (.int c)] M = newL ((colF s c).map .int) M := by
    unfold eComp
    walk_at "ev"
    rw [if_pos hr1]
    simp only [Int.toNat_natCast, rng_intsW]
    rw [comp_flat (σ := [some (.int s), some (.int c), none]) (fun _ => true) (fun x => match x with | .int i => .int (i * s + c) | _ => .non) _ _ _ (fun _ => rfl) rfl ?_]
    · simp only [filter_tt, List.nil_append, intsW, colF, List.map_map]
      congr 1
      apply List.map_congr_left
      intro a _
      simp
    · intro x hx
      obtain ⟨k, hk, rfl⟩ := List.mem_map.mp hx
      rw [List.mem_range] at hk
      refine ⟨rfl, fun _ => ?_⟩
      have hm := mul_ok (M := M) (i := (0 + (k : Int))) (j := (s : Int)) (by omega)
      walk_at "ev"
      simp only [hm]
  have hl : ((colF s c).map W.int).length ≤ 16777216 := by simp [colF]; omega
  rw [newL_ok hl] at e
  refine sat_ret e ?_
  exact ⟨pre_app _ _, Lst.new _ _⟩
def boxRow (h w b r n : Nat) : List Int := (List.range n).map fun c => ((b / h * h + r : Nat) : Int) * (h * w : Nat) + (b % h * w + c : Nat)
def boxPart (h w b n : Nat) : List Int := (List.range n).flatMap fun r => boxRow h w b r w
theorem boxPart_len (h w b n : Nat) : (boxPart h w b n).length = n * w := by
  induction n with
  | zero => simp [boxPart]
  | succ n ih =>
    have e : boxPart h w b (n + 1) = boxPart h w b n ++ boxRow h w b n w := range_flat_succ n _
    rw [e, List.length_append, ih]
    simp [boxRow, Nat.succ_mul]
theorem box_ok (h w b : Nat) (hh : 1 ≤ h ∧ h ≤ 3) (hw : 1 ≤ w ∧ w ≤ 3) (hb : b < 9) (M : Mem) : ∃ v M', PB.d_box_fields [.int h, .int w, .int b] M = .ok v M' ∧ M <+: M' ∧ IntL M' v (boxF h w b) := by
  refine sat_fn rfl ?_
  have hbh : b / h ≤ 9 := Nat.le_trans (Nat.div_le_self b h) (by omega)
  have hbm : b % h < 3 := Nat.lt_of_lt_of_le (Nat.mod_lt b (by omega)) hh.2
  have m1 := mul_ok (M := M) (i := (h : Int)) (j := (w : Int)) (by omega)
  have d1 := div_ok (M := M) (i := (b : Int)) (j := (h : Int)) (by omega) (by omega)
  have e1 : ((b : Int) / (h : Int)) = ((b / h : Nat) : Int) := rfl
  have m2 := mul_ok (M := M) (i := ((b / h : Nat) : Int)) (j := (h : Int)) (by rw [Int.natAbs_natCast]; exact Nat.le_trans hbh (by decide))
  have d2 := mod_ok (M := M) (i := (b : Int)) (j := (h : Int)) (by omega)
  have e2 : ((b : Int) % (h : Int)) = ((b % h : Nat) : Int) := rfl
  have m3 := mul_ok (M := M) (i := ((b % h : Nat) : Int)) (j := (w : Int)) (by rw [Int.natAbs_natCast]; exact Nat.le_trans (Nat.le_of_lt hbm) (by decide))
  show (sSeq _ _ [some (.int h), some (.int w), some (.int b), none, none, none, none, none, none] M).Sat _
  refine sat_seq (sat_set (v := .int ((h : Int) * w)) (M1 := M) (by walk_at "ev"; simp only [m1]) ?_)
  refine sat_seq (sat_set (v := .int (((b / h : Nat) : Int) * h)) (M1 := M) (by walk_at "ev"; simp only [d1, e1, m2]) ?_)
  refine sat_seq (sat_set (v := .int (((b % h : Nat) : Int) * w)) (M1 := M) (by walk_at "ev"; simp only [d2, e2, m3]) ?_)
  refine sat_seq (sat_set (v := .ref M.length) (M1 := M ++ [.lst []]) (by walk_at "ev"; exact newL_ok (by simp)) ?_)
  refine sat_seq ?_
  have ht : (b / h * h : Nat) ≤ 9 := Nat.le_trans (Nat.div_mul_le_self b h) (by omega)
  have hl : (b % h * w : Nat) ≤ 9 := by have := Nat.mul_le_mul (Nat.le_of_lt hbm) hw.2; omega
  have et : ((b / h : Nat) : Int) * (h : Int) = ((b / h * h : Nat) : Int) := by simp
  have el : ((b % h : Nat) : Int) * (w : Int) = ((b % h * w : Nat) : Int) := by simp
  have es : (h : Int) * (w : Int) = ((h * w : Nat) : Int) := by simp
  have hs9 : h * w ≤ 9 := Nat.le_trans (Nat.mul_le_mul hh.2 hw.2) (by decide)
  simp only [List.set_cons_zero, List.set_cons_succ, et, el, es]
  have r1 : ((b / h * h : Nat) : Int).natAbs < two62 ∧ (((b / h * h : Nat) : Int) + (h : Int)).natAbs < two62 := ⟨rng_ok (by omega) (by omega), rng_ok (by omega) (by omega)⟩
  have r2 : ((b % h * w : Nat) : Int).natAbs < two62 ∧ (((b % h * w : Nat) : Int) + (w : Int)).natAbs < two62 := ⟨rng_ok (by omega) (by omega), rng_ok (by omega) (by omega)⟩
  have n1 : (((b / h * h : Nat) : Int) + (h : Int) - ((b / h * h : Nat) : Int)).toNat = h := by omega
  have n2 : (((b % h * w : Nat) : Int) + (w : Int) - ((b % h * w : Nat) : Int)).toNat = w := by omega
  refine sat_rng (lo := ((b / h * h : Nat) : Int)) (n := h) (M1 := M ++ [.lst []]) (by walk_at "ev"; rw [if_pos r1, n1])
    (fun j σ M' => ∃ x y, σ = [some (.int h), some (.int w), some (.int b), some (.int (h * w : Nat)), some (.int (b / h * h : Nat)), some (.int (b % h * w : Nat)), some (.ref M.length), x, y] ∧ M' = M ++ [.lst ((boxPart h w b j).map .int)]) ⟨none, none, rfl, rfl⟩ ?_ ?_
  · rintro j σ M' hj ⟨x, y, rfl, rfl⟩
    simp only [List.set_cons_zero, List.set_cons_succ]
    refine sat_rng (lo := ((b % h * w : Nat) : Int)) (n := w) (M1 := M ++ [.lst ((boxPart h w b j).map .int)]) (by walk_at "ev"; rw [if_pos r2, n2])
      (fun c σ M' => ∃ y, σ = [some (.int h), some (.int w), some (.int b), some (.int (h * w : Nat)), some (.int (b / h * h : Nat)), some (.int (b % h * w : Nat)), some (.ref M.length), some (.int (((b / h * h : Nat) : Int) + (j : Int))), y] ∧ M' = M ++ [.lst ((boxPart h w b j ++ boxRow h w b j c).map .int)]) ⟨y, rfl, by simp [boxRow]⟩ ?_ ?_
    · rintro c σ M' hc ⟨y, rfl, rfl⟩
      simp only [List.set_cons_zero, List.set_cons_succ]
      have g := get_last M (.lst ((boxPart h w b j ++ boxRow h w b j c).map .int))
      have lo := lstOf_at g
      have hlen : ((boxPart h w b j ++ boxRow h w b j c).map W.int).length < 16777216 := by
        rw [List.length_map, List.length_append, boxPart_len]
        have : j * w ≤ 3 * 3 := Nat.mul_le_mul (by omega) hw.2
        simp [boxRow]; omega
      have m4 := mul_ok (M := M ++ [.lst ((boxPart h w b j ++ boxRow h w b j c).map .int)]) (i := (((b / h * h : Nat) : Int) + (j : Int))) (j := ((h * w : Nat) : Int)) (by omega)
      refine sat_expr (v := .non) (M1 := M ++ [.lst ((boxPart h w b j ++ boxRow h w b j (c + 1)).map .int)]) ?_ ⟨_, rfl, rfl⟩
      walk_at "ev"
      simp only [lo, m4]
      rw [append_ok g hlen, set_last]
      have e3 : boxRow h w b j (c + 1) = boxRow h w b j c ++ [((b / h * h + j : Nat) : Int) * (h * w : Nat) + (b % h * w + c : Nat)] := range_map_succ c _
      rw [e3]
      simp
    · rintro σ M' ⟨y, rfl, rfl⟩
      exact ⟨_, _, rfl, by rw [show boxPart h w b (j + 1) = boxPart h w b j ++ boxRow h w b j w from range_flat_succ j _]⟩
  · rintro σ M' ⟨x, y, rfl, rfl⟩
    dsimp only
    refine sat_ret (v := .ref M.length) (M1 := M ++ [.lst ((boxPart h w b h).map .int)]) rfl ?_
    exact ⟨pre_app _ _, Lst.new _ _⟩
theorem groups_ok : GroupsSpec (PB.d_groups_of PB.d_row_fields PB.d_column_fields PB.d_box_fields) := by
  intro h w M hh hw
  refine sat_fn rfl ?_
  have hs9 : h * w ≤ 9 := Nat.le_trans (Nat.mul_le_mul hh.2 hw.2) (by decide)
  have m1 := mul_ok (M := M) (i := (h : Int)) (j := (w : Int)) (by omega)
  have es : (h : Int) * (w : Int) = ((h * w : Nat) : Int) := by simp
  show (sSeq _ _ [some (.int h), some (.int w), none, none, none, none] M).Sat _
  refine sat_seq (sat_set (v := .int ((h : Int) * w)) (M1 := M) (by walk_at "ev"; simp only [m1]) ?_)
  simp only [List.set_cons_zero, List.set_cons_succ, es]
  obtain ⟨v1, M1, e1, p1, L1⟩ := lists_ok (σ := [some (.int h), some (.int w), some (.int (h * w : Nat)), none, none, none]) (M := M) (elt := eCall PB.d_row_fields (aCons (eVar 2) (aCons (eVar 6) aNil))) 6 (rowF (h * w)) (eVar 2) rfl hs9 (fun j hj M' p => by
    obtain ⟨v, M'', a, b, c⟩ := row_ok (h * w) j hs9 (by omega) M'
    exact ⟨v, M'', by walk_at "ev"; exact a, b, c⟩)
  refine sat_seq (sat_set e1 ?_)
  simp only [List.set_cons_zero, List.set_cons_succ]
  obtain ⟨v2, M2, e2, p2, L2⟩ := lists_ok (σ := [some (.int h), some (.int w), some (.int (h * w : Nat)), some v1, none, none]) (M := M1) (elt := eCall PB.d_column_fields (aCons (eVar 2) (aCons (eVar 6) aNil))) 6 (colF (h * w)) (eVar 2) rfl hs9 (fun j hj M' p => by
    obtain ⟨v, M'', a, b, c⟩ := col_ok (h * w) j hs9 (by omega) M'
    exact ⟨v, M'', by walk_at "ev"; exact a, b, c⟩)
  refine sat_seq (sat_set e2 ?_)
  simp only [List.set_cons_zero, List.set_cons_succ]
  obtain ⟨v3, M3, e3, p3, L3⟩ := lists_ok (σ := [some (.int h), some (.int w), some (.int (h * w : Nat)), some v1, some v2, none]) (M := M2) (elt := eCall PB.d_box_fields (aCons (eVar 0) (aCons (eVar 1) (aCons (eVar 6) aNil)))) 6 (boxF h w) (eVar 2) rfl hs9 (fun j hj M' p => by
    obtain ⟨v, M'', a, b, c⟩ := box_ok h w j hh hw (by omega) M'
    exact ⟨v, M'', by walk_at "ev"; exact a, b, c⟩)
  refine sat_seq (sat_set e3 ?_)
  simp only [List.set_cons_zero, List.set_cons_succ]
  obtain ⟨v4, M4, e4, p4, L4⟩ := cat_ok ((L1.mono p2).mono p3) (L2.mono p3) (by simp; omega)
  obtain ⟨v5, M5, e5, p5, L5⟩ := cat_ok L4 (L3.mono p4) (by simp; omega)
  refine sat_ret (v := v5) (M1 := M5) ?_ ?_
  · simp only [eOp, eVar, List.getElem?_cons_zero, List.getElem?_cons_succ, R.bind, e4, e5]
  · exact ⟨p1.trans (p2.trans (p3.trans (p4.trans p5))), L5⟩
theorem refuse_ok (h w : Nat) (hh : 1 ≤ h ∧ h ≤ 3) (hw : 1 ≤ w ∧ w ≤ 3) (M : Mem) (v : W) (ns : List Int) (hv : IntL M v ns) (hs : Sheet (h * w) ns) : PB.d_refuse_no_sheet [.int h, .int w, v] M = .ok .non M := by
  have key : ∃ u M', PB.d_refuse_no_sheet [.int h, .int w, v] M = .ok u M' ∧ (u = .non ∧ M' = M) := by
    refine sat_fn rfl ?_
    have hs9 : h * w ≤ 9 := Nat.le_trans (Nat.mul_le_mul hh.2 hw.2) (by decide)
    have m1 := mul_ok (M := M) (i := (h : Int)) (j := (w : Int)) (by omega)
    have es : (h : Int) * (w : Int) = ((h * w : Nat) : Int) := by simp
    have m2 := mul_ok (M := M) (i := ((h * w : Nat) : Int)) (j := ((h * w : Nat) : Int)) (by omega)
    have es2 : ((h * w : Nat) : Int) * ((h * w : Nat) : Int) = ((h * w * (h * w) : Nat) : Int) := by simp
    show (sSeq _ _ [some (.int h), some (.int w), some v, none, none] M).Sat _
    refine sat_seq (sat_set (v := .int ((h : Int) * w)) (M1 := M) (by walk_at "ev"; simp only [m1]) ?_)
    simp only [List.set_cons_zero, List.set_cons_succ, es]
    refine sat_seq (sat_if (c := false) (M1 := M) ?_ (fun z => nomatch z) fun _ => ?_)
    · walk_at "ev"
      simp only [len_ok hv, m2, ne_int, hs.len, es2, decide_true, Bool.not_true]
    refine sat_skip ?_
    refine sat_lst (v := v) (M1 := M) (xs := ns.map .int) rfl hv (fun j σ M' => (∃ x, σ = [some (.int h), some (.int w), some v, some (.int (h * w : Nat)), x]) ∧ M' = M) ⟨⟨_, rfl⟩, rfl⟩ (fun j σ M' _ ⟨_, e⟩ => by subst e; exact hv) ?_ ?_
    · rintro j x σ M' hx ⟨⟨y, rfl⟩, rfl⟩
      obtain ⟨n, hn, rfl, _⟩ := mem_of_map hx
      have h1 := hs.lo n hn
      have h2 := hs.hi n hn
      simp only [List.set_cons_zero, List.set_cons_succ]
      refine sat_if (c := false) (M1 := M') ?_ (fun z => nomatch z) fun _ => ?_
      · walk_at "ev"
        have e1 : decide (n < 0) = false := decide_eq_false (by omega)
        have e2 : decide (((h * w : Nat) : Int) < n) = false := decide_eq_false (by omega)
        simp only [lt_int, gt_int, e1, e2, Bool.false_eq_true, if_false]
      · exact ⟨⟨_, rfl⟩, rfl⟩
    · rintro σ M' ⟨⟨y, rfl⟩, rfl⟩
      exact ⟨trivial, rfl⟩
  obtain ⟨u, M', e, rfl, rfl⟩ := key
  exact e
end LV
end
section
set_option linter.all false
set_option autoImplicit false
set_option maxRecDepth 100000
namespace LV
open VM
local macro_rules | `(tactic| walk_at "ev") => `(tactic| simp only [tB, tAnd, tOr, tNot, tTrue, eOp, eVar, eC, eLst, eTup, aNil, aCons, eCall, eAnd, eOr, eNot, eIf, eIsN, eNotN, eMeth, R.bind, oAdd, oSub, gName, gSub, gTup, gEach, iRng1, iRng2, List.length_cons, List.length_nil, List.map_cons, List.map_nil, List.cons_append, List.nil_append, List.append_nil, List.getElem?_cons_zero, List.getElem?_cons_succ, List.set_cons_zero, List.set_cons_succ, if_true, if_false, Bool.false_eq_true, Nat.reduceAdd, Nat.reduceSub, List.replicate_succ, List.replicate_zero, Nat.zero_add, Nat.add_zero, clr, List.foldl_nil, List.foldl_cons, List.append_assoc])
theorem dval_pos {p : Int × W} {r : List (Int × W)} {k : Int} (e : p.1 = k) : dval (p :: r) k = some p.2 := by simp [dval, List.find?_cons, e]
theorem dval_neg {p : Int × W} {r : List (Int × W)} {k : Int} (e : ¬ p.1 = k) : dval (p :: r) k = dval r k := by simp [dval, List.find?_cons, e]
theorem dval_any (k : Int) : ∀ kvs : List (Int × W), (kvs.any fun kv => decide (kv.1 = k)) = (dval kvs k).isSome
  | [] => rfl
  | p :: r => by
    rw [List.any_cons]
    by_cases e : p.1 = k
    · simp only [dval_pos e, decide_eq_true e, Bool.true_or, Option.isSome_some]
    · rw [dval_neg e, decide_eq_false e, Bool.false_or]; exact dval_any k r
theorem dval_map (k j : Int) (y : W) : ∀ kvs : List (Int × W), dval (kvs.map fun kv => if kv.1 = k then (kv.1, y) else kv) j = (dval kvs j).map fun x => if j = k then y else x
  | [] => rfl
  | p :: r => by
    have ih := dval_map k j y r
    rw [List.map_cons]
    by_cases h : p.1 = k
    · rw [if_pos h]
      by_cases e : p.1 = j
      · rw [dval_pos (p := (p.1, y)) e, dval_pos e, Option.map_some, if_pos (e.symm.trans h)]
      · rw [dval_neg (p := (p.1, y)) e, dval_neg e, ih]
    · rw [if_neg h]
      by_cases e : p.1 = j
      · rw [dval_pos (p := p) e, dval_pos e, Option.map_some, if_neg (fun z => h (e.trans z))]
      · rw [dval_neg (p := p) e, dval_neg e, ih]
theorem dval_snoc (k j : Int) (y : W) : ∀ kvs : List (Int × W), dval kvs k = none → dval (kvs ++ [(k, y)]) j = if j = k then some y else dval kvs j
  | [], _ => by
    by_cases e : k = j
    · rw [if_pos e.symm]; exact dval_pos (p := (k, y)) e
    · rw [if_neg (fun z => e z.symm)]; exact dval_neg (p := (k, y)) e
  | p :: r, hn => by
    rw [List.cons_append]
    have hk : ¬ p.1 = k := fun z => by rw [dval_pos z] at hn; cases hn
    rw [dval_neg hk] at hn
    have ih := dval_snoc k j y r hn
    by_cases e : p.1 = j
    · rw [dval_pos e, dval_pos e, if_neg (fun z => hk (e.trans z))]
    · rw [dval_neg e, dval_neg e, ih]
theorem dput_new {kvs : List (Int × W)} {k : Int} (v : W) (h : dval kvs k = none) : dput kvs k v = kvs ++ [(k, v)] := by
  unfold dput
  rw [dval_any, h]
  exact if_neg (by decide)
theorem dput_old {kvs : List (Int × W)} {k : Int} {x : W} (v : W) (h : dval kvs k = some x) : dput kvs k v = kvs.map (fun kv => if kv.1 = k then (kv.1, v) else kv) := by
  unfold dput
  rw [dval_any, h]
  exact if_pos rfl
theorem dval_put (kvs : List (Int × W)) (k j : Int) (y : W) : dval (dput kvs k y) j = if j = k then some y else dval kvs j := by
  cases q : dval kvs k with
  | none => rw [dput_new y q]; exact dval_snoc k j y kvs q
  | some x =>
    rw [dput_old y q, dval_map]
    by_cases e : j = k
    · rw [if_pos e, e, q, Option.map_some, if_pos rfl]
    · rw [if_neg e]
      cases dval kvs j with
      | none => rfl
      | some z => rw [Option.map_some, if_neg e]
theorem dput_len (kvs : List (Int × W)) (k : Int) (v : W) : (dput kvs k v).length ≤ kvs.length + 1 := by
  unfold dput
  split
  · rw [List.length_map]; omega
  · rw [List.length_append, List.length_cons, List.length_nil]; omega
theorem dput_keys_old {kvs : List (Int × W)} {k : Int} {x : W} (v : W) (h : dval kvs k = some x) : (dput kvs k v).map (·.1) = kvs.map (·.1) := by
  rw [dput_old v h, List.map_map]
  refine List.map_congr_left fun p _ => ?_
  show (if p.1 = k then (p.1, v) else p).1 = p.1
  split <;> rfl
theorem dval_not {kvs : List (Int × W)} {k : Int} (h : dval kvs k = none) : k ∉ kvs.map (·.1) := fun m => by
  obtain ⟨p, hp, e⟩ := List.mem_map.mp m
  have q : (kvs.any fun kv => decide (kv.1 = k)) = true := List.any_eq_true.mpr ⟨p, hp, decide_eq_true e⟩
  rw [dval_any, h] at q
  exact absurd q (by simp)
theorem nodup_snoc {kvs : List (Int × W)} {k : Int} (v : W) (h : dval kvs k = none) (hn : (kvs.map (·.1)).Nodup) : ((kvs ++ [(k, v)]).map (·.1)).Nodup := by
  rw [List.map_append]
  refine List.nodup_append.mpr ⟨hn, by simp, fun a ha b hb => ?_⟩
  simp only [List.map_cons, List.map_nil, List.mem_singleton] at hb
  rintro rfl
  exact dval_not h (hb ▸ ha)
theorem dput_nodup {kvs : List (Int × W)} {k : Int} (v : W) (hn : (kvs.map (·.1)).Nodup) : ((dput kvs k v).map (·.1)).Nodup := by
  cases q : dval kvs k with
  | none => rw [dput_new v q]; exact nodup_snoc v q hn
  | some x => rw [dput_keys_old v q]; exact hn
theorem dctOf_at {M : Mem} {a : Nat} {kvs : List (Int × W)} (h : M[a]? = some (.dct kvs)) : dctOf M (.ref a) = some (a, kvs) := by simp only [dctOf, h]
theorem isDct_at {M : Mem} {a : Nat} {kvs : List (Int × W)} (h : M[a]? = some (.dct kvs)) : isDct M (.ref a) = true := by simp only [isDct, dctOf_at h, Option.isSome_some]
theorem dIn_ok {M : Mem} {a : Nat} {kvs : List (Int × W)} (neg : Bool) (k : Int) (h : M[a]? = some (.dct kvs)) : dIn neg (.int k) (.ref a) M = .ok (.bl ((dval kvs k).isSome != neg)) M := by simp only [dIn, dctOf_at h]
theorem dPut_ok {M : Mem} {a : Nat} {kvs : List (Int × W)} {σ : St} (k : Int) (v : W) (h : M[a]? = some (.dct kvs)) (hl : kvs.length < 16777216) : dPut (.ref a) (.int k) v σ M = .nx σ (M.set a (.dct (dput kvs k v))) := by
  simp only [dPut, dctOf_at h]; exact if_pos hl
abbrev cSt : List Nat := [83, 116, 97, 116, 101]
abbrev fH : List Nat := [104, 105, 103, 104]
abbrev fW : List Nat := [119, 105, 100, 101]
abbrev fG : List Nat := [103, 114, 111, 117, 112, 115]
abbrev fN : List Nat := [110, 117, 109, 98, 101, 114, 115]
abbrev fC : List Nat := [99, 97, 110]
theorem insOf_at {M : Mem} {a : Nat} {c : List Nat} {fs : List (List Nat × W)} (h : M[a]? = some (.ins c fs)) : insOf M (.ref a) = some (a, c, fs) := by simp only [insOf, h]
theorem fldV_ok {M : Mem} {a : Nat} {c f : List Nat} {fs : List (List Nat × W)} {v : W} (h : M[a]? = some (.ins c fs)) (hf : getF f fs = some v) : fldV c f (.ref a) M = .ok v M := by
  simp only [fldV, insOf_at h, hf, if_true]
theorem fld_ok {σ : St} {M : Mem} {i a : Nat} {c f : List Nat} {fs : List (List Nat × W)} {v : W} (hi : σ[i]? = some (some (.ref a))) (h : M[a]? = some (.ins c fs)) (hf : getF f fs = some v) : eFld c f (eVar i) σ M = .ok v M := by
  simp only [eFld, eVar, hi, R.bind]; exact fldV_ok h hf
abbrev stF (h w : Nat) (vG vN vC : W) : List (List Nat × W) := [(fH, .int h), (fW, .int w), (fG, vG), (fN, vN), (fC, vC)]
def gsI (h w p : Nat) : List Int := (gsOf h w p).map fun (g : Nat) => (g : Int)
def GatSpec (f : CM) : Prop := ∀ (h w p : Nat) (M : Mem), 1 ≤ h ∧ h ≤ 3 → 1 ≤ w ∧ w ≤ 3 → p < h * w * (h * w) → f [.int h, .int w, .int p] M = .ok (.ref M.length) (M ++ [.lst ((gsI h w p).map .int)])
theorem gat_ok : GatSpec PB.d_groups_at := by
  intro h w p M hh hw hp
  have hs : 1 ≤ h * w ∧ h * w ≤ 9 := by rcases h3 hh with rfl | rfl | rfl <;> rcases h3 hw with rfl | rfl | rfl <;> decide
  have key : ∃ r M', PB.d_groups_at [.int h, .int w, .int p] M = .ok r M' ∧ (r = .ref M.length ∧ M' = M ++ [.lst ((gsI h w p).map .int)]) := by
    refine sat_fn rfl ?_
    show (sSeq _ _ [some (.int h), some (.int w), some (.int p), none, none, none, none] M).Sat _
    refine sat_seq (sat_set (v := .int ((h * w : Nat) : Int)) (M1 := M) ?_ ?_)
    · walk_at "ev"
      rw [mul_ok (by omega), Int.natCast_mul]
    simp only [List.set_cons_zero, List.set_cons_succ]
    refine sat_seq (sat_set (v := .int ((p / (h * w) : Nat) : Int)) (M1 := M) ?_ ?_)
    · walk_at "ev"
      rw [div_ok (by omega) (by omega), Int.natCast_ediv]
    simp only [List.set_cons_zero, List.set_cons_succ]
    refine sat_seq (sat_set (v := .int ((p % (h * w) : Nat) : Int)) (M1 := M) ?_ ?_)
    · walk_at "ev"
      rw [mod_ok (by omega), Int.natCast_emod]
    simp only [List.set_cons_zero, List.set_cons_succ]
    have q1 : p / (h * w) ≤ 9 := by
      have : p / (h * w) < h * w := Nat.div_lt_of_lt_mul hp
      omega
    refine sat_seq (sat_set (v := .int ((p / (h * w) / h * h + p % (h * w) / w : Nat) : Int)) (M1 := M) ?_ ?_)
    · have q2 : p / (h * w) / h ≤ 9 := Nat.le_trans (Nat.div_le_self _ _) q1
      have e1 : eOp oDiv (eVar 4) (eVar 0) [some (.int h), some (.int w), some (.int p), some (.int ((h * w : Nat) : Int)), some (.int ((p / (h * w) : Nat) : Int)), some (.int ((p % (h * w) : Nat) : Int)), none] M = .ok (.int ((p / (h * w) / h : Nat) : Int)) M :=
        op_run rfl rfl (by rw [div_ok (by omega) (by omega), ← Int.natCast_ediv])
      have e2 := op_run (f := oMul) (b := eVar 0) e1 rfl (mul_ok (by rw [Int.natAbs_natCast]; exact Nat.le_trans q2 (by decide)))
      have e3 : eOp oDiv (eVar 5) (eVar 1) [some (.int h), some (.int w), some (.int p), some (.int ((h * w : Nat) : Int)), some (.int ((p / (h * w) : Nat) : Int)), some (.int ((p % (h * w) : Nat) : Int)), none] M = .ok (.int ((p % (h * w) / w : Nat) : Int)) M :=
        op_run rfl rfl (by rw [div_ok (by omega) (by omega), ← Int.natCast_ediv])
      refine op_run e2 e3 ?_
      show R.ok (W.int (_ + _)) M = _
      rw [Int.natCast_add, Int.natCast_mul]
    simp only [List.set_cons_zero, List.set_cons_succ]
    refine sat_ret (v := .ref M.length) (M1 := M ++ [.lst ((gsI h w p).map .int)]) ?_ ⟨rfl, rfl⟩
    walk_at "ev"
    rw [mul_ok (by omega)]
    simp only
    rw [newL_ok (by show 3 ≤ 16777216; decide)]
    simp only [gsI, gsOf, List.map_cons, List.map_nil, Int.natCast_add, Int.natCast_mul]
    rfl
  obtain ⟨r, M', e, rfl, rfl⟩ := key
  exact e
end LV
end
section
set_option linter.all false
set_option autoImplicit false
set_option maxRecDepth 100000
namespace LV
open VM
local macro_rules | `(tactic| walk_at "ev") => `(tactic| simp only [tB, tAnd, tOr, tNot, tTrue, eOp, eVar, eC, eLst, eTup, aNil, aCons, eCall, eAnd, eOr, eNot, eIf, eIsN, eNotN, eMeth, R.bind, oAdd, oSub, gName, gSub, gTup, gEach, iRng1, iRng2, List.length_cons, List.length_nil, List.map_cons, List.map_nil, List.cons_append, List.nil_append, List.append_nil, List.getElem?_cons_zero, List.getElem?_cons_succ, List.set_cons_zero, List.set_cons_succ, if_true, if_false, Bool.false_eq_true, Nat.reduceAdd, Nat.reduceSub, List.replicate_succ, List.replicate_zero, Nat.zero_add, Nat.add_zero, clr, List.foldl_nil, List.foldl_cons, List.append_assoc])
theorem sat_dput {d k e : EM} {σ : St} {M M1 M2 M3 : Mem} {a : Nat} {i : Int} {v : W} {kvs : List (Int × W)} {q : Post} (he : e σ M = .ok v M1) (hd : d σ M1 = .ok (.ref a) M2) (hk : k σ M2 = .ok (.int i) M3) (hD : M3[a]? = some (.dct kvs)) (hl : kvs.length < 16777216)
    (h : q.nx σ (M3.set a (.dct (dput kvs i v)))) : (sDPut d k e σ M).Sat q := by
  unfold sDPut
  rw [he]
  simp only [R.bindS, hd, hk, dPut_ok i v hD hl]
  exact h
def seenIn (G : List (List Int)) (ss : List Int) (gs : List Int) (n : Int) : Bool := gs.any fun g => (G.getD g.toNat []).any fun f => decide (nth ss f = n)
def freeOf (G : List (List Int)) (ss : List Int) (s : Nat) (gs : List Int) : List Int := (nums s).filter fun n => !seenIn G ss gs n
theorem nums_intsW (s : Nat) : intsW 1 s = (nums s).map .int := by
  unfold intsW nums
  rw [List.map_map]
  refine List.map_congr_left fun k _ => ?_
  show W.int (1 + (k : Int)) = W.int ((k : Int) + 1)
  rw [Int.add_comm]
theorem sz9 {h w : Nat} (hh : 1 ≤ h ∧ h ≤ 3) (hw : 1 ≤ w ∧ w ≤ 3) : 1 ≤ h * w ∧ h * w ≤ 9 := by rcases h3 hh with rfl | rfl | rfl <;> rcases h3 hw with rfl | rfl | rfl <;> decide
theorem grps_ln (h w : Nat) : (grps h w).length = 3 * (h * w) := by unfold grps; simp; omega
theorem any_take_succ {α : Type} (l : List α) (f : α → Bool) (j : Nat) {x : α} (h : l[j]? = some x) : (l.take (j + 1)).any f = ((l.take j).any f || f x) := by
  rw [List.take_succ, h]; simp
theorem getD_mem {G : List (List Int)} {g : Int} (h0 : 0 ≤ g) (h1 : g < (G.length : Int)) : G.getD g.toNat [] ∈ G := by
  have : g.toNat < G.length := by omega
  simp [List.getD, this]
theorem fld2_ok {σ : St} {M : Mem} {a : Nat} {fs : List (List Nat × W)} {h w : Nat} {f : CM} {p : Int} {r : R W} {e : EM} (hi : σ[0]? = some (some (.ref a))) (ho : M[a]? = some (.ins cSt fs)) (f1 : getF fH fs = some (.int h)) (f2 : getF fW fs = some (.int w))
    (he : e σ M = .ok (.int p) M) (hf : f [.int h, .int w, .int p] M = r) : eCall f (aCons (eFld cSt fH (eVar 0)) (aCons (eFld cSt fW (eVar 0)) (aCons e aNil))) σ M = r := by
  simp only [eCall, aCons, aNil, fld_ok hi ho f1, fld_ok hi ho f2, he, R.bind]
  exact hf
theorem size_ok {σ : St} {M : Mem} {a : Nat} {fs : List (List Nat × W)} {h w : Nat} (hw3 : h ≤ 3) (hi : σ[0]? = some (some (.ref a))) (ho : M[a]? = some (.ins cSt fs)) (f1 : getF fH fs = some (.int h)) (f2 : getF fW fs = some (.int w)) :
    eOp oMul (eFld cSt fH (eVar 0)) (eFld cSt fW (eVar 0)) σ M = .ok (.int ((h * w : Nat) : Int)) M :=
  op_run (fld_ok hi ho f1) (fld_ok hi ho f2) (by rw [mul_ok (by omega), Int.natCast_mul])
theorem numfor_ok {f : CM} (hf : GatSpec f) {h w p : Nat} {M : Mem} {a : Nat} {fs : List (List Nat × W)} {vG vN : W} {ss : List Int} (hh : 1 ≤ h ∧ h ≤ 3) (hw : 1 ≤ w ∧ w ≤ 3) (hp : p < h * w * (h * w)) (ho : M[a]? = some (.ins cSt fs))
    (f1 : getF fH fs = some (.int h)) (f2 : getF fW fs = some (.int w)) (f3 : getF fG fs = some vG) (f4 : getF fN fs = some vN) (hG : LL M vG (grps h w)) (hN : IntL M vN ss) (hl : ss.length = h * w * (h * w)) :
    ∃ k M', PB.d_State_numbers_for f [.ref a, .int p] M = .ok (.ref k) M' ∧ M <+: M' ∧ M.length ≤ k ∧ M'[k]? = some (.lst ((freeOf (grps h w) ss (h * w) (gsI h w p)).map .int)) := by
  obtain ⟨s1, s9⟩ := sz9 hh hw
  have gin := grp_in hh hw
  have key : ∃ r M', PB.d_State_numbers_for f [.ref a, .int p] M = .ok r M' ∧ ∃ k, r = .ref k ∧ M <+: M' ∧ M.length ≤ k ∧ M'[k]? = some (.lst ((freeOf (grps h w) ss (h * w) (gsI h w p)).map .int)) := by
    refine sat_fn rfl ?_
    show (sSeq _ _ [some (.ref a), some (.int p), none, none, none] M).Sat _
    refine sat_seq (sat_set (v := .ref M.length) (M1 := M ++ [.dct []]) rfl ?_)
    simp only [List.set_cons_zero, List.set_cons_succ]
    refine sat_seq ?_
    have gI : ∀ g ∈ gsI h w p, 0 ≤ g ∧ g < ((grps h w).length : Int) := fun g hg => by
      obtain ⟨n, hn, rfl⟩ := List.mem_map.mp hg
      have := gs_in hh hw hp n hn
      rw [grps_ln]
      exact ⟨Int.natCast_nonneg _, by omega⟩
    have gl : (gsI h w p).length = 3 := rfl
    have pre : ∀ (kvs : List (Int × W)) (l : List W), M <+: M ++ [.dct kvs, .lst l] := fun kvs l => pre_app _ _
    refine sat_lst (v := .ref (M.length + 1)) (xs := (gsI h w p).map .int) (M1 := M ++ [.dct [], .lst ((gsI h w p).map .int)]) ?_ ?_
      (fun j σ M' => (∃ x y, σ = [some (.ref a), some (.int p), some (.ref M.length), x, y]) ∧ ∃ kvs, M' = M ++ [.dct kvs, .lst ((gsI h w p).map .int)] ∧ kvs.length ≤ 9 * j ∧ ∀ n, (dval kvs n).isSome = seenIn (grps h w) ss ((gsI h w p).take j) n)
      ⟨⟨_, _, rfl⟩, [], rfl, by simp, fun n => rfl⟩ ?_ ?_ ?_
    · have e := hf h w p (M ++ [.dct []]) hh hw hp
      refine fld2_ok rfl (pre_get (pre_app _ _) ho) f1 f2 rfl (e.trans ?_)
      simp
    · exact ⟨_, rfl, (two_get M [] _ _).2⟩
    · rintro j σ M' hj ⟨_, kvs, rfl, _⟩
      exact ⟨_, rfl, (two_get M [] _ _).2⟩
    · rintro j x σ M' hx ⟨⟨x', y', rfl⟩, kvs, rfl, hk, hv⟩
      obtain ⟨g, hg, rfl, hgj⟩ := mem_of_map hx
      obtain ⟨g0, g1⟩ := gI g hg
      simp only [List.set_cons_zero, List.set_cons_succ]
      obtain ⟨w', e1, hw'⟩ := ll_at (hG.mono (pre kvs ((gsI h w p).map .int))) g0 g1
      obtain ⟨gl9, gin'⟩ := gin _ (getD_mem g0 g1)
      have hW : IntL M w' ((grps h w).getD g.toNat []) := by
        obtain ⟨w2, e2, hw2⟩ := ll_at hG g0 g1
        obtain ⟨ws, hL, hA⟩ := hG
        simp only [oIx, hL.seqOf, (Lst.mono hL (pre kvs ((gsI h w p).map .int))).seqOf] at e1 e2
        cases q : atI ws g with
        | none => rw [q] at e1; cases e1
        | some z => rw [q] at e1 e2; cases e1; cases e2; exact hw2
      refine sat_lst (v := w') (xs := ((grps h w).getD g.toNat []).map .int) (M1 := M ++ [O.dct kvs, O.lst ((gsI h w p).map W.int)]) (op_run (fld_ok rfl (pre_get (pre _ _) ho) f3) rfl e1) hw'
        (fun i σ M' => (∃ y, σ = [some (.ref a), some (.int p), some (.ref M.length), some (.int g), y]) ∧ ∃ kvs, M' = M ++ [.dct kvs, .lst ((gsI h w p).map .int)] ∧ kvs.length ≤ 9 * j + i ∧ ∀ n, (dval kvs n).isSome = (seenIn (grps h w) ss ((gsI h w p).take j) n || (((grps h w).getD g.toNat []).take i).any fun f => decide (nth ss f = n)))
        ⟨⟨_, rfl⟩, kvs, rfl, by omega, fun n => by rw [hv n]; simp⟩ ?_ ?_ ?_
      · rintro i σ M' hi ⟨_, kvs, rfl, _⟩
        exact Lst.mono hW (pre _ _)
      · rintro i x σ M' hx2 ⟨⟨y, rfl⟩, kvs, rfl, hk2, hv2⟩
        obtain ⟨c, hc, rfl, hci⟩ := mem_of_map hx2
        simp only [List.set_cons_zero, List.set_cons_succ]
        obtain ⟨c0, c1⟩ := gin' c hc
        have il : i < ((grps h w).getD g.toNat []).length := (List.getElem?_eq_some_iff.mp hci).1
        have jl : j < 3 := by rw [← gl]; exact (List.getElem?_eq_some_iff.mp hgj).1
        refine sat_dput (M1 := M ++ [.dct kvs, .lst ((gsI h w p).map .int)]) (M2 := M ++ [.dct kvs, .lst ((gsI h w p).map .int)]) (M3 := M ++ [.dct kvs, .lst ((gsI h w p).map .int)]) (a := M.length) (i := nth ss c) (v := .bl true) (kvs := kvs) rfl rfl
          (op_run (fld_ok rfl (pre_get (pre _ _) ho) f4) rfl (ix_ok (Lst.mono hN (pre _ _)) c0 (by rw [hl]; exact c1))) (two_get M [] _ _).1 (by omega) ⟨⟨_, rfl⟩, dput kvs (nth ss c) (.bl true), two_set0 _ _ _ _ _, ?_, fun n => ?_⟩
        · have := dput_len kvs (nth ss c) (.bl true); omega
        · rw [dval_put, any_take_succ _ _ _ hci, ← Bool.or_assoc, ← hv2 n]
          by_cases e : n = nth ss c
          · rw [if_pos e, decide_eq_true e.symm]; simp
          · rw [if_neg e, decide_eq_false (fun z => e z.symm)]; simp
      · rintro σ M' ⟨⟨y, rfl⟩, kvs, rfl, hk2, hv2⟩
        refine ⟨⟨_, _, rfl⟩, kvs, rfl, ?_, fun n => ?_⟩
        · simp only [List.length_map] at hk2; omega
        · rw [hv2 n, List.length_map, List.take_length]
          unfold seenIn
          rw [any_take_succ _ _ _ hgj]
    · rintro σ M' ⟨⟨x, y, rfl⟩, kvs, rfl, hk, hv⟩
      dsimp only
      generalize hK : M ++ [.dct kvs, .lst ((gsI h w p).map .int)] = N
      have pN : M <+: N := by rw [← hK]; exact pre _ _
      have hD : N[M.length]? = some (.dct kvs) := by rw [← hK]; exact (two_get M [] _ _).1
      have r2 : (1 : Int).natAbs < two62 ∧ (((h * w : Nat) : Int) + 1).natAbs < two62 := ⟨rng_ok (by omega) (by omega), rng_ok (by omega) (by omega)⟩
      have n2 : (((h * w : Nat) : Int) + 1 - 1).toNat = h * w := by omega
      have ef : (freeOf (grps h w) ss (h * w) (gsI h w p)).map W.int = ((intsW 1 (h * w)).filter fun x => match x with | .int n => !seenIn (grps h w) ss (gsI h w p) n | _ => false).map id := by
        rw [nums_intsW, List.filter_map, List.map_id]; rfl
      refine sat_ret (v := .ref N.length) (M1 := N ++ [.lst ((freeOf (grps h w) ss (h * w) (gsI h w p)).map .int)]) ?_ ⟨N.length, rfl, pN.trans (pre_app _ _), ?_, get_last _ _⟩
      · have ho' := pre_get pN ho
        have hsz : iRng2 (eC (.int 1)) (eOp oAdd (eOp oMul (eFld cSt fH (eVar 0)) (eFld cSt fW (eVar 0))) (eC (.int 1))) [some (.ref a), some (.int p), some (.ref M.length), x, y] N = .ok (rng 1 (h * w), []) N := by
          have e1 : eOp oAdd (eOp oMul (eFld cSt fH (eVar 0)) (eFld cSt fW (eVar 0))) (eC (.int 1)) [some (.ref a), some (.int p), some (.ref M.length), x, y] N = .ok (.int (((h * w : Nat) : Int) + 1)) N := op_run (size_ok hh.2 rfl ho' f1 f2) rfl rfl
          simp only [iRng2, e1, R.bind, eC]
          rw [if_pos r2, n2]
        unfold eComp
        rw [hsz]
        simp only [R.bind, clr, List.foldl_nil, List.replicate_succ, List.replicate_zero, rng_intsW, List.cons_append, List.nil_append]
        rw [comp_flat (σ := [some (.ref a), some (.int p), some (.ref M.length), x, y, none]) (fun x => match x with | .int n => !seenIn (grps h w) ss (gsI h w p) n | _ => false) id _ _ _ (fun _ => rfl) rfl ?_]
        · simp only [List.nil_append]
          rw [← ef]
          refine newL_ok ?_
          rw [List.length_map]
          refine Nat.le_trans (List.length_filter_le _ _) ?_
          simp [nums]; omega
        · intro z hz
          obtain ⟨k, _, rfl⟩ := List.mem_map.mp hz
          refine ⟨?_, fun _ => rfl⟩
          have hv' := hv (1 + (k : Int))
          rw [List.length_map, List.take_length] at hv'
          show tB (eDIn true (eVar 5) (eVar 2)) [some (.ref a), some (.int p), some (.ref M.length), x, y, some (.int (1 + (k : Int)))] N = _
          simp only [tB, eDIn, eOp, eVar, R.bind, List.getElem?_cons_succ, List.getElem?_cons_zero, dIn_ok true _ hD, hv']
          simp
      · rw [← hK]; simp
  obtain ⟨r, M', e, k, rfl, q⟩ := key
  exact ⟨k, M', e, q⟩
end LV
end
section
set_option linter.all false
set_option autoImplicit false
set_option maxRecDepth 100000
namespace LV
open VM
local macro_rules | `(tactic| walk_at "ev") => `(tactic| simp only [tB, tAnd, tOr, tNot, tTrue, eOp, eVar, eC, eLst, eTup, aNil, aCons, eCall, eAnd, eOr, eNot, eIf, eIsN, eNotN, eMeth, R.bind, oAdd, oSub, gName, gSub, gTup, gEach, iRng1, iRng2, List.length_cons, List.length_nil, List.map_cons, List.map_nil, List.cons_append, List.nil_append, List.append_nil, List.getElem?_cons_zero, List.getElem?_cons_succ, List.set_cons_zero, List.set_cons_succ, if_true, if_false, Bool.false_eq_true, Nat.reduceAdd, Nat.reduceSub, List.replicate_succ, List.replicate_zero, Nat.zero_add, Nat.add_zero, clr, List.foldl_nil, List.foldl_cons, List.append_assoc])
def chkG (h w : Nat) : Bool := (List.range (h * w * (h * w))).all fun p => (List.range (3 * (h * w))).all fun i => ((grps h w).getD i []).any (· == (p : Int)) == (gsOf h w p).contains i
theorem chkG_ok {h w : Nat} (hh : 1 ≤ h ∧ h ≤ 3) (hw : 1 ≤ w ∧ w ≤ 3) : chkG h w = true := by
  rcases h3 hh with rfl | rfl | rfl <;> rcases h3 hw with rfl | rfl | rfl <;> decide +kernel
theorem in_group {h w : Nat} (hh : 1 ≤ h ∧ h ≤ 3) (hw : 1 ≤ w ∧ w ≤ 3) {p i : Nat} (hp : p < h * w * (h * w)) (hi : i < 3 * (h * w)) : (p : Int) ∈ (grps h w).getD i [] ↔ i ∈ gsOf h w p := by
  have h1 := chkG_ok hh hw
  unfold chkG at h1
  have h2 := List.all_eq_true.mp (List.all_eq_true.mp h1 p (List.mem_range.mpr hp)) i (List.mem_range.mpr hi)
  rw [beq_iff_eq] at h2
  constructor
  · intro hm
    have : ((grps h w).getD i []).any (· == (p : Int)) = true := List.any_eq_true.mpr ⟨_, hm, by simp⟩
    rw [h2] at this
    simpa using this
  · intro hm
    have : (gsOf h w p).contains i = true := by simpa using hm
    rw [← h2] at this
    obtain ⟨x, hx, e⟩ := List.any_eq_true.mp this
    have e' : x = (p : Int) := by simpa using e
    rw [← e']; exact hx
theorem bar_seen {h w : Nat} (hh : 1 ≤ h ∧ h ≤ 3) (hw : 1 ≤ w ∧ w ≤ 3) {p : Nat} (hp : p < h * w * (h * w)) {ss : List Int} {n : Int} (h0 : nth ss p ≠ n) : barB (grps h w) ss p n = seenIn (grps h w) ss (gsI h w p) n := by
  rw [Bool.eq_iff_iff]
  unfold barB seenIn barG
  rw [List.any_eq_true, List.any_eq_true]
  constructor
  · rintro ⟨g, hg, e⟩
    rw [Bool.and_eq_true, List.any_eq_true, List.any_eq_true] at e
    obtain ⟨⟨x, hx, ex⟩, q, hq, eq⟩ := e
    have ex' : x = (p : Int) := by simpa using ex
    subst ex'
    obtain ⟨i, hi, rfl⟩ := List.getElem_of_mem hg
    have hi' : i < 3 * (h * w) := by rw [← grps_ln]; exact hi
    have eg : (grps h w).getD i [] = (grps h w)[i] := by simp [List.getD, hi]
    have hin := (in_group hh hw hp hi').mp (by rw [eg]; exact hx)
    refine ⟨(i : Int), List.mem_map.mpr ⟨i, hin, rfl⟩, ?_⟩
    rw [Int.toNat_natCast, eg]
    refine List.any_eq_true.mpr ⟨q, hq, ?_⟩
    simp only [Bool.and_eq_true] at eq
    exact eq.2
  · rintro ⟨gi, hgi, e⟩
    obtain ⟨i, hi, rfl⟩ := List.mem_map.mp hgi
    rw [Int.toNat_natCast] at e
    have hi' := gs_in hh hw hp i hi
    have hl : i < (grps h w).length := by rw [grps_ln]; exact hi'
    have eg : (grps h w).getD i [] = (grps h w)[i] := by simp [List.getD, hl]
    have hin := (in_group hh hw hp hi').mpr hi
    rw [eg] at e hin
    refine ⟨_, List.getElem_mem hl, ?_⟩
    rw [Bool.and_eq_true, List.any_eq_true, List.any_eq_true]
    obtain ⟨q, hq, eq⟩ := List.any_eq_true.mp e
    refine ⟨⟨_, hin, by simp⟩, q, hq, ?_⟩
    rw [Bool.and_eq_true]
    refine ⟨?_, eq⟩
    have : q ≠ (p : Int) := by
      rintro rfl
      exact h0 (of_decide_eq_true eq)
    simp [this]
theorem free_row {h w : Nat} (hh : 1 ≤ h ∧ h ≤ 3) (hw : 1 ≤ w ∧ w ≤ 3) {p : Nat} (hp : p < h * w * (h * w)) {ss : List Int} (h0 : nth ss p = 0) : freeOf (grps h w) ss (h * w) (gsI h w p) = rowOf (grps h w) ss (h * w) p := by
  unfold freeOf rowOf
  refine List.filter_congr fun n hn => ?_
  obtain ⟨k, _, rfl⟩ := List.mem_map.mp hn
  rw [decide_eq_true h0, Bool.true_and, bar_seen hh hw hp (by rw [h0]; omega)]
theorem row_emp {G : List (List Int)} {ss : List Int} {s : Nat} {p : Int} (h : nth ss p ≠ 0) : rowOf G ss s p = [] := by
  unfold rowOf
  rw [List.filter_eq_nil_iff]
  intro n _
  simp [h]
theorem sat_fldS {c f : List Nat} {o e : EM} {σ : St} {M M1 M2 : Mem} {a : Nat} {fs : List (List Nat × W)} {v : W} {q : Post} (he : e σ M = .ok v M1) (ho : o σ M1 = .ok (.ref a) M2) (hi : M2[a]? = some (.ins c fs)) (hl : fs.length < 1000)
    (h : q.nx σ (M2.set a (.ins c (putF f v fs)))) : (sFld c f o e σ M).Sat q := by
  unfold sFld
  rw [he]
  simp only [R.bindS, ho, fldS, insOf_at hi, true_and]
  rw [if_pos hl]
  exact h
def Emp (ss : List Int) (p : Int) : Prop := 0 ≤ p ∧ p < (ss.length : Int) ∧ nth ss p = 0
def CanAt (M : Mem) (n : Nat) (G : List (List Int)) (ss : List Int) (s : Nat) (kvs : List (Int × W)) : Prop :=
  kvs.length ≤ ss.length ∧ (kvs.map (·.1)).Nodup ∧ ∀ p : Int, (dval kvs p = none ∧ ¬ Emp ss p) ∨ ∃ k, dval kvs p = some (.ref k) ∧ Emp ss p ∧ n < k ∧ M[k]? = some (.lst ((rowOf G ss s p).map .int))
def LLx (n : Nat) (M : Mem) (v : W) (G : List (List Int)) : Prop := ∃ ws, (∃ a, v = .ref a ∧ a ≠ n ∧ M[a]? = some (.lst ws)) ∧ All2 (fun w ns => ∃ b, w = .ref b ∧ b ≠ n ∧ M[b]? = some (.lst (ns.map .int))) ws G
theorem LLx.ll {n : Nat} {M : Mem} {v : W} {G : List (List Int)} (h : LLx n M v G) : LL M v G := by
  obtain ⟨ws, ⟨a, e, _, q⟩, r⟩ := h
  exact ⟨ws, ⟨a, e, q⟩, r.imp fun w ns ⟨b, e, _, q⟩ => ⟨b, e, q⟩⟩
theorem LL.llx {n : Nat} {M M' : Mem} {v : W} {G : List (List Int)} (h : LL M v G) (hn : M.length ≤ n) (k : ∀ (b : Nat) (ws : List W), M[b]? = some (.lst ws) → M'[b]? = some (.lst ws)) : LLx n M' v G := by
  have lt : ∀ {b : Nat} {ws : List W}, M[b]? = some (.lst ws) → b ≠ n := fun {b ws} e => by
    have := (List.getElem?_eq_some_iff.mp e).1
    omega
  obtain ⟨ws, ⟨a, e, q⟩, r⟩ := h
  exact ⟨ws, ⟨a, e, lt q, k _ _ q⟩, r.imp fun w ns ⟨b, e, q⟩ => ⟨b, e, lt q, k _ _ q⟩⟩
structure StA (M : Mem) (a n c : Nat) (h w : Nat) (ss : List Int) : Prop where
  ob : ∃ vG, M[a]? = some (.ins cSt (stF h w vG (.ref n) (.ref c))) ∧ LLx n M vG (grps h w)
  nm : M[n]? = some (.lst (ss.map .int))
  cn : ∃ kvs, M[c]? = some (.dct kvs) ∧ CanAt M n (grps h w) ss (h * w) kvs
def InitSpec (f : CM) : Prop := ∀ (h w : Nat) (M0 : Mem) (vs : W) (ss : List Int), 1 ≤ h ∧ h ≤ 3 → 1 ≤ w ∧ w ≤ 3 → IntL M0 vs ss → Sheet (h * w) ss →
  ∃ M' n c, f [.ref M0.length, .int h, .int w, vs] (M0 ++ [.ins cSt []]) = .ok .non M' ∧ M0 <+: M' ∧ StA M' M0.length n c h w ss ∧ M0.length < n ∧ M0.length < c
theorem enumS_get : ∀ (xs : List W) (i j : Nat) (x : Src), (enumS i xs)[j]? = some x → ∃ w, xs[j]? = some w ∧ x = .pair (.int ((i + j : Nat) : Int)) w
  | [], _, _, _, h => by simp [enumS] at h
  | y :: r, i, 0, x, h => by
    simp only [enumS, List.getElem?_cons_zero] at h
    exact ⟨y, rfl, (Option.some.inj h).symm⟩
  | y :: r, i, j + 1, x, h => by
    simp only [enumS, List.getElem?_cons_succ] at h
    obtain ⟨w, h1, h2⟩ := enumS_get r (i + 1) j x h
    exact ⟨w, by simpa using h1, by rw [h2, show i + 1 + j = i + (j + 1) by omega]⟩
theorem enumS_len : ∀ (xs : List W) (i : Nat), (enumS i xs).length = xs.length
  | [], _ => rfl
  | _ :: r, i => by simp [enumS, enumS_len r]
theorem gTup2 {M : Mem} {x y : W} {i j : Nat} {σ : St} : gTup [gName i, gName j] (.ref M.length) σ (M ++ [.tup [x, y]]) = .ok ((σ.set i (some x)).set j (some y)) (M ++ [.tup [x, y]]) := by
  have h : tupOf (M ++ [.tup [x, y]]) (.ref M.length) = some [x, y] := (Tup.new M [x, y]).tupOf
  simp only [gTup, h, List.length_cons, List.length_nil, if_true, gEach, gName, R.bind]
theorem init_ok {fg fr fn : CM} (hg : GroupsSpec fg) (hr : ∀ (h w : Nat), 1 ≤ h ∧ h ≤ 3 → 1 ≤ w ∧ w ≤ 3 → ∀ (M : Mem) (v : W) (ns : List Int), IntL M v ns → Sheet (h * w) ns → fr [.int h, .int w, v] M = .ok .non M)
    (hn : ∀ {h w p : Nat} {M : Mem} {a : Nat} {fs : List (List Nat × W)} {vG vN : W} {ss : List Int}, 1 ≤ h ∧ h ≤ 3 → 1 ≤ w ∧ w ≤ 3 → p < h * w * (h * w) → M[a]? = some (.ins cSt fs) → getF fH fs = some (.int h) → getF fW fs = some (.int w) → getF fG fs = some vG → getF fN fs = some vN → LL M vG (grps h w) → IntL M vN ss → ss.length = h * w * (h * w) →
      ∃ k M', fn [.ref a, .int p] M = .ok (.ref k) M' ∧ M <+: M' ∧ M.length ≤ k ∧ M'[k]? = some (.lst ((freeOf (grps h w) ss (h * w) (gsI h w p)).map .int))) : InitSpec (PB.d_State_init fg fr fn) := by
  intro h w M0 vs ss hh hw hs sh
  have sl := sh.len
  have key : ∃ r M', PB.d_State_init fg fr fn [.ref M0.length, .int h, .int w, vs] (M0 ++ [.ins cSt []]) = .ok r M' ∧ (r = .non ∧ ∃ n c, M0 <+: M' ∧ StA M' M0.length n c h w ss ∧ M0.length < n ∧ M0.length < c) := by
    refine sat_fn rfl ?_
    show (sSeq _ _ [some (.ref M0.length), some (.int h), some (.int w), some vs, none, none] _).Sat _
    refine sat_seq (sat_expr (v := .non) (M1 := M0 ++ [.ins cSt []]) ?_ ?_)
    · simp only [eCall, aCons, aNil, eVar, R.bind, List.getElem?_cons_succ, List.getElem?_cons_zero]
      exact hr h w hh hw _ _ _ (Lst.mono hs (pre_app _ _)) sh
    refine sat_seq (sat_fldS (v := .int h) (a := M0.length) (fs := []) (M1 := M0 ++ [.ins cSt []]) (M2 := M0 ++ [.ins cSt []]) rfl rfl (get_last _ _) (by decide) ?_)
    rw [set_last]
    refine sat_seq (sat_fldS (v := .int w) (a := M0.length) (fs := [(fH, .int h)]) (M1 := M0 ++ [.ins cSt [(fH, .int h)]]) (M2 := M0 ++ [.ins cSt [(fH, .int h)]]) rfl rfl (get_last _ _) (by show 1 < 1000; decide) ?_)
    rw [set_last]
    obtain ⟨vG, M4, e4, ⟨J, rfl⟩, hG⟩ := hg h w (M0 ++ [.ins cSt [(fH, .int h), (fW, .int w)]]) hh hw
    rw [List.append_assoc] at e4 hG
    have e4' : fg [.int h, .int w] (M0 ++ [.ins cSt [(fH, .int h), (fW, .int w)]]) = .ok vG (M0 ++ .ins cSt [(fH, .int h), (fW, .int w)] :: J) := e4
    have hG' : LL (M0 ++ .ins cSt [(fH, .int h), (fW, .int w)] :: J) vG (grps h w) := hG
    refine sat_seq (sat_fldS (v := vG) (a := M0.length) (fs := [(fH, .int h), (fW, .int w)]) (M1 := M0 ++ .ins cSt [(fH, .int h), (fW, .int w)] :: J) (M2 := M0 ++ .ins cSt [(fH, .int h), (fW, .int w)] :: J) ?_ rfl (own_get _ _ _) (by show 2 < 1000; decide) ?_)
    · simp only [eCall, aCons, aNil, eVar, R.bind, List.getElem?_cons_succ, List.getElem?_cons_zero]
      exact e4'
    rw [own_set]
    generalize hN3 : M0 ++ O.ins cSt (putF fG vG [(fH, .int h), (fW, .int w)]) :: J = N3
    have p3 : M0 <+: N3 := by rw [← hN3]; exact own_pre _ _ _
    have l3 : N3.length = M0.length + 1 + J.length := by rw [← hN3]; simp; omega
    refine sat_seq (sat_fldS (v := .ref N3.length) (a := M0.length) (fs := putF fG vG [(fH, .int h), (fW, .int w)]) (M1 := N3 ++ [.lst (ss.map .int)]) (M2 := N3 ++ [.lst (ss.map .int)]) ?_ rfl (pre_get (pre_app _ _) (by rw [← hN3]; exact own_get _ _ _)) (by show 3 < 1000; decide) ?_)
    · simp only [eCall, aCons, aNil, eVar, R.bind, List.getElem?_cons_succ, List.getElem?_cons_zero]
      exact flist_ok (Lst.mono hs p3) (by rw [sl]; obtain ⟨a1, a2⟩ := sz9 hh hw; have := Nat.mul_le_mul a2 a2; omega)
    have e5 : (N3 ++ [O.lst (ss.map .int)]).set M0.length (.ins cSt (putF fN (.ref N3.length) (putF fG vG [(fH, .int h), (fW, .int w)]))) = M0 ++ .ins cSt (putF fN (.ref N3.length) (putF fG vG [(fH, .int h), (fW, .int w)])) :: (J ++ [.lst (ss.map .int)]) := by
      rw [← hN3, own_app, own_set]
    rw [e5]
    refine sat_seq (sat_fldS (v := .ref (N3.length + 1)) (a := M0.length) (fs := putF fN (.ref N3.length) (putF fG vG [(fH, .int h), (fW, .int w)])) (M1 := M0 ++ .ins cSt (putF fN (.ref N3.length) (putF fG vG [(fH, .int h), (fW, .int w)])) :: (J ++ [.lst (ss.map .int), .dct []])) (M2 := M0 ++ .ins cSt (putF fN (.ref N3.length) (putF fG vG [(fH, .int h), (fW, .int w)])) :: (J ++ [.lst (ss.map .int), .dct []])) ?_ rfl (own_get _ _ _) (by show 4 < 1000; decide) ?_)
    · show R.ok (W.ref _) _ = _
      rw [own_app]
      simp [l3]; omega
    rw [own_set]
    have e6 : M0 ++ O.ins cSt (putF fC (.ref (N3.length + 1)) (putF fN (.ref N3.length) (putF fG vG [(fH, .int h), (fW, .int w)]))) :: (J ++ [.lst (ss.map .int), .dct []]) = (M0 ++ O.ins cSt (stF h w vG (.ref N3.length) (.ref (N3.length + 1))) :: J) ++ .lst (ss.map .int) :: .dct [] :: [] := by
      simp [putF]
    rw [e6]
    generalize hN0 : M0 ++ O.ins cSt (stF h w vG (.ref N3.length) (.ref (N3.length + 1))) :: J = N0
    have l0 : N0.length = N3.length := by rw [← hN0, l3]; simp; omega
    rw [← l0] at hN0
    have p0 : M0 <+: N0 := by rw [← hN0]; exact own_pre _ _ _
    have ob0 : N0[M0.length]? = some (.ins cSt (stF h w vG (.ref N0.length) (.ref (N0.length + 1)))) := by
      conv => lhs; rw [← hN0]
      exact own_get _ _ _
    have hGx : ∀ (b : Nat) (ws : List W), (M0 ++ O.ins cSt [(fH, .int h), (fW, .int w)] :: J)[b]? = some (.lst ws) → N0[b]? = some (.lst ws) := fun b ws e => by
      by_cases hb : b = M0.length
      · subst hb; rw [own_get] at e; cases e
      · have e1 : (M0 ++ O.ins cSt [(fH, .int h), (fW, .int w)] :: J).set M0.length (O.ins cSt (stF h w vG (.ref N0.length) (.ref (N0.length + 1)))) = N0 := by rw [own_set]; exact hN0
        rw [← e1, List.getElem?_set_ne (Ne.symm hb)]; exact e
    have lJ : (M0 ++ O.ins cSt [(fH, .int h), (fW, .int w)] :: J).length = N0.length := by rw [l0, l3]; simp; omega
    have ll0 : ∀ K : Mem, LLx N0.length (N0 ++ K) vG (grps h w) := fun K => LL.llx hG' (Nat.le_of_eq lJ) fun b ws e => pre_get (pre_app _ _) (hGx b ws e)
    obtain ⟨b, rfl, hb⟩ := hs
    have hb0 : ∀ K : Mem, (N0 ++ K)[b]? = some (.lst (ss.map .int)) := fun K => pre_get (p0.trans (pre_app _ _)) hb
    refine sat_for (srcs := enumS 0 (ss.map .int)) (c := [(b, .lst (ss.map .int))]) (M1 := N0 ++ .lst (ss.map .int) :: .dct [] :: []) ?_
      (fun j σ M' => (∃ x y, σ = [some (.ref M0.length), some (.int h), some (.int w), some (.ref b), x, y]) ∧ ∃ kvs K, M' = N0 ++ .lst (ss.map .int) :: .dct kvs :: K ∧ kvs.length ≤ j ∧ (kvs.map (·.1)).Nodup ∧
        ∀ p : Int, (dval kvs p = none ∧ ¬ (Emp ss p ∧ p < (j : Int))) ∨ ∃ k, dval kvs p = some (.ref k) ∧ Emp ss p ∧ p < (j : Int) ∧ N0.length < k ∧ (N0 ++ .lst (ss.map .int) :: .dct kvs :: K)[k]? = some (.lst ((rowOf (grps h w) ss (h * w) p).map .int)))
      ⟨⟨_, _, rfl⟩, [], [], rfl, by simp, by simp, fun p => .inl ⟨rfl, fun z => by have := z.1.1; have := z.2; omega⟩⟩ ?_ ?_
    · show (iEnum (eVar 3)) _ _ = _
      simp only [iEnum, eVar, R.bind, List.getElem?_cons_succ, List.getElem?_cons_zero, lstAt, hb0]
    · rintro j x σ M' hx ⟨⟨x', y', rfl⟩, kvs, K, rfl, hk, hnd, hv⟩
      obtain ⟨w', hw', rfl⟩ := enumS_get _ _ _ _ hx
      obtain ⟨v, hvm, rfl, hvj⟩ := mem_of_map hw'
      have hj : j < ss.length := (List.getElem?_eq_some_iff.mp hvj).1
      have nj : nth ss (j : Int) = v := by rw [nth_nat hj]; rw [List.getElem?_eq_getElem hj] at hvj; exact Option.some.inj hvj
      refine ⟨by simp [Chk.ok, hb0], _, _, _, _, pair_get _ _ _, gTup2, ?_⟩
      simp only [List.set_cons_zero, List.set_cons_succ, Nat.zero_add]
      generalize hN : N0 ++ O.lst (ss.map .int) :: .dct kvs :: K = N at hv ⊢
      have pN : N0 <+: N := by rw [← hN]; exact pre_app _ _
      have nN : N[N0.length]? = some (.lst (ss.map .int)) := by rw [← hN]; exact (two_get _ _ _ _).1
      have cN : N[N0.length + 1]? = some (.dct kvs) := by rw [← hN]; exact (two_get _ _ _ _).2
      refine sat_if (c := decide (v = 0)) (M1 := N ++ [.tup [.int (j : Int), .int v]]) ?_ (fun hc => ?_) fun hc => ?_
      · exact tB_run (op_run rfl rfl eq_int)
      · have hv0 : v = 0 := of_decide_eq_true hc
        have obN := pre_get (pN.trans (pre_app N [.tup [.int (j : Int), .int v]])) ob0
        obtain ⟨k, M2, e2, ⟨L, rfl⟩, hk2, hr2⟩ := hn (p := j) hh hw (by rw [← sl]; exact hj) obN rfl rfl rfl rfl (by rw [← hN, List.append_assoc]; exact (ll0 _).ll) ⟨_, rfl, pre_get (pre_app _ _) nN⟩ sl
        rw [free_row hh hw (by rw [← sl]; exact hj) (by rw [nj]; exact hv0)] at hr2
        have cN2 : (N ++ [O.tup [.int (j : Int), .int v]] ++ L)[N0.length + 1]? = some (.dct kvs) := pre_get ((pre_app _ _).trans (pre_app _ _)) cN
        have none_j : dval kvs (j : Int) = none := by
          rcases hv (j : Int) with ⟨e, _⟩ | ⟨_, _, _, z, _⟩
          · exact e
          · omega
        refine sat_dput (i := (j : Int)) (v := .ref k) (a := N0.length + 1) (kvs := kvs) (M1 := N ++ [.tup [.int (j : Int), .int v]] ++ L) (M2 := N ++ [.tup [.int (j : Int), .int v]] ++ L) (M3 := N ++ [.tup [.int (j : Int), .int v]] ++ L) ?_ ?_ rfl cN2 (by have h81 : ss.length ≤ 81 := (by rw [sl]; obtain ⟨a1, a2⟩ := sz9 hh hw; exact Nat.mul_le_mul a2 a2); omega) ?_
        · simp only [eMethO, eVar, R.bind, List.getElem?_cons_succ, List.getElem?_cons_zero, isIns, insOf_at obN, aCons, aNil]
          exact e2
        · exact fld_ok rfl (pre_get (pre_app _ _) obN) rfl
        · refine ⟨⟨_, _, rfl⟩, dput kvs (j : Int) (.ref k), K ++ [.tup [.int (j : Int), .int v]] ++ L, ?_, ?_, dput_nodup _ hnd, fun p => ?_⟩
          · rw [← hN]
            simp only [List.append_assoc, List.cons_append, List.nil_append]
            exact two_set1 _ _ _ _ _
          · have := dput_len kvs (j : Int) (.ref k); omega
          · have hE : N0 ++ O.lst (ss.map .int) :: .dct (dput kvs (j : Int) (.ref k)) :: (K ++ [.tup [.int (j : Int), .int v]] ++ L) = (N ++ [O.tup [.int (j : Int), .int v]] ++ L).set (N0.length + 1) (.dct (dput kvs (j : Int) (.ref k))) := by
              rw [← hN]
              simp only [List.append_assoc, List.cons_append, List.nil_append]
              exact (two_set1 _ _ _ _ _).symm
            have far : ∀ (k' : Nat) (l : List W), (N ++ [O.tup [.int (j : Int), .int v]] ++ L)[k']? = some (.lst l) → ((N ++ [O.tup [.int (j : Int), .int v]] ++ L).set (N0.length + 1) (.dct (dput kvs (j : Int) (.ref k))))[k']? = some (.lst l) := fun k' l e => by
              have : k' ≠ N0.length + 1 := by rintro rfl; rw [cN2] at e; cases e
              rw [List.getElem?_set_ne (Ne.symm this)]; exact e
            rw [dval_put, hE]
            by_cases ep : p = (j : Int)
            · subst ep
              rw [if_pos rfl]
              refine .inr ⟨k, rfl, ⟨Int.natCast_nonneg _, by omega, by rw [nj]; exact hv0⟩, by omega, ?_, far _ _ hr2⟩
              have : N.length = N0.length + 2 + K.length := by rw [← hN]; simp; omega
              simp at hk2; omega
            · rw [if_neg ep]
              rcases hv p with ⟨e, z⟩ | ⟨k', e, z1, z2, z3, z4⟩
              · exact .inl ⟨e, fun z' => z ⟨z'.1, by have := z'.2; omega⟩⟩
              · exact .inr ⟨k', e, z1, by omega, z3, far _ _ (pre_get ((pre_app _ _).trans (pre_app _ _)) z4)⟩
      · have hv0 : v ≠ 0 := of_decide_eq_false hc
        refine ⟨⟨_, _, rfl⟩, kvs, K ++ [.tup [.int (j : Int), .int v]], ?_, by omega, hnd, fun p => ?_⟩
        · rw [← hN]; simp
        · have hE : N0 ++ O.lst (ss.map .int) :: .dct kvs :: (K ++ [.tup [.int (j : Int), .int v]]) = N ++ [.tup [.int (j : Int), .int v]] := by rw [← hN]; simp
          rw [hE]
          rcases hv p with ⟨e, z⟩ | ⟨k', e, z1, z2, z3, z4⟩
          · refine .inl ⟨e, fun z' => ?_⟩
            by_cases ep : p = (j : Int)
            · subst ep; exact hv0 (by rw [← nj]; exact z'.1.2.2)
            · exact z ⟨z'.1, by have := z'.2; omega⟩
          · exact .inr ⟨k', e, z1, by omega, z3, pre_get (pre_app _ _) z4⟩
    · rintro σ M' ⟨⟨x, y, rfl⟩, kvs, K, rfl, hk, hnd, hv⟩
      refine ⟨by simp [Chk.ok, hb0], rfl, N0.length, N0.length + 1, p0.trans (pre_app _ _), ⟨⟨vG, pre_get (pre_app _ _) ob0, ll0 _⟩, (two_get _ _ _ _).1, kvs, (two_get _ _ _ _).2, ?_, hnd, fun p => ?_⟩, ?_, ?_⟩
      · rw [enumS_len, List.length_map] at hk; exact hk
      · rcases hv p with ⟨e, z⟩ | ⟨k', e, z1, z2, z3, z4⟩
        · refine .inl ⟨e, fun z' => z ⟨z', ?_⟩⟩
          rw [enumS_len, List.length_map]; exact z'.2.1
        · exact .inr ⟨k', e, z1, z3, z4⟩
      · rw [← hN0]; simp
      · rw [← hN0]; simp; omega
  obtain ⟨r, M', e, rfl, n, c, q⟩ := key
  exact ⟨M', n, c, e, q⟩
end LV
end
section
set_option linter.all false
set_option autoImplicit false
set_option maxRecDepth 100000
namespace LV
open VM
local macro_rules | `(tactic| walk_at "ev") => `(tactic| simp only [tB, tAnd, tOr, tNot, tTrue, eOp, eVar, eC, eLst, eTup, aNil, aCons, eCall, eAnd, eOr, eNot, eIf, eIsN, eNotN, eMeth, R.bind, oAdd, oSub, gName, gSub, gTup, gEach, iRng1, iRng2, List.length_cons, List.length_nil, List.map_cons, List.map_nil, List.cons_append, List.nil_append, List.append_nil, List.getElem?_cons_zero, List.getElem?_cons_succ, List.set_cons_zero, List.set_cons_succ, if_true, if_false, Bool.false_eq_true, Nat.reduceAdd, Nat.reduceSub, List.replicate_succ, List.replicate_zero, Nat.zero_add, Nat.add_zero, clr, List.foldl_nil, List.foldl_cons, List.append_assoc])
theorem pre_set {M M' : Mem} (h : M <+: M') {a : Nat} (ha : M.length ≤ a) (o : O) : M <+: M'.set a o := by
  obtain ⟨J, rfl⟩ := h
  rw [List.set_append_right _ _ ha]
  exact pre_app _ _
structure HomeInv (M : Mem) (M' : Mem) (kvs : List (Int × W)) (F : Int → List Int) : Prop where
  pre : M <+: M'
  at_ : M'[M.length]? = some (.dct kvs)
  nd : (kvs.map (·.1)).Nodup
  val : ∀ m, (dval kvs m = none ∧ F m = []) ∨ ∃ k, dval kvs m = some (.ref k) ∧ F m ≠ [] ∧ M.length < k ∧ M'[k]? = some (.lst ((F m).map .int))
  inj : ∀ m m' k, dval kvs m = some (.ref k) → dval kvs m' = some (.ref k) → m = m'
def addF (F : Int → List Int) (n f : Int) : Int → List Int := fun m => if m = n then F m ++ [f] else F m
theorem home_step {M M' : Mem} {kvs : List (Int × W)} {F : Int → List Int} (I : HomeInv M M' kvs F) {σ : St} {n f : Int} (h2 : σ[2]? = some (some (.ref M.length))) (h4 : σ[4]? = some (some (.int n))) (h3 : σ[3]? = some (some (.int f)))
    (hl : kvs.length < 1000) (hF : (F n).length < 1000) : ∃ M'' kvs', eMeth mAppend (eD2 dSetD (eVar 2) (eVar 4) (eLst (aNil))) (aCons (eVar 3) aNil) σ M' = .ok .non M'' ∧ HomeInv M M'' kvs' (addF F n f) ∧ kvs'.length ≤ kvs.length + 1 := by
  have hlt : M.length < M'.length := (List.getElem?_eq_some_iff.mp I.at_).1
  have hn : newL [] M' = .ok (.ref M'.length) (M' ++ [.lst []]) := newL_ok (by decide)
  have at1 : (M' ++ [O.lst []])[M.length]? = some (.dct kvs) := pre_get (pre_app _ _) I.at_
  have ev : eD2 dSetD (eVar 2) (eVar 4) (eLst (aNil)) σ M' = dSetD (.ref M.length) (.int n) (.ref M'.length) (M' ++ [.lst []]) := by
    simp only [eD2, eVar, h2, h4, R.bind, isDct_at I.at_, if_true, eLst, aNil, hn]
  rcases I.val n with ⟨e, hz⟩ | ⟨k, e, hz, hk, hL⟩
  · have ev2 : dSetD (.ref M.length) (.int n) (.ref M'.length) (M' ++ [.lst []]) = .ok (.ref M'.length) ((M' ++ [O.lst []]).set M.length (O.dct (kvs ++ [(n, W.ref M'.length)]))) := by
      simp only [dSetD, dctOf_at at1, e]
      rw [if_pos (by show _ < 16777216; omega), dput_new _ e]
    generalize hN : (M' ++ [O.lst []]).set M.length (O.dct (kvs ++ [(n, W.ref M'.length)])) = N at ev2
    have gN : N[M'.length]? = some (.lst []) := by rw [← hN, List.getElem?_set_ne (by omega)]; exact get_last _ _
    have dN : N[M.length]? = some (.dct (kvs ++ [(n, W.ref M'.length)])) := by rw [← hN, List.getElem?_set_self (by simp; omega)]
    have oth : ∀ (b : Nat) (o : O), b ≠ M.length → M'[b]? = some o → N[b]? = some o := fun b o hb q => by rw [← hN, List.getElem?_set_ne (Ne.symm hb)]; exact pre_get (pre_app _ _) q
    have pN : M <+: N := by rw [← hN]; exact pre_set (I.pre.trans (pre_app _ _)) (Nat.le_refl _) _
    refine ⟨N.set M'.length (.lst [.int f]), kvs ++ [(n, W.ref M'.length)], ?_, ⟨pre_set pN (by omega) _, ?_, nodup_snoc _ e I.nd, fun m => ?_, fun m m' k q1 q2 => ?_⟩, by simp⟩
    · simp only [eMeth, ev, ev2, R.bind, lstOf_at gN, aCons, aNil, eVar, h3]
      exact append_ok gN (by decide)
    · rw [List.getElem?_set_ne (by omega)]; exact dN
    · rw [dval_snoc _ _ _ _ e]
      by_cases em : m = n
      · subst em
        refine .inr ⟨M'.length, if_pos rfl, ?_, hlt, ?_⟩
        · unfold addF; rw [if_pos rfl]; simp
        · rw [List.getElem?_set_self (List.getElem?_eq_some_iff.mp gN).1]
          unfold addF; rw [if_pos rfl, hz]; rfl
      · rw [if_neg em]
        unfold addF
        rw [if_neg em]
        rcases I.val m with ⟨e2, z2⟩ | ⟨k, e2, z2, k2, L2⟩
        · exact .inl ⟨e2, z2⟩
        · refine .inr ⟨k, e2, z2, k2, ?_⟩
          have : k < M'.length := (List.getElem?_eq_some_iff.mp L2).1
          rw [List.getElem?_set_ne (by omega)]
          exact oth _ _ (by omega) L2
    · rw [dval_snoc _ _ _ _ e] at q1 q2
      have far : ∀ m, dval kvs m ≠ some (.ref M'.length) := fun m q => by
        rcases I.val m with ⟨e2, _⟩ | ⟨k, e2, _, _, L2⟩
        · rw [e2] at q; cases q
        · rw [e2] at q; cases q
          have : M'.length < M'.length := (List.getElem?_eq_some_iff.mp L2).1
          omega
      by_cases e1 : m = n
      · by_cases e2 : m' = n
        · rw [e1, e2]
        · rw [if_pos e1] at q1; rw [if_neg e2] at q2; cases q1; exact (far m' q2).elim
      · by_cases e2 : m' = n
        · rw [if_neg e1] at q1; rw [if_pos e2] at q2; cases q2; exact (far m q1).elim
        · rw [if_neg e1] at q1; rw [if_neg e2] at q2; exact I.inj m m' k q1 q2
  · have ev2 : dSetD (.ref M.length) (.int n) (.ref M'.length) (M' ++ [.lst []]) = .ok (.ref k) (M' ++ [.lst []]) := by
      simp only [dSetD, dctOf_at at1, e]
    have gN : (M' ++ [O.lst []])[k]? = some (.lst ((F n).map .int)) := pre_get (pre_app _ _) hL
    have hkl : k < M'.length := (List.getElem?_eq_some_iff.mp hL).1
    refine ⟨(M' ++ [O.lst []]).set k (O.lst ((F n).map W.int ++ [W.int f])), kvs, ?_, ⟨pre_set (I.pre.trans (pre_app _ _)) (by omega) _, ?_, I.nd, fun m => ?_, I.inj⟩, by omega⟩
    · simp only [eMeth, ev, ev2, R.bind, lstOf_at gN, aCons, aNil, eVar, h3]
      exact append_ok gN (by rw [List.length_map]; omega)
    · rw [List.getElem?_set_ne (by omega)]; exact at1
    · by_cases em : m = n
      · subst em
        refine .inr ⟨k, e, ?_, hk, ?_⟩
        · unfold addF; rw [if_pos rfl]; simp
        · rw [List.getElem?_set_self (by simp; omega)]
          unfold addF; rw [if_pos rfl, List.map_append]; rfl
      · unfold addF
        rw [if_neg em]
        rcases I.val m with ⟨e2, z2⟩ | ⟨k2, e2, z2, q2, L2⟩
        · exact .inl ⟨e2, z2⟩
        · refine .inr ⟨k2, e2, z2, q2, ?_⟩
          have : k2 ≠ k := by rintro rfl; exact em (I.inj m n k2 e2 e)
          rw [List.getElem?_set_ne (Ne.symm this)]
          exact pre_get (pre_app _ _) L2
theorem rowOf_nodup (G : List (List Int)) (ss : List Int) (s : Nat) (p : Int) : (rowOf G ss s p).Nodup := by
  have h : (nums s).Nodup := by
    unfold nums
    rw [List.nodup_iff_pairwise_ne, List.pairwise_map]
    refine List.Pairwise.imp ?_ (List.nodup_iff_pairwise_ne.mp List.nodup_range)
    intro a b h e
    have e : (a : Int) + 1 = (b : Int) + 1 := e
    omega
  exact List.Nodup.sublist List.filter_sublist h
theorem filter_one (l : List Int) (hn : l.Nodup) (m f : Int) : (l.filter (· == m)).map (fun _ => f) = if l.any (· == m) then [f] else [] := by
  induction l with
  | nil => rfl
  | cons x r ih =>
    rw [List.nodup_cons] at hn
    have ih := ih hn.2
    rw [List.filter_cons, List.any_cons]
    by_cases e : x = m
    · subst e
      have : r.any (· == x) = false := by
        rw [Bool.eq_false_iff]
        intro h
        obtain ⟨y, hy, ey⟩ := List.any_eq_true.mp h
        have : y = x := by simpa using ey
        exact hn.1 (this ▸ hy)
      rw [this] at ih
      simp only [beq_self_eq_true, if_true, List.map_cons, ih, Bool.true_or]
      rfl
    · have : (x == m) = false := by simpa using e
      simp only [this, Bool.false_eq_true, if_false, Bool.false_or, ih]
theorem tab_at {G : List (List Int)} {ss : List Int} {s : Nat} {p : Int} (h0 : 0 ≤ p) (h1 : p < (ss.length : Int)) : (tabOf G ss s).getD p.toNat [] = rowOf G ss s p := by
  have hp : p.toNat < ss.length := by omega
  unfold tabOf
  simp [List.getD, hp, Int.toNat_of_nonneg h0]
theorem sat_nil {e : EM} {k : Nat} {body : SM} {σ : St} {M M1 : Mem} {v : W} {q : Post} (he : e σ M = .ok v M1) (hv : Lst M1 v []) (h : q.nx σ M1) : (sFor (iSeq e) (gName k) body σ M).Sat q :=
  sat_lst he hv (fun j σ' M' => σ' = σ ∧ M' = M1) ⟨rfl, rfl⟩ (fun j σ' M' _ ⟨_, e⟩ => e ▸ hv) (fun j x σ' M' hx _ => by simp at hx) fun σ' M' ⟨e1, e2⟩ => by rw [e1, e2]; exact h
theorem filter_take_succ {α : Type} (l : List α) (p : α → Bool) (j : Nat) {x : α} (h : l[j]? = some x) : (l.take (j + 1)).filter p = (l.take j).filter p ++ if p x then [x] else [] := by
  rw [List.take_succ, h, List.filter_append]
  cases e : p x <;> simp [e]
def HomesSpec (f : CM) : Prop := ∀ (M : Mem) (a n c h w : Nat) (ss : List Int) (g : Int), 1 ≤ h ∧ h ≤ 3 → 1 ≤ w ∧ w ≤ 3 → StA M a n c h w ss → Sheet (h * w) ss → 0 ≤ g → g < ((grps h w).length : Int) →
  ∃ M' kvs, f [.ref a, .int g] M = .ok (.ref M.length) M' ∧ HomeInv M M' kvs (fun m => spotsOf (grps h w) (tabOf (grps h w) ss (h * w)) g m) ∧ kvs.length ≤ 81
theorem homes_ok : HomesSpec PB.d_homes_in := by
  intro M a n c h w ss g hh hw S sh g0 g1
  have sl := sh.len
  obtain ⟨s1, s9⟩ := sz9 hh hw
  obtain ⟨⟨vG, ob, hGx⟩, hN, kc, hc, hC1, hC2, hC3⟩ := S
  have hG := hGx.ll
  obtain ⟨gl9, gin⟩ := grp_in hh hw _ (getD_mem g0 g1)
  have key : ∃ r M', PB.d_homes_in [.ref a, .int g] M = .ok r M' ∧ (r = .ref M.length ∧ ∃ kvs, HomeInv M M' kvs (fun m => spotsOf (grps h w) (tabOf (grps h w) ss (h * w)) g m) ∧ kvs.length ≤ 81) := by
    refine sat_fn rfl ?_
    show (sSeq _ _ [some (.ref a), some (.int g), none, none, none] M).Sat _
    refine sat_seq (sat_set (v := .ref M.length) (M1 := M ++ [.dct []]) rfl ?_)
    simp only [List.set_cons_zero, List.set_cons_succ]
    refine sat_seq ?_
    obtain ⟨wg, ew, hwg⟩ := ll_at (hG.mono (pre_app M [.dct []])) g0 g1
    have hwM : IntL M wg ((grps h w).getD g.toNat []) := by
      obtain ⟨w2, e2, hw2⟩ := ll_at hG g0 g1
      obtain ⟨ws, hL, hA⟩ := hG
      simp only [oIx, hL.seqOf, (Lst.mono hL (pre_app M [.dct []])).seqOf] at ew e2
      cases q : atI ws g with
      | none => rw [q] at ew; cases ew
      | some z => rw [q] at ew e2; cases ew; cases e2; exact hw2
    generalize hgr : (grps h w).getD g.toNat [] = gr at *
    refine sat_lst (v := wg) (xs := gr.map .int) (M1 := M ++ [O.dct []]) (op_run (fld_ok rfl (pre_get (pre_app _ _) ob) rfl) rfl ew) hwg
      (fun j σ M' => (∃ x y, σ = [some (.ref a), some (.int g), some (.ref M.length), x, y]) ∧ ∃ kvs, HomeInv M M' kvs (fun m => (gr.take j).filter fun p => (rowOf (grps h w) ss (h * w) p).any (· == m)) ∧ kvs.length ≤ 9 * j)
      ⟨⟨_, _, rfl⟩, [], ⟨pre_app _ _, get_last _ _, by simp, fun m => .inl ⟨rfl, rfl⟩, fun m m' k q => by cases q⟩, by simp⟩ ?_ ?_ ?_
    · rintro j σ M' hj ⟨_, kvs, I, _⟩
      exact Lst.mono hwM I.pre
    · rintro j x σ M' hx ⟨⟨x', y', rfl⟩, kvs, I, hk⟩
      obtain ⟨f, hf, rfl, hfj⟩ := mem_of_map hx
      obtain ⟨f0, f1⟩ := gin f hf
      have jl : j < gr.length := (List.getElem?_eq_some_iff.mp hfj).1
      simp only [List.set_cons_zero, List.set_cons_succ]
      have f1' : f < (ss.length : Int) := by rw [sl]; exact f1
      have obM := pre_get I.pre ob
      have hcM := pre_get I.pre hc
      have hnew : newL [] M' = .ok (.ref M'.length) (M' ++ [.lst []]) := newL_ok (by decide)
      have hcN := pre_get (pre_app M' [.lst []]) hcM
      have ev : eD2 dGetD (eFld cSt fC (eVar 0)) (eVar 3) (eLst (aNil)) [some (.ref a), some (.int g), some (.ref M.length), some (.int f), y'] M' = .ok ((dval kc f).getD (.ref M'.length)) (M' ++ [.lst []]) := by
        have e1 : eFld cSt fC (eVar 0) [some (.ref a), some (.int g), some (.ref M.length), some (.int f), y'] M' = .ok (.ref c) M' := fld_ok rfl obM rfl
        simp only [eD2, e1, R.bind, isDct_at hcM, if_true, eVar, List.getElem?_cons_succ, List.getElem?_cons_zero, eLst, aNil, hnew, dGetD, dctOf_at hcN]
      have In : HomeInv M (M' ++ [.lst []]) kvs (fun m => (gr.take j).filter fun p => (rowOf (grps h w) ss (h * w) p).any (· == m)) :=
        ⟨I.pre.trans (pre_app _ _), pre_get (pre_app _ _) I.at_, I.nd, fun m => by
          rcases I.val m with z | ⟨k, q1, q2, q3, q4⟩
          · exact .inl z
          · exact .inr ⟨k, q1, q2, q3, pre_get (pre_app _ _) q4⟩, I.inj⟩
      rcases hC3 f with ⟨e, hE⟩ | ⟨k, e, hE, hk2, hL⟩
      · rw [e] at ev
        refine sat_nil ev ⟨_, rfl, get_last _ _⟩ ⟨⟨_, _, rfl⟩, kvs, ?_, by omega⟩
        have hz : nth ss f ≠ 0 := fun z => hE ⟨f0, f1', z⟩
        have : (fun m => (gr.take (j + 1)).filter fun p => (rowOf (grps h w) ss (h * w) p).any (· == m)) = fun m => (gr.take j).filter fun p => (rowOf (grps h w) ss (h * w) p).any (· == m) := by
          funext m
          rw [filter_take_succ _ _ _ hfj, row_emp hz]
          simp
        rw [this]; exact In
      · rw [e] at ev
        refine sat_lst ev ⟨k, rfl, pre_get In.pre hL⟩
          (fun i σ M'' => (∃ y, σ = [some (.ref a), some (.int g), some (.ref M.length), some (.int f), y]) ∧ ∃ kvs, HomeInv M M'' kvs (fun m => ((gr.take j).filter fun p => (rowOf (grps h w) ss (h * w) p).any (· == m)) ++ (((rowOf (grps h w) ss (h * w) f).take i).filter (· == m)).map (fun _ => f)) ∧ kvs.length ≤ 9 * j + i)
          ⟨⟨_, rfl⟩, kvs, by simpa using In, by omega⟩ ?_ ?_ ?_
        · rintro i σ M'' hi ⟨_, kvs, I2, _⟩
          exact ⟨k, rfl, pre_get I2.pre hL⟩
        · rintro i x σ M'' hx2 ⟨⟨y, rfl⟩, kvs, I2, hk3⟩
          obtain ⟨m0, hm0, rfl, hmi⟩ := mem_of_map hx2
          simp only [List.set_cons_zero, List.set_cons_succ]
          have il : i < (rowOf (grps h w) ss (h * w) f).length := (List.getElem?_eq_some_iff.mp hmi).1
          have rl := rowOf_len (grps h w) ss (h * w) f
          have fl : (((gr.take j).filter fun p => (rowOf (grps h w) ss (h * w) p).any (· == m0)) ++ (((rowOf (grps h w) ss (h * w) f).take i).filter (· == m0)).map (fun _ => f)).length < 1000 := by
            rw [List.length_append, List.length_map]
            have a1 := List.length_filter_le (fun p => (rowOf (grps h w) ss (h * w) p).any (· == m0)) (gr.take j)
            have a2 := List.length_filter_le (· == m0) ((rowOf (grps h w) ss (h * w) f).take i)
            rw [List.length_take] at a1 a2
            omega
          obtain ⟨M3, kvs3, e3, I3, l3⟩ := home_step I2 (σ := [some (.ref a), some (.int g), some (.ref M.length), some (.int f), some (.int m0)]) (n := m0) (f := f) rfl rfl rfl (by omega) fl
          refine sat_expr e3 ⟨⟨_, rfl⟩, kvs3, ?_, by omega⟩
          have : addF (fun m => ((gr.take j).filter fun p => (rowOf (grps h w) ss (h * w) p).any (· == m)) ++ (((rowOf (grps h w) ss (h * w) f).take i).filter (· == m)).map (fun _ => f)) m0 f = fun m => ((gr.take j).filter fun p => (rowOf (grps h w) ss (h * w) p).any (· == m)) ++ (((rowOf (grps h w) ss (h * w) f).take (i + 1)).filter (· == m)).map (fun _ => f) := by
            funext m
            unfold addF
            rw [filter_take_succ _ _ _ hmi]
            by_cases em : m = m0
            · subst em; simp
            · rw [if_neg em]
              have : (m0 == m) = false := by simpa using fun z : m0 = m => em z.symm
              simp [this]
          rw [← this]; exact I3
        · rintro σ M'' ⟨⟨y, rfl⟩, kvs, I2, hk3⟩
          have rl := rowOf_len (grps h w) ss (h * w) f
          rw [List.length_map] at hk3
          refine ⟨⟨_, _, rfl⟩, kvs, ?_, by omega⟩
          have : (fun m => ((gr.take j).filter fun p => (rowOf (grps h w) ss (h * w) p).any (· == m)) ++ (((rowOf (grps h w) ss (h * w) f).take ((rowOf (grps h w) ss (h * w) f).map W.int).length).filter (· == m)).map (fun _ => f)) = fun m => (gr.take (j + 1)).filter fun p => (rowOf (grps h w) ss (h * w) p).any (· == m) := by
            funext m
            rw [filter_take_succ _ _ _ hfj, List.length_map, List.take_length, filter_one _ (rowOf_nodup _ _ _ _)]
          rw [← this]; exact I2
    · rintro σ M' ⟨⟨x, y, rfl⟩, kvs, I, hk⟩
      dsimp only
      refine sat_ret (v := .ref M.length) (M1 := M') rfl ⟨rfl, kvs, ?_, by rw [List.length_map] at hk; omega⟩
      have : (fun m => (gr.take (gr.map W.int).length).filter fun p => (rowOf (grps h w) ss (h * w) p).any (· == m)) = fun m => spotsOf (grps h w) (tabOf (grps h w) ss (h * w)) g m := by
        funext m
        rw [List.length_map, List.take_length]
        unfold spotsOf
        rw [hgr]
        refine List.filter_congr fun p hp => ?_
        obtain ⟨p0, p1⟩ := gin p hp
        rw [tab_at p0 (by rw [sl]; exact p1)]
      rw [← this]; exact I
  obtain ⟨r, M', e, rfl, kvs, q⟩ := key
  exact ⟨M', kvs, e, q⟩
end LV
end
section
set_option linter.all false
set_option autoImplicit false
set_option maxRecDepth 100000
namespace LV
open VM
local macro_rules | `(tactic| walk_at "ev") => `(tactic| simp only [tB, tAnd, tOr, tNot, tTrue, eOp, eVar, eC, eLst, eTup, aNil, aCons, eCall, eAnd, eOr, eNot, eIf, eIsN, eNotN, eMeth, R.bind, oAdd, oSub, gName, gSub, gTup, gEach, iRng1, iRng2, List.length_cons, List.length_nil, List.map_cons, List.map_nil, List.cons_append, List.nil_append, List.append_nil, List.getElem?_cons_zero, List.getElem?_cons_succ, List.set_cons_zero, List.set_cons_succ, if_true, if_false, Bool.false_eq_true, Nat.reduceAdd, Nat.reduceSub, List.replicate_succ, List.replicate_zero, Nat.zero_add, Nat.add_zero, clr, List.foldl_nil, List.foldl_cons, List.append_assoc])
theorem eq_nonL {M : Mem} {a : Nat} {ws : List W} (h : M[a]? = some (.lst ws)) : oEq .non (.ref a) M = .ok (.bl false) M := by
  have e1 : eqO M .non (.ref a) = none := by
    unfold eqO
    simp only [scal, Bool.false_eq_true, if_false, lstOf, tupOf]
  have e2 : nonL M .non (.ref a) = true := by simp only [nonL, isNon, lstOf_at h, Option.isSome_some, Bool.and_self]
  simp only [oEq, e1, e2, if_true]
theorem isgrp_ok {M : Mem} {a n c h w : Nat} {ss : List Int} (S : StA M a n c h w ss) (g : Int) : PB.d_is_group [.ref a, .int g] M = .ok (.bl (decide (0 ≤ g) && decide (g < ((grps h w).length : Int)))) M := by
  obtain ⟨⟨vG, ob, hGx⟩, _, _⟩ := S
  have e1 : eCall fLen (aCons (eFld cSt fG (eVar 0)) aNil) [some (.ref a), some (.int g)] M = .ok (.int (grps h w).length) M := by
    have e0 : eFld cSt fG (eVar 0) [some (.ref a), some (.int g)] M = .ok vG M := fld_ok rfl ob rfl
    simp only [eCall, aCons, aNil, e0, R.bind, ll_len hGx.ll]
  have key : ∃ r M', PB.d_is_group [.ref a, .int g] M = .ok r M' ∧ (r = .bl (decide (0 ≤ g) && decide (g < ((grps h w).length : Int))) ∧ M' = M) := by
    refine sat_fn rfl (sat_ret (M1 := M) (v := .bl (decide (0 ≤ g) && decide (g < ((grps h w).length : Int)))) ?_ ⟨rfl, rfl⟩)
    show eChain oLe oLt (eC (.int 0)) (eVar 1) (eCall fLen (aCons (eFld cSt fG (eVar 0)) aNil)) [some (.ref a), some (.int g)] M = _
    simp only [eChain, eC, eVar, R.bind, List.getElem?_cons_succ, List.getElem?_cons_zero, le_int]
    cases decide (0 ≤ g) with
    | true => simp only [if_true, e1, lt_int, Bool.true_and]
    | false => simp only [Bool.false_eq_true, if_false, Bool.false_and]
  obtain ⟨r, M', e, rfl, rfl⟩ := key
  exact e
theorem place_emp {ss : List Int} {p : Int} : placeB ss p = true ↔ Emp ss p := by
  unfold placeB Emp
  simp only [Bool.not_eq_true', Bool.or_eq_false_iff, decide_eq_false_iff_not, Bool.not_eq_false', decide_eq_true_eq]
  omega
theorem mem_row {G : List (List Int)} {ss : List Int} {s : Nat} {p m : Int} (h : m ∈ rowOf G ss s p) : nth ss p = 0 ∧ 1 ≤ m ∧ m ≤ (s : Int) ∧ barB G ss p m = false := by
  unfold rowOf at h
  obtain ⟨h1, h2⟩ := List.mem_filter.mp h
  obtain ⟨k, hk, rfl⟩ := List.mem_map.mp h1
  have := List.mem_range.mp hk
  simp only [Bool.and_eq_true, decide_eq_true_eq, Bool.not_eq_true'] at h2
  exact ⟨h2.1, by omega, by omega, h2.2⟩
theorem lacks_of {G : List (List Int)} {ss : List Int} {s : Nat} {g p m : Int} (g0 : 0 ≤ g) (g1 : g < (G.length : Int)) (hp : p ∈ G.getD g.toNat []) (hm : m ∈ rowOf G ss s p) : lacksB G ss g m s = true := by
  obtain ⟨z, m1, m2, hb⟩ := mem_row hm
  have hg := getD_mem g0 g1
  have key : (G.getD g.toNat []).any (fun q => decide (nth ss q = m)) = false := by
    rw [Bool.eq_false_iff]
    intro h
    obtain ⟨q, hq, e⟩ := List.any_eq_true.mp h
    have e' : nth ss q = m := of_decide_eq_true e
    by_cases hqp : q = p
    · subst hqp; omega
    · have : barB G ss p m = true := by
        unfold barB barG
        refine List.any_eq_true.mpr ⟨_, hg, ?_⟩
        rw [Bool.and_eq_true, List.any_eq_true, List.any_eq_true]
        exact ⟨⟨p, hp, by simp⟩, q, hq, by simp [hqp, e']⟩
      rw [hb] at this; cases this
  unfold lacksB
  have hn : ((G.getD g.toNat []).map (nth ss)).any (· == m) = false := by
    rw [List.any_map, ← key]
    congr 1
  simp only [hn]
  simp only [Bool.and_eq_true, Bool.not_eq_true', Bool.or_eq_false_iff, decide_eq_false_iff_not, Bool.not_false, and_true]
  omega
def StepSpec (f : CM) : Prop := ∀ (M : Mem) (a n c h w : Nat) (ss : List Int) (vst : W) (st : Stp), 1 ≤ h ∧ h ≤ 3 → 1 ≤ w ∧ w ≤ 3 → StA M a n c h w ss → Sheet (h * w) ss → IsStp M vst st →
  ∃ M', f [.ref a, vst] M = .ok (.bl (rightB (grps h w) ss (tabOf (grps h w) ss (h * w)) (h * w) st)) M' ∧ M <+: M'
theorem step_ok {fh : CM} (hH : HomesSpec fh) : StepSpec (PB.d_step_follows PB.d_is_group fh) := by
  intro M a n c h w ss vst st hh hw S sh hst
  have key : ∃ r M', PB.d_step_follows PB.d_is_group fh [.ref a, vst] M = .ok r M' ∧ (r = .bl (rightB (grps h w) ss (tabOf (grps h w) ss (h * w)) (h * w) st) ∧ M <+: M') := by
    refine sat_fn rfl ?_
    show (sSeq _ _ [some (.ref a), some vst] M).Sat _
    have S0 := S
    obtain ⟨⟨vG, ob, hGx⟩, hN, kc, hc, hC1, hC2, hC3⟩ := S0
    cases st with
    | fld p m =>
      have i0 : eOp oIx (eVar 1) (eC (.int 0)) [some (.ref a), some vst] M = .ok sField M := op_run rfl rfl (tup_ix hst 0 rfl)
      have i1 : eOp oIx (eVar 1) (eC (.int 1)) [some (.ref a), some vst] M = .ok (.int p) M := op_run rfl rfl (tup_ix hst 1 rfl)
      refine sat_seq (sat_if (c := true) (M1 := M) (tB_run (op_run i0 rfl (eq_str _ _))) (fun _ => ?_) fun z => nomatch z)
      have e1 : eFld cSt fC (eVar 0) [some (.ref a), some vst] M = .ok (.ref c) M := fld_ok rfl ob rfl
      have eg : eD1 (fun x y => dGetD x y .non) (eFld cSt fC (eVar 0)) (eOp oIx (eVar 1) (eC (.int 1))) [some (.ref a), some vst] M = .ok ((dval kc p).getD .non) M := by
        simp only [eD1, e1, R.bind, isDct_at hc, if_true, i1, dGetD, dctOf_at hc]
      have i2 : eOp oIx (eVar 1) (eC (.int 2)) [some (.ref a), some vst] M = .ok (.int m) M := op_run rfl rfl (tup_ix hst 2 rfl)
      have el := lst1_ok i2
      rw [rightB_fld]
      rcases hC3 p with ⟨e, hE⟩ | ⟨k, e, hE, hk2, hL⟩
      · rw [e] at eg
        refine sat_ret (op_run eg el (eq_nonL (get_last _ _))) ⟨?_, pre_app _ _⟩
        have : placeB ss p = false := by rw [Bool.eq_false_iff]; exact fun z => hE (place_emp.mp z)
        rw [this, Bool.false_and]
      · rw [e] at eg
        have q := eq_ints (M := M ++ [O.lst [W.int m]]) (u := .ref k) (v := .ref M.length) (xs := rowOf (grps h w) ss (h * w) p) (ys := [m]) ⟨k, rfl, pre_get (pre_app _ _) hL⟩ (Lst.new M [.int m])
        refine sat_ret (op_run eg el q) ⟨?_, pre_app _ _⟩
        rw [place_emp.mpr hE, tab_at hE.1 hE.2.1, Bool.true_and]
    | grp p m g =>
      have i0 : eOp oIx (eVar 1) (eC (.int 0)) [some (.ref a), some vst] M = .ok sGroup M := op_run rfl rfl (tup_ix hst 0 rfl)
      have i3 : eOp oIx (eVar 1) (eC (.int 3)) [some (.ref a), some vst] M = .ok (.int g) M := op_run rfl rfl (tup_ix hst 3 rfl)
      refine sat_seq (sat_if (c := false) (M1 := M) (tB_run (op_run i0 rfl (eq_str _ _))) (fun z => nomatch z) fun _ => ?_)
      refine sat_skip ?_
      dsimp only
      have eI : eCall PB.d_is_group (aCons (eVar 0) (aCons (eOp oIx (eVar 1) (eC (.int 3))) aNil)) [some (.ref a), some vst] M = .ok (.bl (decide (0 ≤ g) && decide (g < ((grps h w).length : Int)))) M := by
        simp only [eCall, aCons, aNil, i3, eVar, R.bind, List.getElem?_cons_succ, List.getElem?_cons_zero, isgrp_ok S g]
      rw [rightB_grp]
      by_cases hg : 0 ≤ g ∧ g < ((grps h w).length : Int)
      · obtain ⟨g0, g1⟩ := hg
        rw [decide_eq_true g0, decide_eq_true g1] at eI
        obtain ⟨M1, kvs, e1, I, hk⟩ := hH M a n c h w ss g hh hw S sh g0 g1
        have p1 := I.pre
        have st1 : IsStp M1 vst (.grp p m g) := Tup.mono hst p1
        have j2 : eOp oIx (eVar 1) (eC (.int 2)) [some (.ref a), some vst] M1 = .ok (.int m) M1 := op_run rfl rfl (tup_ix st1 2 rfl)
        have j1 : eOp oIx (eVar 1) (eC (.int 1)) [some (.ref a), some vst] M1 = .ok (.int p) M1 := op_run rfl rfl (tup_ix st1 1 rfl)
        have eH : eCall fh (aCons (eVar 0) (aCons (eOp oIx (eVar 1) (eC (.int 3))) aNil)) [some (.ref a), some vst] M = .ok (.ref M.length) M1 := by
          simp only [eCall, aCons, aNil, i3, eVar, R.bind, List.getElem?_cons_succ, List.getElem?_cons_zero, e1]
        have eg : eD1 (fun x y => dGetD x y .non) (eCall fh (aCons (eVar 0) (aCons (eOp oIx (eVar 1) (eC (.int 3))) aNil))) (eOp oIx (eVar 1) (eC (.int 2))) [some (.ref a), some vst] M = .ok ((dval kvs m).getD .non) M1 := by
          simp only [eD1, eH, R.bind, isDct_at I.at_, if_true, j2, dGetD, dctOf_at I.at_]
        have el := lst1_ok j1
        have fin : ∀ {b : Bool}, oEq ((dval kvs m).getD .non) (.ref M1.length) (M1 ++ [.lst [.int p]]) = .ok (.bl b) (M1 ++ [.lst [.int p]]) →
            eAnd (eCall PB.d_is_group (aCons (eVar 0) (aCons (eOp oIx (eVar 1) (eC (.int 3))) aNil))) (eOp oEq (eD1 (fun x y => dGetD x y .non) (eCall fh (aCons (eVar 0) (aCons (eOp oIx (eVar 1) (eC (.int 3))) aNil))) (eOp oIx (eVar 1) (eC (.int 2)))) (eLst (aCons (eOp oIx (eVar 1) (eC (.int 1))) aNil))) [some (.ref a), some vst] M = .ok (.bl b) (M1 ++ [.lst [.int p]]) := fun {b} hb => by
          have := op_run eg el hb
          simp only [eAnd, eI, R.bind, Bool.and_self, if_true]
          exact this
        rcases I.val m with ⟨e, hz⟩ | ⟨k, e, hz, hk2, hL⟩
        · refine sat_ret (fin (b := false) (by rw [e]; exact eq_nonL (get_last _ _))) ⟨?_, p1.trans (pre_app _ _)⟩
          have : decide (spotsOf (grps h w) (tabOf (grps h w) ss (h * w)) g m = [p]) = false := decide_eq_false (by rw [hz]; simp)
          rw [this, Bool.and_false, Bool.and_false]
        · have q := eq_ints (M := M1 ++ [O.lst [W.int p]]) (u := .ref k) (v := .ref M1.length) (xs := spotsOf (grps h w) (tabOf (grps h w) ss (h * w)) g m) (ys := [p]) ⟨k, rfl, pre_get (pre_app _ _) hL⟩ (Lst.new M1 [.int p])
          refine sat_ret (fin (by rw [e]; exact q)) ⟨?_, p1.trans (pre_app _ _)⟩
          congr 1
          by_cases hs : spotsOf (grps h w) (tabOf (grps h w) ss (h * w)) g m = [p]
          · have hp : p ∈ spotsOf (grps h w) (tabOf (grps h w) ss (h * w)) g m := by rw [hs]; simp
            unfold spotsOf at hp
            obtain ⟨hp1, hp2⟩ := List.mem_filter.mp hp
            obtain ⟨_, gin⟩ := grp_in hh hw _ (getD_mem g0 g1)
            obtain ⟨p0, p1'⟩ := gin p hp1
            have p1'' : p < (ss.length : Int) := by rw [sh.len]; exact p1'
            rw [tab_at p0 p1''] at hp2
            obtain ⟨y, hy, ey⟩ := List.any_eq_true.mp hp2
            have ey' : y = m := by simpa using ey
            subst ey'
            rw [decide_eq_true hs, lacks_of g0 g1 hp1 hy, place_emp.mpr ⟨p0, p1'', (mem_row hy).1⟩]
            rfl
          · rw [decide_eq_false hs, Bool.and_false, Bool.and_false]
      · have hz : (decide (0 ≤ g) && decide (g < ((grps h w).length : Int))) = false := by
          rw [Bool.eq_false_iff, Ne, Bool.and_eq_true, decide_eq_true_eq, decide_eq_true_eq]; exact hg
        rw [hz] at eI
        refine sat_ret (v := .bl false) (M1 := M) ?_ ⟨?_, pre_rfl _⟩
        · simp only [eAnd, eI, R.bind, Bool.false_eq_true, if_false]
        · have : lacksB (grps h w) ss g m (h * w) = false := by
            rw [Bool.eq_false_iff]
            intro z
            obtain ⟨z1, z2, _⟩ := lacks_in z
            exact hg ⟨z1, z2⟩
          rw [this, Bool.false_and, Bool.and_false]
  obtain ⟨r, M', e, rfl, q⟩ := key
  exact ⟨M', e, q⟩
def StateSpec (f : CM) : Prop := ∀ (h w : Nat) (M : Mem) (vs : W) (ss : List Int), 1 ≤ h ∧ h ≤ 3 → 1 ≤ w ∧ w ≤ 3 → IntL M vs ss → Sheet (h * w) ss →
  ∃ M' n c, f [.int h, .int w, vs] M = .ok (.ref M.length) M' ∧ M <+: M' ∧ StA M' M.length n c h w ss ∧ M.length < n ∧ M.length < c
theorem state_ok {f : CM} (hf : InitSpec f) : StateSpec (PB.d_State f) := by
  intro h w M vs ss hh hw hs sh
  obtain ⟨M', n, c, e, q⟩ := hf h w M vs ss hh hw hs sh
  refine ⟨M', n, c, ?_, q⟩
  show mkO cSt f [.int h, .int w, vs] M = _
  simp only [mkO, e, R.bind]
theorem the_init : InitSpec (PB.d_State_init (PB.d_groups_of PB.d_row_fields PB.d_column_fields PB.d_box_fields) PB.d_refuse_no_sheet (PB.d_State_numbers_for PB.d_groups_at)) :=
  init_ok groups_ok (fun h w hh hw M v ns => refuse_ok h w hh hw M v ns) fun hh hw hp ho f1 f2 f3 f4 hG hN hl => numfor_ok gat_ok hh hw hp ho f1 f2 f3 f4 hG hN hl
end LV
end
section
set_option linter.all false
namespace K3
open VM
abbrev d_row_fields := PB.d_row_fields
abbrev d_column_fields := PB.d_column_fields
abbrev d_box_fields := PB.d_box_fields
abbrev d_groups_of := PB.d_groups_of
abbrev d_refuse_no_sheet := PB.d_refuse_no_sheet
abbrev d_groups_at := PB.d_groups_at
abbrev d_State_init := PB.d_State_init
abbrev d_State_numbers_for := PB.d_State_numbers_for
def d_State_put : CM := fn 3 3 (
  sBad)
def d_State_behind : CM := fn 3 3 (
  sBad)
def d_State (c_State_init : CM) : CM := mkO [83, 116, 97, 116, 101] c_State_init
abbrev d_is_group := PB.d_is_group
abbrev d_homes_in := PB.d_homes_in
abbrev d_step_follows := PB.d_step_follows
abbrev d_follows := PB.d_follows
abbrev d_L_whole := LV.d_L_whole
abbrev d_L_at := LV.d_L_at
abbrev d_L_same := LV.d_L_same
abbrev d_L_shape_of := LV.d_L_shape_of
abbrev d_L_all_groups := LV.d_L_all_groups
abbrev d_L_full_sheet := LV.d_L_full_sheet
abbrev d_L_sheet_by := LV.d_L_sheet_by
abbrev d_L_barred := LV.d_L_barred
abbrev d_L_can_have := LV.d_L_can_have
abbrev d_L_spots := LV.d_L_spots
abbrev d_L_lacks := LV.d_L_lacks
abbrev d_L_step_right := LV.d_L_step_right
abbrev d_L_step_by := LV.d_L_step_by
def d_L_shape_for (c_L_at c_L_shape_of : CM) : CM := fn 1 1 (
  sSeq (
    sIf (tB (eOp oGt (eCall fLen (aCons (eVar 0) aNil)) (eC (.int 63)))) (
      sRet (eOp oIx (eLst (aCons (eTup (aCons (eC (.int 2)) (aCons (eC (.int 3)) aNil))) (aCons (eTup (aCons (eC (.int 3)) (aCons (eC (.int 2)) aNil))) (aCons (eTup (aCons (eC (.int 3)) (aCons (eC (.int 3)) aNil))) (aCons (eTup (aCons (eC (.int 2)) (aCons (eC (.int 2)) aNil))) aNil))))) (eOp oMod (eCall c_L_at (aCons (eVar 0) (aCons (eC (.int 0)) aNil))) (eC (.int 4))))) (
      sSkip)) (
  sSeq (
    sIf (tB (eOp oEq (eOp oMod (eCall fSum (aCons (eSl (eVar 0) pNone (pSome (eC (.int 1)))) aNil)) (eC (.int 32))) (eC (.int 9)))) (
      sRet (eTup (aCons (eC (.int 3)) (aCons (eC (.int 3)) aNil)))) (
      sSkip)) (
  sRet (eCall c_L_shape_of (aCons (eCall c_L_at (aCons (eVar 0) (aCons (eC (.int 0)) aNil))) aNil)))))
def d_law (c_follows c_L_at c_L_same c_L_all_groups c_L_full_sheet c_L_sheet_by c_L_can_have c_L_step_right c_L_step_by c_L_shape_for : CM) : CM := fn 1 16 (
  sSeq (
    sAsg (eCall c_L_shape_for (aCons (eVar 0) aNil)) (gTup [gName 1, gName 2])) (
  sSeq (
    sAsg (eOp oMul (eVar 1) (eVar 2)) (gName 3)) (
  sSeq (
    sAsg (eCall c_L_all_groups (aCons (eVar 1) (aCons (eVar 2) aNil))) (gName 4)) (
  sSeq (
    sAsg (eCall c_L_full_sheet (aCons (eVar 1) (aCons (eVar 2) (aCons (eCall c_L_at (aCons (eVar 0) (aCons (eC (.int 1)) aNil))) aNil)))) (gName 5)) (
  sSeq (
    sAsg (eOp oMod (eCall c_L_at (aCons (eVar 0) (aCons (eC (.int 2)) aNil))) (eOp oIx (eLst (aCons (eC (.int 7)) (aCons (eC (.int 4)) (aCons (eC (.int 3)) aNil)))) (eOp oAdd (eCall fInt (aCons (eOp oGt (eVar 3) (eC (.int 3))) aNil)) (eCall fInt (aCons (eOp oGt (eVar 3) (eC (.int 4))) aNil))))) (gName 6)) (
  sSeq (
    sAsg (eCall c_L_sheet_by (aCons (eVar 5) (aCons (eSl (eVar 0) (pSome (eC (.int 3))) (pSome (eC (.int 19)))) (aCons (eVar 6) aNil)))) (gName 7)) (
  sSeq (
    sAsg (eCall c_L_at (aCons (eVar 0) (aCons (eC (.int 19)) aNil))) (gName 8)) (
  sSeq (
    sAsg (eOp oMod (eOp oDiv (eVar 8) (eC (.int 4))) (eCall fLen (aCons (eVar 7) aNil))) (gName 9)) (
  sSeq (
    sIf (tAnd (tB (eOp oEq (eOp oMod (eVar 8) (eC (.int 4))) (eC (.int 1)))) (tB (eOp oEq (eOp oIx (eVar 7) (eVar 9)) (eC (.int 0))))) (
      sAsg (eOp oAdd (eC (.int 1)) (eOp oMod (eCall c_L_at (aCons (eVar 0) (aCons (eC (.int 40)) aNil))) (eVar 3))) (gSub (eVar 7) (eVar 9))) (
      sSkip)) (
  sSeq (
    sAsg (eCall c_L_can_have (aCons (eVar 4) (aCons (eVar 7) (aCons (eVar 3) aNil)))) (gName 10)) (
  sSeq (
    sFor (iRng1 (eC (.int 6))) (gName 11) (
      sSeq (
        sAsg (eCall c_L_at (aCons (eVar 0) (aCons (eOp oAdd (eC (.int 20)) (eVar 11)) aNil))) (gName 8)) (
      sSeq (
        sAsg (eCall c_L_at (aCons (eVar 0) (aCons (eOp oAdd (eC (.int 30)) (eVar 11)) aNil))) (gName 12)) (
      sSeq (
        sAsg (eCall c_L_step_by (aCons (eVar 4) (aCons (eVar 7) (aCons (eVar 10) (aCons (eVar 8) (aCons (eVar 12) (aCons (eVar 3) aNil))))))) (gName 13)) (
      sSeq (
        sAsg (eCall fList (aCons (eVar 7) aNil)) (gName 14)) (
      sSeq (
        sAsg (eCall c_follows (aCons (eVar 1) (aCons (eVar 2) (aCons (eVar 14) (aCons (eVar 13) aNil))))) (gName 15)) (
      sSeq (
        sIf (tOr (tNot (tB (eCall c_L_same (aCons (eVar 14) (aCons (eVar 7) aNil))))) (tNot (tB (eIs [.bool] (eVar 15))))) (
          sRet (eC (.bl false))) (
          sSkip)) (
      sIf (tB (eOp oNe (eVar 15) (eCall c_L_step_right (aCons (eVar 4) (aCons (eVar 7) (aCons (eVar 10) (aCons (eVar 13) (aCons (eVar 3) aNil)))))))) (
        sRet (eC (.bl false))) (
        sSkip))))))))) (
  sRet (eC (.bl true))))))))))))))
def tab (c : CE) : CE
  | 0 => d_row_fields
  | 1 => d_column_fields
  | 2 => d_box_fields
  | 3 => d_groups_of (c 0) (c 1) (c 2)
  | 4 => d_refuse_no_sheet
  | 5 => d_groups_at
  | 6 => d_State_init (c 3) (c 4) (c 7)
  | 7 => d_State_numbers_for (c 5)
  | 8 => d_State_put
  | 9 => d_State_behind
  | 10 => d_State (c 6)
  | 11 => d_is_group
  | 12 => d_homes_in
  | 13 => d_step_follows (c 11) (c 12)
  | 14 => d_follows (c 10) (c 13)
  | 15 => d_L_whole
  | 16 => d_L_at
  | 17 => d_L_same (c 15)
  | 18 => d_L_shape_of
  | 19 => d_L_all_groups
  | 20 => d_L_full_sheet
  | 21 => d_L_sheet_by
  | 22 => d_L_barred
  | 23 => d_L_can_have (c 22)
  | 24 => d_L_spots
  | 25 => d_L_lacks
  | 26 => d_L_step_right (c 24) (c 25)
  | 27 => d_L_step_by
  | 28 => d_L_shape_for (c 16) (c 18)
  | 29 => d_law (c 14) (c 16) (c 17) (c 19) (c 20) (c 21) (c 23) (c 26) (c 27) (c 28)
  | _ => fun _ _ => .bad
end K3
end
section
set_option linter.all false
set_option autoImplicit false
set_option maxRecDepth 100000
namespace LV
open VM
local macro_rules | `(tactic| walk_at "ev") => `(tactic| simp only [tB, tAnd, tOr, tNot, tTrue, eOp, eVar, eC, eLst, eTup, aNil, aCons, eCall, eAnd, eOr, eNot, eIf, eIsN, eNotN, eMeth, R.bind, oAdd, oSub, gName, gSub, gTup, gEach, iRng1, iRng2, List.length_cons, List.length_nil, List.map_cons, List.map_nil, List.cons_append, List.nil_append, List.append_nil, List.getElem?_cons_zero, List.getElem?_cons_succ, List.set_cons_zero, List.set_cons_succ, if_true, if_false, Bool.false_eq_true, Nat.reduceAdd, Nat.reduceSub, List.replicate_succ, List.replicate_zero, Nat.zero_add, Nat.add_zero, clr, List.foldl_nil, List.foldl_cons, List.append_assoc])
theorem shape3_ok : ShapeSpec (K3.d_L_shape_for d_L_at d_L_shape_of) := by
  intro M ns hM hl
  refine sat_fn rfl ?_
  show (sSeq _ _ [some (.ref 0)] M).Sat _
  refine sat_seq (sat_if (c := false) (M1 := M) ?_ (fun z => nomatch z) fun _ => ?_)
  · walk_at "ev"
    have e : decide ((63 : Int) < (ns.length : Int)) = false := decide_eq_false (by omega)
    simp only [hM.len, gt_int, e]
  refine sat_skip ?_
  dsimp only
  have hc := hM.cut hl none (some 1)
  have L := Lst.new M ((VM.cut ns none (some 1)).map .int)
  refine sat_seq (sat_if (c := decide ((VM.cut ns none (some 1)).sum % 32 = 9)) (M1 := M ++ [.lst ((VM.cut ns none (some 1)).map .int)]) ?_ (fun hc => ?_) fun hc => ?_)
  · have m1 := mod_ok (M := M ++ [.lst ((VM.cut ns none (some 1)).map .int)]) (i := (VM.cut ns none (some 1)).sum) (j := 32) (by decide)
    have hsum : fSum [.ref M.length] (M ++ [.lst ((VM.cut ns none (some 1)).map .int)]) = .ok (.int (VM.cut ns none (some 1)).sum) (M ++ [.lst ((VM.cut ns none (some 1)).map .int)]) := by
      unfold fSum
      simp only [L.lstOf, Option.bind, intsOf_map]
    walk_at "ev"
    simp only [eSl, pNone, pSome, R.bind, hc, hsum, m1, eq_int, eVar, eC, List.getElem?_cons_zero]
  · generalize hN : M ++ [O.lst ((VM.cut ns none (some 1)).map .int)] = N
    have pN : M <+: N := by rw [← hN]; exact pre_app _ _
    have hn : newT [.int 3, .int 3] N = .ok (.ref N.length) (N ++ [.tup [.int 3, .int 3]]) := newT_ok (by show 2 ≤ 16777216; decide)
    refine sat_ret (v := .ref N.length) (M1 := N ++ [.tup [.int 3, .int 3]]) (by walk_at "ev"; exact hn) ?_
    exact ⟨pN.trans (pre_app _ _), 3, 3, Tup.new _ _, by decide, by decide⟩
  · refine sat_skip ?_
    dsimp only
    obtain ⟨c, M1, e1, p1⟩ := at_ok ns (M ++ [.lst ((VM.cut ns none (some 1)).map .int)]) 0 (hM.mono (pre_app _ _)) hl
    obtain ⟨v, M2, e2, p2, r⟩ := shape_of_ok c M1
    refine sat_ret (v := v) (M1 := M2) ?_ ⟨(pre_app _ _).trans (p1.trans p2), r⟩
    walk_at "ev"
    simp only [e1, e2]
def FollowsSpec (f : CM) : Prop := ∀ (h w : Nat) (M : Mem) (vs vst : W) (ss : List Int) (st : Stp), 1 ≤ h ∧ h ≤ 3 → 1 ≤ w ∧ w ≤ 3 → IntL M vs ss → Sheet (h * w) ss → IsStp M vst st →
  ∃ M', f [.int h, .int w, vs, vst] M = .ok (.bl (rightB (grps h w) ss (tabOf (grps h w) ss (h * w)) (h * w) st)) M' ∧ M <+: M'
def st3 (h w : Nat) (vG vf : W) (x6 : Option W) (vs : W) (x8 x9 x10 x11 x12 x13 x14 x15 : Option W) : St := [some (.ref 0), some (.int h), some (.int w), some (.int (h * w : Nat)), some vG, some vf, x6, some vs, x8, x9, x10, x11, x12, x13, x14, x15]
theorem law3_ok {f : CM} (hf : FollowsSpec f) (ns : List Int) (hl : ns.length ≤ 63) (M0 : Mem) (hM0 : Scr M0 ns) :
    ∃ v M, K3.d_law f d_L_at (d_L_same d_L_whole) d_L_all_groups d_L_full_sheet d_L_sheet_by (d_L_can_have d_L_barred) (d_L_step_right d_L_spots d_L_lacks) d_L_step_by (K3.d_L_shape_for d_L_at d_L_shape_of) [.ref 0] M0 = .ok v M ∧ v = .bl true := by
  refine sat_fn rfl ?_
  refine head_ok shape3_ok (List.replicate 10 none) M0 ns hM0 hl fun h w vG vf fs M S => ?_
  obtain ⟨s9, s1, h81⟩ := sh9 S.hh S.hw
  obtain ⟨sh, M1, e1, p1⟩ := share_ok M ns (hM0.mono S.pre) hl (some (.int h)) (some (.int w)) ((h * w : Nat) : Int) (some vG :: some vf :: List.replicate 10 none)
  refine seq_set e1 ?_
  have S1 := hM0.mono (S.pre.trans p1)
  obtain ⟨N, ss, e2, p2, hs⟩ := sheetE_ok M1 ns S1 hl (Lst.mono S.F p1) S.fl h81 S.fg (some (.int h)) (some (.int w)) (some (.int (h * w : Nat))) (some vG) sh (List.replicate 9 none)
  refine seq_set e2 ?_
  show (sSeq _ _ (st3 h w vG vf (some (.int sh)) (.ref N.length) none none none none none none none none) _).Sat _
  have GN : LL N vG (grps h w) := S.G.mono (p1.trans p2)
  have SN : Scr N ns := S1.mono p2
  have sl : ss.length = h * w * (h * w) := hs.len
  have hpos : 0 < ss.length := by rw [sl]; exact Nat.mul_pos s1 s1
  -- the cell, the spot
  obtain ⟨c, M3, e3, p3⟩ := at_ok ns (N ++ .lst (ss.map .int) :: []) 19 (SN.mono (own_pre _ _ _)) hl
  obtain ⟨J, rfl⟩ := own_of_pre p3
  refine seq_set (v := .int c) (M1 := N ++ .lst (ss.map .int) :: J) (by unfold st3; walk_at "ev"; exact e3) ?_
  show (sSeq _ _ (st3 h w vG vf (some (.int sh)) (.ref N.length) (some (.int c)) none none none none none none none) _).Sat _
  have LS : IntL (N ++ .lst (ss.map .int) :: J) (.ref N.length) ss := ⟨_, rfl, own_get _ _ _⟩
  have d4 := div_ok (M := N ++ .lst (ss.map .int) :: J) (i := c) (j := 4) (by decide) (by decide)
  have m4 := mod_ok (M := N ++ .lst (ss.map .int) :: J) (i := c / 4) (j := (ss.length : Int)) (by omega)
  refine seq_set (v := .int (c / 4 % (ss.length : Int))) (M1 := N ++ .lst (ss.map .int) :: J) (by unfold st3; walk_at "ev"; simp only [d4, len_ok LS, m4]) ?_
  obtain ⟨sp0, sp1⟩ := emod_in (c / 4) hpos
  generalize c / 4 % (ss.length : Int) = spot at sp0 sp1
  show (sSeq _ _ (st3 h w vG vf (some (.int sh)) (.ref N.length) (some (.int c)) (some (.int spot)) none none none none none none) _).Sat _
  -- perhaps one field more is filled
  refine sat_seq (RS.Sat.mono (q := { nx := fun σ M' => ∃ ts J', σ = st3 h w vG vf (some (.int sh)) (.ref N.length) (some (.int c)) (some (.int spot)) none none none none none none ∧ M' = N ++ .lst (ts.map .int) :: J' ∧ Sheet (h * w) ts, rt := fun _ _ => False }) ?_ (fun σ M' hI => ?_) (fun _ _ z => z.elim) (fun _ _ z => z.elim) (fun _ _ z => z.elim))
  · have m5 := mod_ok (M := N ++ .lst (ss.map .int) :: J) (i := c) (j := 4) (by decide)
    have i5 := ix_ok LS sp0 sp1
    refine sat_if (c := decide (c % 4 = 1) && decide (nth ss spot = 0)) (M1 := N ++ .lst (ss.map .int) :: J) ?_ (fun _ => ?_) fun _ => ⟨ss, J, rfl, rfl, hs⟩
    · unfold st3
      walk_at "ev"
      simp only [m5, i5, eq_int]
      cases decide (c % 4 = 1) <;> simp
    · obtain ⟨c6, M6, e6, p6⟩ := at_ok ns (N ++ .lst (ss.map .int) :: J) 40 (SN.mono (own_pre _ _ _)) hl
      obtain ⟨J6, rfl⟩ := own_of_pre p6
      have m6 := mod_ok (M := N ++ .lst (ss.map .int) :: J6) (i := c6) (j := ((h * w : Nat) : Int)) (by omega)
      obtain ⟨k0, k1⟩ := emod_in c6 s1
      refine sat_asg (v := .int (1 + c6 % ((h * w : Nat) : Int))) (M1 := N ++ .lst (ss.map .int) :: J6) (by unfold st3; walk_at "ev"; simp only [e6, m6]) (sub_ok rfl rfl sp0 sp1) ?_
      exact ⟨_, J6, rfl, rfl, hs.set _ (by omega) (by omega)⟩
  obtain ⟨ts, J1, rfl, rfl, ht⟩ := hI
  dsimp only
  have tl : ts.length = h * w * (h * w) := ht.len
  have LT : IntL (N ++ .lst (ts.map .int) :: J1) (.ref N.length) ts := ⟨_, rfl, own_get _ _ _⟩
  have GT : LL (N ++ .lst (ts.map .int) :: J1) vG (grps h w) := GN.mono (own_pre _ _ _)
  have ST : Scr (N ++ .lst (ts.map .int) :: J1) ns := SN.mono (own_pre _ _ _)
  generalize N ++ O.lst (ts.map .int) :: J1 = M4 at LT GT ST
  have hin : ∀ g ∈ grps h w, g.length ≤ 9 ∧ ∀ i ∈ g, 0 ≤ i ∧ i < (ts.length : Int) := fun g hg => by rw [tl]; exact grp_in S.hh S.hw g hg
  obtain ⟨ws, JT, e7, hT⟩ := can_ok M4 vG (.ref N.length) (grps h w) ts (h * w) GT LT (fun g hg => (hin g hg).2) (by omega) s9
  refine seq_set (v := .ref M4.length) (M1 := M4 ++ .lst ws :: JT) (by unfold st3; walk_at "ev"; exact e7) ?_
  have p7 : M4 <+: M4 ++ .lst ws :: JT := own_pre _ _ _
  have TT := hT.ll
  generalize M4 ++ O.lst ws :: JT = M5 at p7 TT
  generalize W.ref M4.length = vT at TT
  have LT5 := Lst.mono LT p7
  have GT5 := GT.mono p7
  have ST5 := ST.mono p7
  show (sSeq _ _ (st3 h w vG vf (some (.int sh)) (.ref N.length) (some (.int c)) (some (.int spot)) (some vT) none none none none none) M5).Sat _
  refine sat_seq ?_
  refine sat_rng (lo := 0) (n := 6) (M1 := M5) (by rfl) (fun k σ M' => (∃ x8 x11 x12 x13 x14 x15, σ = st3 h w vG vf (some (.int sh)) (.ref N.length) x8 (some (.int spot)) (some vT) x11 x12 x13 x14 x15) ∧ M5 <+: M') ⟨⟨_, _, _, _, _, _, rfl⟩, pre_rfl _⟩ ?_ ?_
  · rintro k σ M' hk ⟨⟨x8, x11, x12, x13, x14, x15, rfl⟩, p⟩
    obtain ⟨c1, N1, a1, q1⟩ := at_ok ns M' (20 + (0 + (k : Int))) (ST5.mono p) hl
    refine seq_set (v := .int c1) (M1 := N1) (by unfold st3; walk_at "ev"; exact a1) ?_
    obtain ⟨c2, N2, a2, q2⟩ := at_ok ns N1 (30 + (0 + (k : Int))) (ST5.mono (p.trans q1)) hl
    refine seq_set (v := .int c2) (M1 := N2) (by unfold st3; walk_at "ev"; exact a2) ?_
    have P2 := p.trans (q1.trans q2)
    obtain ⟨v3, N3, a3, q3, st, hst⟩ := step_by_ok N2 vG (.ref N.length) vT (grps h w) ts (tabOf (grps h w) ts (h * w)) (h * w) c1 c2 (GT5.mono P2) (Lst.mono LT5 P2) (TT.mono P2) (tab_len _ _ _) (by omega) s1 (by rw [grps_len]; omega) (tab_rows _ _ _ s9) (fun p h0 h1 => cov S.hh S.hw p h0 (by rw [← tl]; exact h1)) (by omega)
    refine seq_set (v := v3) (M1 := N3) (by unfold st3; walk_at "ev"; exact a3) ?_
    have P3 := P2.trans q3
    have a4 := flist_ok (Lst.mono LT5 P3) (by omega)
    refine seq_set (v := .ref N3.length) (M1 := N3 ++ [.lst (ts.map .int)]) (by unfold st3; walk_at "ev"; exact a4) ?_
    have q4 : N3 <+: N3 ++ [.lst (ts.map .int)] := pre_app _ _
    have L4 : IntL (N3 ++ [.lst (ts.map .int)]) (.ref N3.length) ts := Lst.new _ _
    generalize N3 ++ [O.lst (ts.map .int)] = N4 at q4 L4
    generalize W.ref N3.length = vH at L4
    obtain ⟨N5, a5, q5⟩ := hf h w N4 vH v3 ts st S.hh S.hw L4 ht (hst.mono q4)
    refine seq_set (v := .bl (rightB (grps h w) ts (tabOf (grps h w) ts (h * w)) (h * w) st)) (M1 := N5) (by unfold st3; walk_at "ev"; exact a5) ?_
    have P5 := P3.trans (q4.trans q5)
    obtain ⟨N6, a6, q6⟩ := same_ints N5 vH (.ref N.length) ts (Lst.mono L4 q5) (Lst.mono LT5 P5) (by omega)
    refine sat_seq (sat_if (c := false) (M1 := N6) ?_ (fun z => nomatch z) fun _ => ?_)
    · unfold st3
      walk_at "ev"
      simp only [a6, R.bind, eIs, anyKd, isKd, eVar, List.getElem?_cons_succ, List.getElem?_cons_zero, List.set_cons_zero, List.set_cons_succ]
      rfl
    refine sat_skip ?_
    dsimp only
    have P6 := P5.trans q6
    obtain ⟨N7, a7, q7⟩ := right_ok N6 vG (.ref N.length) vT v3 (grps h w) ts (tabOf (grps h w) ts (h * w)) (h * w) st (GT5.mono P6) (Lst.mono LT5 P6) (TT.mono P6) (hst.mono (q4.trans (q5.trans q6))) (tab_len _ _ _) hin
    refine sat_if (c := false) (M1 := N7) ?_ (fun z => nomatch z) fun _ => ?_
    · unfold st3
      walk_at "ev"
      simp only [a7, ne_bl, List.set_cons_zero, List.set_cons_succ, List.getElem?_cons_succ, List.getElem?_cons_zero]
      simp
    · exact ⟨⟨_, _, _, _, _, _, rfl⟩, P6.trans q7⟩
  · rintro σ M' ⟨⟨x8, x11, x12, x13, x14, x15, rfl⟩, p⟩
    dsimp only
    exact sat_ret rfl rfl
end LV
end
section
set_option linter.all false
set_option autoImplicit false
set_option maxRecDepth 100000
namespace LV
open VM
theorem follows_ok {fs ft : CM} (hs : StateSpec fs) (ht : StepSpec ft) : FollowsSpec (PB.d_follows fs ft) := by
  intro h w M vs vst ss st hh hw hv sh hst
  obtain ⟨M1, n, c, e1, p1, S, _, _⟩ := hs h w M vs ss hh hw hv sh
  obtain ⟨M2, e2, p2⟩ := ht M1 M.length n c h w ss vst st hh hw S sh (Tup.mono hst p1)
  have key : ∃ r M', PB.d_follows fs ft [.int h, .int w, vs, vst] M = .ok r M' ∧ (r = .bl (rightB (grps h w) ss (tabOf (grps h w) ss (h * w)) (h * w) st) ∧ M <+: M') := by
    refine sat_fn rfl (sat_ret (M1 := M2) (v := .bl (rightB (grps h w) ss (tabOf (grps h w) ss (h * w)) (h * w) st)) ?_ ⟨rfl, p1.trans p2⟩)
    show eCall ft (aCons (eCall fs (aCons (eVar 0) (aCons (eVar 1) (aCons (eVar 2) aNil)))) (aCons (eVar 3) aNil)) [some (.int h), some (.int w), some vs, some vst] M = _
    simp only [eCall, aCons, aNil, eVar, R.bind, List.getElem?_cons_succ, List.getElem?_cons_zero, e1, e2]
  obtain ⟨r, M', e, rfl, q⟩ := key
  exact ⟨M', e, q⟩
end LV
namespace K3
open VM LV
theorem math (ns : List Int) (hl : ns.length ≤ 63) : ∃ M, callK tab 40 29 [.ref 0] [.frz (ns.map .int)] = .ok (.bl true) M := by
  have hf : FollowsSpec (callK tab 39 14) := follows_ok (state_ok the_init) (step_ok homes_ok)
  obtain ⟨v, M, e, rfl⟩ := law3_ok hf ns hl [.frz (ns.map .int)] rfl
  exact ⟨M, e⟩
end K3
end
section
set_option Elab.async false
set_option linter.all false
set_option autoImplicit false
set_option maxRecDepth 100000
set_option maxHeartbeats 4000000
namespace SV
open PySem L2
abbrev Fg := PySem.W.Frag
def txt (x : List Nat) : Str := ⟨x.toArray⟩
theorem txt_inj {x y : List Nat} (h : txt x = txt y) : x = y := by
  have e : x.toArray = y.toArray := congrArg Str.cps h
  simpa using e
def RV (ι : List Addr) : VM.W → V → Prop
  | .non, v => v = .non
  | .bl b, v => v = .bl b
  | .int i, v => v = .int i
  | .str x, v => v = .str (txt x)
  | .ref a, v => ∃ p, ι[a]? = some p ∧ v = .ref p
abbrev RVs (ι : List Addr) : List VM.W → List V → Prop := Paired (RV ι)
def RO1 (ι : List Addr) : Option VM.W → Option V → Prop
  | none, _ => True
  | some w, q => ∃ v, q = some v ∧ RV ι w v
abbrev RSt (ι : List Addr) : VM.St → L2.St → Prop := Paired (RO1 ι)
def FzL (K : Fg) (H : Hp) (p : Addr) (vs : List V) : Prop :=
  (∃ o, H p = some (.frz o (.lst vs))) ∨
    ∃ (o : Obj) (its : Array Value) (n : Nat), K.lookup p = some o ∧ o.cls = .type "list" ∧ o.dict = none ∧ o.data = .seq its n ∧ its.size ≤ sizeLine ∧ Vals vs its.toList
theorem FzL.sq {K : Fg} {H : Hp} {p : Addr} {vs : List V} (h : FzL K H p vs) : SqL K H p vs := by
  rcases h with ⟨o, h⟩ | h
  · exact .inl (.inr ⟨o, h⟩)
  · exact .inr h
abbrev RKV (ι : List Addr) : List (Int × VM.W) → List (Key × V) → Prop := Paired fun p q => q.1 = Sum.inl p.1 ∧ RV ι p.2 q.2
abbrev RFs (ι : List Addr) : List (List Nat × VM.W) → List (Str × V) → Prop := Paired fun p q => q.1 = txt p.1 ∧ RV ι p.2 q.2
def RO (K : Fg) (ι : List Addr) (H : Hp) (p : Addr) : VM.O → Prop
  | .lst xs => ∃ vs, H p = some (.lst vs) ∧ RVs ι xs vs
  | .tup xs => ∃ vs, H p = some (.tup vs) ∧ RVs ι xs vs
  | .frz xs => ∃ vs, FzL K H p vs ∧ RVs ι xs vs
  | .dct kvs => ∃ ks, H p = some (.dK ks) ∧ RKV ι kvs ks
  | .ins c fs => ∃ C dx gs, PySem.W.nsIn K mainGlobals (txt c) = some (some (.ref C)) ∧ H p = some (.ins C dx gs) ∧ RFs ι fs gs
  | .fnv x => PySem.W.nsIn K mainGlobals (txt x) = some (some (.ref p))
def live : VM.O → Bool
  | .lst _ => true
  | .tup _ => true
  | .frz _ => false
  | .dct _ => true
  | .ins _ _ => true
  | .fnv _ => false
structure Rel (K : Fg) (ι : List Addr) (M : VM.Mem) (H : Hp) : Prop where
  len : ι.length = M.length
  obj : ∀ (a : Nat) (p : Addr) (o : VM.O), ι[a]? = some p → M[a]? = some o → RO K ι H p o
  inj : ∀ (a b : Nat) (p : Addr) (oa ob : VM.O), ι[a]? = some p → ι[b]? = some p → M[a]? = some oa → M[b]? = some ob → live oa = true → live ob = true → a = b
section
variable {ι ι' : List Addr}
theorem get_pre (h : ι <+: ι') {a : Nat} {p : Addr} (e : ι[a]? = some p) : ι'[a]? = some p := by
  obtain ⟨r, rfl⟩ := h
  have ha : a < ι.length := (List.getElem?_eq_some_iff.mp e).1
  rw [List.getElem?_append_left ha]; exact e
theorem RV.mono (h : ι <+: ι') {w : VM.W} {v : V} (r : RV ι w v) : RV ι' w v := by
  cases w with
  | ref a => obtain ⟨p, e, q⟩ := r; exact ⟨p, get_pre h e, q⟩
  | non => exact r
  | bl _ => exact r
  | int _ => exact r
  | str _ => exact r
theorem Paired.imp2 {α β : Type} {F G : α → β → Prop} (f : ∀ a b, F a b → G a b) : ∀ {l : List α} {m : List β}, Paired F l m → Paired G l m
  | _, _, .nil => .nil
  | _, _, .cons r t => .cons (f _ _ r) (Paired.imp2 f t)
theorem RVs.mono (h : ι <+: ι') {ws : List VM.W} {vs : List V} (r : RVs ι ws vs) : RVs ι' ws vs := Paired.imp2 (fun _ _ q => RV.mono h q) r
theorem RKV.mono (h : ι <+: ι') {ws : List (Int × VM.W)} {vs : List (Key × V)} (r : RKV ι ws vs) : RKV ι' ws vs := Paired.imp2 (fun _ _ q => ⟨q.1, RV.mono h q.2⟩) r
theorem RFs.mono (h : ι <+: ι') {ws : List (List Nat × VM.W)} {vs : List (Str × V)} (r : RFs ι ws vs) : RFs ι' ws vs := Paired.imp2 (fun _ _ q => ⟨q.1, RV.mono h q.2⟩) r
theorem RO1.mono (h : ι <+: ι') {o : Option VM.W} {q : Option V} (r : RO1 ι o q) : RO1 ι' o q := by
  cases o with
  | none => exact r
  | some w => obtain ⟨v, e, q⟩ := r; exact ⟨v, e, q.mono h⟩
theorem RSt.mono (h : ι <+: ι') {σ : VM.St} {τ : L2.St} (r : RSt ι σ τ) : RSt ι' σ τ := Paired.imp2 (fun _ _ q => RO1.mono h q) r
theorem pre_refl : ι <+: ι := List.prefix_refl _
end
theorem Paired.len {α β : Type} {F : α → β → Prop} : ∀ {l : List α} {m : List β}, Paired F l m → l.length = m.length
  | _, _, .nil => rfl
  | _, _, .cons _ t => by simp [Paired.len t]
theorem Paired.at {α β : Type} {F : α → β → Prop} : ∀ {l : List α} {m : List β} {i : Nat} {x : α}, Paired F l m → l[i]? = some x → ∃ y, m[i]? = some y ∧ F x y
  | _, _, _, _, .nil, e => by simp at e
  | _, _, 0, _, .cons r _, e => by simp at e; subst e; exact ⟨_, rfl, r⟩
  | _, _, i + 1, x, .cons _ t, e => by
    obtain ⟨y, h1, h2⟩ := Paired.at (i := i) (x := x) t (by simpa using e)
    exact ⟨y, by simpa using h1, h2⟩
theorem Paired.setP {α β : Type} {F : α → β → Prop} {x : α} {y : β} (r : F x y) : ∀ {l : List α} {m : List β} (i : Nat), Paired F l m → Paired F (l.set i x) (m.set i y)
  | _, _, _, .nil => .nil
  | _, _, 0, .cons _ t => .cons r t
  | _, _, i + 1, .cons q t => .cons q (Paired.setP r i t)
theorem Paired.app {α β : Type} {F : α → β → Prop} : ∀ {l l2 : List α} {m m2 : List β}, Paired F l m → Paired F l2 m2 → Paired F (l ++ l2) (m ++ m2)
  | _, _, _, _, .nil, s => s
  | _, _, _, _, .cons r t, s => .cons r (Paired.app t s)
theorem Paired.takeP {α β : Type} {F : α → β → Prop} : ∀ {l : List α} {m : List β} (n : Nat), Paired F l m → Paired F (l.take n) (m.take n)
  | _, _, 0, _ => .nil
  | _, _, _ + 1, .nil => .nil
  | _, _, n + 1, .cons r t => .cons r (Paired.takeP n t)
theorem Paired.dropP {α β : Type} {F : α → β → Prop} : ∀ {l : List α} {m : List β} (n : Nat), Paired F l m → Paired F (l.drop n) (m.drop n)
  | _, _, 0, r => r
  | _, _, _ + 1, .nil => .nil
  | _, _, n + 1, .cons _ t => Paired.dropP n t
theorem Paired.dropLastP {α β : Type} {F : α → β → Prop} {l : List α} {m : List β} (h : Paired F l m) : Paired F l.dropLast m.dropLast := by
  rw [List.dropLast_eq_take, List.dropLast_eq_take, ← Paired.len h]
  exact Paired.takeP _ h
section
variable {K : Fg} {ι : List Addr} {M : VM.Mem} {H : Hp}
theorem RO.mono {ι' : List Addr} (h : ι <+: ι') {p : Addr} {o : VM.O} (r : RO K ι H p o) : RO K ι' H p o := by
  cases o with
  | lst xs => obtain ⟨vs, e, q⟩ := r; exact ⟨vs, e, RVs.mono h q⟩
  | tup xs => obtain ⟨vs, e, q⟩ := r; exact ⟨vs, e, RVs.mono h q⟩
  | frz xs => obtain ⟨vs, e, q⟩ := r; exact ⟨vs, e, RVs.mono h q⟩
  | dct xs => obtain ⟨vs, e, q⟩ := r; exact ⟨vs, e, RKV.mono h q⟩
  | ins c xs => obtain ⟨C, dx, gs, n, e, q⟩ := r; exact ⟨C, dx, gs, n, e, RFs.mono h q⟩
  | fnv x => exact r
theorem RO.other {p q : Addr} {o : VM.O} {u : HO} (r : RO K ι H p o) (h : live o = true → p ≠ q) (hq : ∀ ob vs, H q ≠ some (.frz ob (.lst vs))) : RO K ι (upd H q u) p o := by
  cases o with
  | lst xs => obtain ⟨vs, e, z⟩ := r; exact ⟨vs, by rw [upd_ne (h rfl)]; exact e, z⟩
  | tup xs => obtain ⟨vs, e, z⟩ := r; exact ⟨vs, by rw [upd_ne (h rfl)]; exact e, z⟩
  | frz xs =>
    obtain ⟨vs, e, z⟩ := r
    refine ⟨vs, ?_, z⟩
    rcases e with ⟨ob, e⟩ | e
    · refine .inl ⟨ob, ?_⟩
      have hp : p ≠ q := by rintro rfl; exact hq _ _ e
      rw [upd_ne hp]; exact e
    · exact .inr e
  | dct xs => obtain ⟨vs, e, z⟩ := r; exact ⟨vs, by rw [upd_ne (h rfl)]; exact e, z⟩
  | ins c xs => obtain ⟨C, dx, gs, n, e, z⟩ := r; exact ⟨C, dx, gs, n, by rw [upd_ne (h rfl)]; exact e, z⟩
  | fnv x => exact r
theorem RO.none {p : Addr} {o : VM.O} (r : RO K ι H p o) (hl : live o = true) (hp : H p = none) : False := by
  cases o with
  | lst xs => obtain ⟨vs, e, _⟩ := r; rw [hp] at e; cases e
  | tup xs => obtain ⟨vs, e, _⟩ := r; rw [hp] at e; cases e
  | frz xs => cases hl
  | dct xs => obtain ⟨vs, e, _⟩ := r; rw [hp] at e; cases e
  | ins c xs => obtain ⟨_, _, _, _, e, _⟩ := r; rw [hp] at e; cases e
  | fnv x => cases hl
theorem RO.nofrz {p : Addr} {o : VM.O} (r : RO K ι H p o) (hl : live o = true) (ob : Obj) (vs : List V) (hp : H p = some (.frz ob (.lst vs))) : False := by
  cases o with
  | lst xs => obtain ⟨vs, e, _⟩ := r; rw [hp] at e; cases e
  | tup xs => obtain ⟨vs, e, _⟩ := r; rw [hp] at e; cases e
  | frz xs => cases hl
  | dct xs => obtain ⟨vs, e, _⟩ := r; rw [hp] at e; cases e
  | ins c xs => obtain ⟨_, _, _, _, e, _⟩ := r; rw [hp] at e; cases e
  | fnv x => cases hl
theorem Rel.new (R : Rel K ι M H) {p : Addr} (hp : H p = none) {o : VM.O} {u : HO} (hn : ∀ ι', ι <+: ι' → RO K ι' (upd H p u) p o) : Rel K (ι ++ [p]) (M ++ [o]) (upd H p u) := by
  have pre : ι <+: ι ++ [p] := ⟨[p], rfl⟩
  have old : ∀ a q x, ι[a]? = some q → M[a]? = some x → RO K (ι ++ [p]) (upd H p u) q x := fun a q x h1 h2 => by
    have r := R.obj a q x h1 h2
    refine RO.mono pre (RO.other r (fun hl => ?_) fun ob vs e => ?_)
    · rintro rfl
      exact r.none hl hp
    · rw [hp] at e; cases e
  have notp : ∀ a x, ι[a]? = some p → M[a]? = some x → live x = true → False := fun a x h1 h2 hl => by
    exact (R.obj a p x h1 h2).none hl hp
  have split : ∀ a q, (ι ++ [p])[a]? = some q → (a < ι.length ∧ ι[a]? = some q) ∨ (a = ι.length ∧ q = p) := fun a q h => by
    by_cases ha : a < ι.length
    · rw [List.getElem?_append_left ha] at h; exact .inl ⟨ha, h⟩
    · rw [List.getElem?_append_right (Nat.le_of_not_lt ha)] at h
      have : a - ι.length = 0 := by
        cases hk : a - ι.length with
        | zero => rfl
        | succ k => rw [hk] at h; simp at h
      rw [this] at h
      simp at h
      exact .inr ⟨by omega, h.symm⟩
  have splitM : ∀ a x, (M ++ [o])[a]? = some x → (a < ι.length → M[a]? = some x) ∧ (a = ι.length → x = o) := fun a x h => by
    refine ⟨fun ha => ?_, fun ha => ?_⟩
    · rw [List.getElem?_append_left (by rw [← R.len]; exact ha)] at h; exact h
    · subst ha
      rw [R.len] at h
      simp at h
      exact h.symm
  refine ⟨by simp [R.len], fun a q x h1 h2 => ?_, fun a b q xa xb h1 h2 h3 h4 l1 l2 => ?_⟩
  · rcases split a q h1 with ⟨ha, h1⟩ | ⟨ha, rfl⟩
    · exact old a q x h1 ((splitM a x h2).1 ha)
    · rw [(splitM a x h2).2 ha]; exact hn _ pre
  · rcases split a q h1 with ⟨ha, g1⟩ | ⟨ha, eq1⟩
    · rcases split b q h2 with ⟨hb, g2⟩ | ⟨hb, eq2⟩
      · exact R.inj a b q xa xb g1 g2 ((splitM a xa h3).1 ha) ((splitM b xb h4).1 hb) l1 l2
      · rw [eq2] at g1; exact (notp a xa g1 ((splitM a xa h3).1 ha) l1).elim
    · rcases split b q h2 with ⟨hb, g2⟩ | ⟨hb, _⟩
      · rw [eq1] at g2; exact (notp b xb g2 ((splitM b xb h4).1 hb) l2).elim
      · rw [ha, hb]
theorem Rel.setO (R : Rel K ι M H) {a : Nat} {p : Addr} {o o' : VM.O} {u : HO} (hp : ι[a]? = some p) (ha : M[a]? = some o) (l : live o = true) (l' : live o' = true) (hu : RO K ι (upd H p u) p o') : Rel K ι (M.set a o') (upd H p u) := by
  have hlt : a < M.length := (List.getElem?_eq_some_iff.mp ha).1
  have ra := R.obj a p _ hp ha
  have look : ∀ b x, (M.set a o')[b]? = some x → (b = a ∧ x = o') ∨ (b ≠ a ∧ M[b]? = some x) := fun b x h => by
    by_cases hb : b = a
    · subst hb
      rw [List.getElem?_set_self hlt] at h
      exact .inl ⟨rfl, (Option.some.inj h).symm⟩
    · rw [List.getElem?_set_ne (Ne.symm hb)] at h
      exact .inr ⟨hb, h⟩
  have look2 : ∀ b x, (M.set a o')[b]? = some x → live x = true → ∃ y, M[b]? = some y ∧ live y = true := fun b x h lx => by
    rcases look b x h with ⟨rfl, rfl⟩ | ⟨_, h⟩
    · exact ⟨_, ha, l⟩
    · exact ⟨x, h, lx⟩
  refine ⟨by simp [R.len], fun b q x h1 h2 => ?_, fun b c q xb xc h1 h2 h3 h4 l1 l2 => ?_⟩
  · rcases look b x h2 with ⟨rfl, rfl⟩ | ⟨hb, h2⟩
    · rw [hp] at h1; cases h1
      exact hu
    · refine RO.other (R.obj b q x h1 h2) (fun hl => ?_) fun ob vs' e => ra.nofrz l ob vs' e
      rintro rfl
      exact hb (R.inj b a q x _ h1 hp h2 ha hl l)
  · obtain ⟨yb, e1, z1⟩ := look2 b xb h3 l1
    obtain ⟨yc, e2, z2⟩ := look2 c xc h4 l2
    exact R.inj b c q yb yc h1 h2 e1 e2 z1 z2
theorem Rel.set (R : Rel K ι M H) {a : Nat} {p : Addr} {xs ys : List VM.W} {us : List V} (hp : ι[a]? = some p) (ha : M[a]? = some (.lst xs)) (hu : RVs ι ys us) : Rel K ι (M.set a (.lst ys)) (upd H p (.lst us)) :=
  R.setO hp ha rfl rfl ⟨us, upd_same, hu⟩
theorem Rel.lstOf (R : Rel K ι M H) {w : VM.W} {xs : List VM.W} {v : V} (e : VM.lstOf M w = some xs) (r : RV ι w v) : ∃ p vs, v = .ref p ∧ SqL K H p vs ∧ RVs ι xs vs := by
  cases w with
  | ref a =>
    obtain ⟨p, hp, rfl⟩ := r
    simp only [VM.lstOf] at e
    cases hm : M[a]? with
    | none => rw [hm] at e; cases e
    | some o =>
      rw [hm] at e
      have ro := R.obj a p o hp hm
      cases o with
      | lst ys => cases e; obtain ⟨vs, h1, h2⟩ := ro; exact ⟨p, vs, rfl, SqL.of h1, h2⟩
      | frz ys => cases e; obtain ⟨vs, h1, h2⟩ := ro; exact ⟨p, vs, rfl, h1.sq, h2⟩
      | tup ys => cases e
      | dct ys => cases e
      | ins c ys => cases e
      | fnv x => cases e
  | non => cases e
  | bl _ => cases e
  | int _ => cases e
  | str _ => cases e
theorem Rel.tupOf (R : Rel K ι M H) {w : VM.W} {xs : List VM.W} {v : V} (e : VM.tupOf M w = some xs) (r : RV ι w v) : ∃ p vs, v = .ref p ∧ H p = some (.tup vs) ∧ RVs ι xs vs := by
  cases w with
  | ref a =>
    obtain ⟨p, hp, rfl⟩ := r
    simp only [VM.tupOf] at e
    cases hm : M[a]? with
    | none => rw [hm] at e; cases e
    | some o =>
      rw [hm] at e
      have ro := R.obj a p o hp hm
      cases o with
      | tup ys => cases e; obtain ⟨vs, h1, h2⟩ := ro; exact ⟨p, vs, rfl, h1, h2⟩
      | frz ys => cases e
      | lst ys => cases e
      | dct ys => cases e
      | ins c ys => cases e
      | fnv x => cases e
  | non => cases e
  | bl _ => cases e
  | int _ => cases e
  | str _ => cases e
theorem Rel.seqOf (R : Rel K ι M H) {w : VM.W} {xs : List VM.W} {v : V} (e : VM.seqOf M w = some xs) (r : RV ι w v) : ∃ p vs, v = .ref p ∧ (SqL K H p vs ∨ SqT K H p vs) ∧ RVs ι xs vs := by
  unfold VM.seqOf at e
  cases h : VM.lstOf M w with
  | some ys =>
    rw [h] at e; cases e
    obtain ⟨p, vs, a, b, c⟩ := R.lstOf h r
    exact ⟨p, vs, a, .inl b, c⟩
  | none =>
    rw [h] at e
    obtain ⟨p, vs, a, b, c⟩ := R.tupOf e r
    exact ⟨p, vs, a, .inr (SqT.of b), c⟩
theorem Rel.mutOf (R : Rel K ι M H) {w : VM.W} {a : Nat} {xs : List VM.W} {v : V} (e : VM.mutOf M w = some (a, xs)) (r : RV ι w v) : ∃ p vs, w = .ref a ∧ ι[a]? = some p ∧ M[a]? = some (.lst xs) ∧ v = .ref p ∧ H p = some (.lst vs) ∧ RVs ι xs vs := by
  cases w with
  | ref b =>
    obtain ⟨p, hp, rfl⟩ := r
    simp only [VM.mutOf] at e
    cases hm : M[b]? with
    | none => rw [hm] at e; cases e
    | some o =>
      rw [hm] at e
      have ro := R.obj b p o hp hm
      cases o with
      | lst ys =>
        cases e
        obtain ⟨vs, h1, h2⟩ := ro
        exact ⟨p, vs, rfl, hp, hm, rfl, h1, h2⟩
      | frz ys => cases e
      | tup ys => cases e
      | dct ys => cases e
      | ins c ys => cases e
      | fnv x => cases e
  | non => cases e
  | bl _ => cases e
  | int _ => cases e
  | str _ => cases e
end
def Post {α β : Type} (rel : List Addr → α → β → Prop) (K : Fg) (ι : List Addr) (r : VM.R α) (Q : β → Hp → Prop) : Prop := match r with
  | .ok a M' => ∀ ι' H' b, ι <+: ι' → Rel K ι' M' H' → rel ι' a b → Q b H'
  | .ex _ _ => False
  | .bad => False
theorem Post.seq {α β γ δ : Type} {rA : List Addr → α → β → Prop} {rC : List Addr → γ → δ → Prop} {K : Fg} {ι : List Addr} {r : VM.R α} {f : α → VM.Mem → VM.R γ} {Q : δ → Hp → Prop} {Q2 : β → Hp → Prop} (h : Post rC K ι (r.bind f) Q)
    (k : ∀ ι' H' a M' b, ι <+: ι' → Rel K ι' M' H' → rA ι' a b → Post rC K ι' (f a M') Q → Q2 b H') : Post rA K ι r Q2 := by
  cases r with
  | ok a M' =>
    intro ι' H' b hp R rr
    refine k ι' H' a M' b hp R rr ?_
    have h' : Post rC K ι (f a M') Q := h
    cases e : f a M' with
    | ok c M2 => rw [e] at h'; exact fun ι2 H2 d p2 R2 r2 => h' ι2 H2 d (List.IsPrefix.trans hp p2) R2 r2
    | ex _ _ => rw [e] at h'; exact h'.elim
    | bad => rw [e] at h'; exact h'.elim
  | ex _ _ => exact (h : False).elim
  | bad => exact (h : False).elim
theorem Post.up {α β : Type} {rel : List Addr → α → β → Prop} {K : Fg} {ι ι' : List Addr} {r : VM.R α} {Q : β → Hp → Prop} (p : ι <+: ι') (h : Post rel K ι r Q) : Post rel K ι' r Q := by
  cases r with
  | ok a M => exact fun ι2 H2 b p2 R2 r2 => h ι2 H2 b (List.IsPrefix.trans p p2) R2 r2
  | ex _ _ => exact h
  | bad => exact h
theorem Post.ok {α β : Type} {rel : List Addr → α → β → Prop} {K : Fg} {ι : List Addr} {a : α} {M : VM.Mem} {Q : β → Hp → Prop} {H : Hp} {b : β} (h : Post rel K ι (.ok a M) Q) (R : Rel K ι M H) (r : rel ι a b) : Q b H := h ι H b pre_refl R r
def PostS (K : Fg) (ι : List Addr) (r : VM.RS) (D : Ends) : Prop := match r with
  | .nx σ' M' => ∀ ι' H' τ', ι <+: ι' → Rel K ι' M' H' → RSt ι' σ' τ' → D.nx τ' H'
  | .rt w M' => ∀ ι' H' v, ι <+: ι' → Rel K ι' M' H' → RV ι' w v → D.rt v H'
  | .bk σ' M' => ∀ ι' H' τ', ι <+: ι' → Rel K ι' M' H' → RSt ι' σ' τ' → D.bk τ' H'
  | .ct σ' M' => ∀ ι' H' τ', ι <+: ι' → Rel K ι' M' H' → RSt ι' σ' τ' → D.ct τ' H'
  | .ex _ _ => False
  | .bad => False
theorem PostS.mono {K : Fg} {ι ι' : List Addr} {r : VM.RS} {D : Ends} (p : ι <+: ι') (h : PostS K ι r D) : PostS K ι' r D := by
  cases r with
  | nx σ M => exact fun ι2 H2 t p2 R2 r2 => h ι2 H2 t (List.IsPrefix.trans p p2) R2 r2
  | rt w M => exact fun ι2 H2 t p2 R2 r2 => h ι2 H2 t (List.IsPrefix.trans p p2) R2 r2
  | bk σ M => exact fun ι2 H2 t p2 R2 r2 => h ι2 H2 t (List.IsPrefix.trans p p2) R2 r2
  | ct σ M => exact fun ι2 H2 t p2 R2 r2 => h ι2 H2 t (List.IsPrefix.trans p p2) R2 r2
  | ex _ _ => exact h
  | bad => exact h
theorem PostS.seq {α β : Type} {rA : List Addr → α → β → Prop} {K : Fg} {ι : List Addr} {r : VM.R α} {f : α → VM.Mem → VM.RS} {D : Ends} {Q2 : β → Hp → Prop} (h : PostS K ι (r.bindS f) D)
    (k : ∀ ι' H' a M' b, ι <+: ι' → Rel K ι' M' H' → rA ι' a b → PostS K ι' (f a M') D → Q2 b H') : Post rA K ι r Q2 := by
  cases r with
  | ok a M' => exact fun ι' H' b hp R rr => k ι' H' a M' b hp R rr (PostS.mono hp h)
  | ex _ _ => exact (h : False).elim
  | bad => exact (h : False).elim
def SE (X : Cx) (e : Expr) (m : VM.EM) : Prop := ∃ te, PE X e te ∧ ∀ ι M H σ τ Q, Rel X.K ι M H → RSt ι σ τ → Post RV X.K ι (m σ M) Q → te τ H Q
abbrev rB : List Addr → Bool → Bool → Prop := fun _ a b => a = b
def STt (X : Cx) (e : Expr) (m : VM.TM) : Prop := ∃ te, PT X e te ∧ ∀ ι M H σ τ Q, Rel X.K ι M H → RSt ι σ τ → Post rB X.K ι (m σ M) Q → te τ H Q
def SW (X : Cx) (e : Expr) (m : VM.TM) : Prop := ∃ te, PW X e te ∧ ∀ ι M H σ τ Q, Rel X.K ι M H → RSt ι σ τ → Post rB X.K ι (m σ M) Q → te τ H Q
def SA (X : Cx) (es : List Expr) (m : VM.AM) : Prop := ∃ te, PA X es te ∧ ∀ ι M H σ τ Q, Rel X.K ι M H → RSt ι σ τ → Post RVs X.K ι (m σ M) Q → te τ H Q
def SG (X : Cx) (tg : Expr) (m : VM.GM) : Prop := ∃ g, PG X tg g ∧ ∀ ι M H σ τ w v Q, Rel X.K ι M H → RSt ι σ τ → RV ι w v → Post RSt X.K ι (m w σ M) Q → g v τ H Q
def SGs (X : Cx) (ts : List Expr) (ms : List VM.GM) : Prop := ts.length = ms.length ∧ ∃ g, PGs X ts g ∧ ∀ ι M H σ τ ws vs Q, Rel X.K ι M H → RSt ι σ τ → RVs ι ws vs → Post RSt X.K ι (VM.gEach ms ws σ M) Q → g vs τ H Q
def SS (X : Cx) (st : Stmt) (m : VM.SM) : Prop := ∃ t, PS X st t ∧ ∀ ι M H σ τ D, Rel X.K ι M H → RSt ι σ τ → PostS X.K ι (m σ M) D → t D τ H
def SSs (X : Cx) (st : List Stmt) (m : VM.SM) : Prop := ∃ t, PSs X st t ∧ ∀ ι M H σ τ D, Rel X.K ι M H → RSt ι σ τ → PostS X.K ι (m σ M) D → t D τ H
def SOp (X : Cx) (f : Value → Value → Sem Value) (m : VM.OpM) : Prop := ∃ r, OpR X f r ∧ ∀ ι M H x y v u Q, Rel X.K ι M H → RV ι x v → RV ι y u → Post RV X.K ι (m x y M) Q → r v u H Q
def SC (X : Cx) (f : Value) (m : VM.CM) : Prop := ∃ r, CallR X f r ∧ ∀ ι M H ws vs Q, Rel X.K ι M H → RVs ι ws vs → Post RV X.K ι (m ws M) Q → r vs H Q
section
variable {X : Cx}
theorem se_var (i : Nat) {x : Str} {pos : Pos} (hN : X.N[i]? = some x := by rfl) (hv : Vis X.env.scope x := by first | exact Or.inl rfl | exact Or.inr (Or.inl rfl) | exact Or.inr (Or.inr rfl)) (hd : (x == ("__debug__" : Str)) = false := by decide +kernel)
    (hcd : (x == ("__classdict__" : Str)) = false := by decide +kernel) : SE X (.Name x pos) (VM.eVar i) := by
  refine ⟨tVar i, pe_var hN hv hd hcd, fun ι M H σ τ Q R S h => ?_⟩
  unfold VM.eVar at h
  cases e : σ[i]? with
  | none => rw [e] at h; exact (h : False).elim
  | some o =>
    cases o with
    | none => rw [e] at h; exact (h : False).elim
    | some w =>
      rw [e] at h
      obtain ⟨q, hq, v, rfl, rv⟩ := Paired.at S e
      exact ⟨v, hq, Post.ok h R rv⟩
theorem se_int {i : Int} {j pos} : SE X (.Constant (.int i) j pos) (VM.eC (.int i)) := ⟨_, pe_int, fun ι M H σ τ Q R S h => Post.ok (b := V.int i) h R rfl⟩
theorem se_bl {b : Bool} {j pos} : SE X (.Constant (.bool b) j pos) (VM.eC (.bl b)) := ⟨_, pe_bl, fun ι M H σ τ Q R S h => Post.ok (b := V.bl b) h R rfl⟩
theorem se_str {x : Str} (cs : List Nat) {j pos} (hx : x = txt cs := by first | rfl | decide +kernel) : SE X (.Constant (.str x) j pos) (VM.eC (.str cs)) := by
  subst hx
  exact ⟨_, pe_str, fun ι M H σ τ Q R S h => Post.ok (b := V.str (txt cs)) h R rfl⟩
theorem sa_nil : SA X [] VM.aNil := ⟨_, pa_nil, fun ι M H σ τ Q R S h => Post.ok (b := []) h R .nil⟩
theorem sa_cons {e : Expr} {es : List Expr} {m : VM.EM} {n : VM.AM} (ha : SE X e m) (hr : SA X es n) (hs : starEach (e :: es) X.env = (false, eval e X.env) :: starEach es X.env := by rfl) : SA X (e :: es) (VM.aCons m n) := by
  obtain ⟨te, pe, ke⟩ := ha
  obtain ⟨ta, pa, ka⟩ := hr
  refine ⟨_, pa_cons pe pa hs, fun ι M H σ τ Q R S h => ?_⟩
  refine ke ι M H σ τ _ R S (Post.seq h fun ι1 H1 x M1 u p1 R1 r1 h1 => ?_)
  refine ka ι1 M1 H1 σ τ _ R1 (S.mono p1) (Post.seq h1 fun ι2 H2 xs M2 us p2 R2 r2 h2 => ?_)
  exact Post.ok h2 R2 (.cons (r1.mono p2) r2)
theorem newL_post {K : Fg} {ι : List Addr} {M : VM.Mem} {H : Hp} {ws : List VM.W} {vs : List V} {Q : V → Hp → Prop} (R : Rel K ι M H) (r : RVs ι ws vs) (h : Post RV K ι (VM.newL ws M) Q) :
    vs.length ≤ sizeLine ∧ ∀ p, H p = none → Q (.ref p) (upd H p (.lst vs)) := by
  unfold VM.newL at h
  by_cases hl : ws.length ≤ VM.lim
  · rw [if_pos hl] at h
    refine ⟨by rw [← Paired.len r]; exact hl, fun p hp => ?_⟩
    refine h (ι ++ [p]) _ _ ⟨[p], rfl⟩ (R.new hp fun ι' pre => ⟨vs, upd_same, r.mono pre⟩) ⟨p, ?_, rfl⟩
    rw [← R.len]; simp
  · rw [if_neg hl] at h; exact (h : False).elim
theorem newT_post {K : Fg} {ι : List Addr} {M : VM.Mem} {H : Hp} {ws : List VM.W} {vs : List V} {Q : V → Hp → Prop} (R : Rel K ι M H) (r : RVs ι ws vs) (h : Post RV K ι (VM.newT ws M) Q) :
    vs.length ≤ sizeLine ∧ ∀ p, H p = none → Q (.ref p) (upd H p (.tup vs)) := by
  unfold VM.newT at h
  by_cases hl : ws.length ≤ VM.lim
  · rw [if_pos hl] at h
    refine ⟨by rw [← Paired.len r]; exact hl, fun p hp => ?_⟩
    refine h (ι ++ [p]) _ _ ⟨[p], rfl⟩ (R.new hp fun ι' pre => ⟨vs, upd_same, r.mono pre⟩) ⟨p, ?_, rfl⟩
    rw [← R.len]; simp
  · rw [if_neg hl] at h; exact (h : False).elim
theorem se_lst {es : List Expr} {n : VM.AM} {pos} (ha : SA X es n) : SE X (.List es pos) (VM.eLst n) := by
  obtain ⟨ta, pa, ka⟩ := ha
  refine ⟨_, pe_lst pa, fun ι M H σ τ Q R S h => ?_⟩
  exact ka ι M H σ τ _ R S (Post.seq h fun ι1 H1 x M1 u p1 R1 r1 h1 => newL_post R1 r1 h1)
theorem se_tup {es : List Expr} {n : VM.AM} {x1 pos} (ha : SA X es n) : SE X (.Tuple es x1 pos) (VM.eTup n) := by
  obtain ⟨ta, pa, ka⟩ := ha
  refine ⟨_, pe_tup pa, fun ι M H σ τ Q R S h => ?_⟩
  exact ka ι M H σ τ _ R S (Post.seq h fun ι1 H1 x M1 u p1 R1 r1 h1 => newT_post R1 r1 h1)
theorem se_op {op : Operator} {a b : Expr} {f : VM.OpM} {m n : VM.EM} {pos} (ho : SOp X (binaryOp op) f) (ha : SE X a m) (hb : SE X b n) : SE X (.BinOp a op b pos) (VM.eOp f m n) := by
  obtain ⟨r, po, ko⟩ := ho
  obtain ⟨ta, pa, ka⟩ := ha
  obtain ⟨tb, pb, kb⟩ := hb
  refine ⟨_, pe_op po pa pb, fun ι M H σ τ Q R S h => ?_⟩
  refine ka ι M H σ τ _ R S (Post.seq h fun ι1 H1 x M1 u p1 R1 r1 h1 => ?_)
  refine kb ι1 M1 H1 σ τ _ R1 (S.mono p1) (Post.seq h1 fun ι2 H2 y M2 v p2 R2 r2 h2 => ?_)
  exact ko ι2 M2 H2 x y u v Q R2 (r1.mono p2) r2 h2
theorem se_cmp {op : CmpOp} {a b : Expr} {f : VM.OpM} {m n : VM.EM} {pos} (ho : SOp X (compareOp op) f) (ha : SE X a m) (hb : SE X b n) (hm : behindInMarks op b = false) : SE X (.Compare a [op] [b] pos) (VM.eOp f m n) := by
  obtain ⟨r, po, ko⟩ := ho
  obtain ⟨ta, pa, ka⟩ := ha
  obtain ⟨tb, pb, kb⟩ := hb
  refine ⟨_, pe_cmpR po pa pb hm, fun ι M H σ τ Q R S h => ?_⟩
  refine ka ι M H σ τ _ R S (Post.seq h fun ι1 H1 x M1 u p1 R1 r1 h1 => ?_)
  refine kb ι1 M1 H1 σ τ _ R1 (S.mono p1) (Post.seq h1 fun ι2 H2 y M2 v p2 R2 r2 h2 => ?_)
  exact ko ι2 M2 H2 x y u v Q R2 (r1.mono p2) r2 h2
theorem st_cmp {op : CmpOp} {a b : Expr} {f : VM.OpM} {m n : VM.EM} {pos} (ho : SOp X (compareOp op) f) (ha : SE X a m) (hb : SE X b n) (hm : behindInMarks op b = false) : STt X (.Compare a [op] [b] pos) (VM.tB (VM.eOp f m n)) := by
  obtain ⟨r, po, ko⟩ := ho
  obtain ⟨ta, pa, ka⟩ := ha
  obtain ⟨tb, pb, kb⟩ := hb
  refine ⟨_, pt_cmpR po pa pb hm, fun ι M H σ τ Q R S h => ?_⟩
  have h0 : Post rB X.K ι ((m σ M).bind fun x M1 => (n σ M1).bind fun y M2 => (f x y M2).bind fun z M3 => match z with | .bl b => .ok b M3 | _ => .bad) Q := by
    unfold VM.tB VM.eOp at h
    revert h
    cases m σ M with
    | ok x M1 =>
      show Post rB X.K ι (((n σ M1).bind fun y M2 => f x y M2).bind _) Q → Post rB X.K ι ((n σ M1).bind _) Q
      cases n σ M1 with
      | ok y M2 => exact fun h => h
      | ex _ _ => exact fun h => h
      | bad => exact fun h => h
    | ex _ _ => exact fun h => h
    | bad => exact fun h => h
  refine ka ι M H σ τ _ R S (Post.seq h0 fun ι1 H1 x M1 u p1 R1 r1 h1 => ?_)
  refine kb ι1 M1 H1 σ τ _ R1 (S.mono p1) (Post.seq h1 fun ι2 H2 y M2 v p2 R2 r2 h2 => ?_)
  refine ko ι2 M2 H2 x y u v _ R2 (r1.mono p2) r2 (Post.seq h2 fun ι3 H3 z M3 t p3 R3 r3 h3 => ?_)
  cases z with
  | bl b => cases r3; exact ⟨b, rfl, Post.ok h3 R3 rfl⟩
  | non => exact (h3 : False).elim
  | int _ => exact (h3 : False).elim
  | str _ => exact (h3 : False).elim
  | ref _ => exact (h3 : False).elim
end
end SV
end
section
set_option Elab.async false
set_option linter.all false
set_option autoImplicit false
set_option maxRecDepth 100000
set_option maxHeartbeats 4000000
namespace SV
open PySem L2
section
variable {X : Cx}
theorem so_int {f : Value → Value → Sem Value} {g : Int → Int → V} {m : VM.OpM} {gw : Int → Int → VM.W} (h : OpR X f (rI0 g)) (hr : ∀ ι i j, RV ι (gw i j) (g i j)) (hm : ∀ x y M, (∃ i j, x = VM.W.int i ∧ y = VM.W.int j ∧ m x y M = .ok (gw i j) M) ∨ m x y M = .bad) : SOp X f m := by
  refine ⟨_, h, fun ι M H x y v u Q R rx ry q => ?_⟩
  rcases hm x y M with ⟨i, j, rfl, rfl, e⟩ | e
  · rw [e] at q
    exact ⟨i, j, rx, ry, Post.ok q R (hr ι i j)⟩
  · rw [e] at q; exact (q : False).elim
theorem so_sub : SOp X (binaryOp .Sub) VM.oSub := so_int op_sub (gw := fun i j => .int (i - j)) (fun _ _ _ => rfl) fun x y M => by
  cases x <;> cases y <;> first | exact .inl ⟨_, _, rfl, rfl, rfl⟩ | exact .inr rfl
theorem so_lt : SOp X (compareOp .Lt) VM.oLt := so_int op_lt (gw := fun i j => .bl (decide (i < j))) (fun _ _ _ => rfl) fun x y M => by
  cases x <;> cases y <;> first | exact .inl ⟨_, _, rfl, rfl, rfl⟩ | exact .inr rfl
theorem so_le : SOp X (compareOp .LtE) VM.oLe := so_int op_le (gw := fun i j => .bl (decide (i ≤ j))) (fun _ _ _ => rfl) fun x y M => by
  cases x <;> cases y <;> first | exact .inl ⟨_, _, rfl, rfl, rfl⟩ | exact .inr rfl
theorem so_gt : SOp X (compareOp .Gt) VM.oGt := so_int op_gt (gw := fun i j => .bl (decide (j < i))) (fun _ _ _ => rfl) fun x y M => by
  cases x <;> cases y <;> first | exact .inl ⟨_, _, rfl, rfl, rfl⟩ | exact .inr rfl
theorem so_ge : SOp X (compareOp .GtE) VM.oGe := so_int op_ge (gw := fun i j => .bl (decide (j ≤ i))) (fun _ _ _ => rfl) fun x y M => by
  cases x <;> cases y <;> first | exact .inl ⟨_, _, rfl, rfl, rfl⟩ | exact .inr rfl
theorem so_intC {f : Value → Value → Sem Value} {C : Int → Int → Prop} {g : Int → Int → V} {m : VM.OpM} {gw : Int → Int → VM.W} (h : OpR X f (rI C g)) (hr : ∀ ι i j, RV ι (gw i j) (g i j)) (hm : ∀ x y M, (∃ i j, x = VM.W.int i ∧ y = VM.W.int j ∧ C i j ∧ m x y M = .ok (gw i j) M) ∨ m x y M = .bad) : SOp X f m := by
  refine ⟨_, h, fun ι M H x y v u Q R rx ry q => ?_⟩
  rcases hm x y M with ⟨i, j, rfl, rfl, c, e⟩ | e
  · rw [e] at q
    exact ⟨i, j, rx, ry, c, Post.ok q R (hr ι i j)⟩
  · rw [e] at q; exact (q : False).elim
theorem so_mul : SOp X (binaryOp .Mult) VM.oMul := so_intC op_mul (gw := fun i j => .int (i * j)) (fun _ _ _ => rfl) fun x y M => by
  cases x <;> cases y <;> first
    | exact .inr rfl
    | (rename_i i j
       by_cases c : i.natAbs < VM.two64 ∨ j.natAbs < VM.two64
       · exact .inl ⟨i, j, rfl, rfl, by unfold CMul; unfold VM.two64 at c; omega, if_pos c⟩
       · exact .inr (if_neg c))
theorem so_div : SOp X (binaryOp .FloorDiv) VM.oDiv := so_intC op_fdiv (gw := fun i j => .int (i / j)) (fun _ _ _ => rfl) fun x y M => by
  cases x <;> cases y <;> first
    | exact .inr rfl
    | (rename_i i j
       by_cases c : 0 < j ∧ j.natAbs < 1073741824
       · exact .inl ⟨i, j, rfl, rfl, by unfold CDiv; omega, if_pos c⟩
       · exact .inr (if_neg c))
theorem so_mod : SOp X (binaryOp .Mod) VM.oMod := so_intC op_mod (gw := fun i j => .int (i % j)) (fun _ _ _ => rfl) fun x y M => by
  cases x <;> cases y <;> first
    | exact .inr rfl
    | (rename_i i j
       by_cases c : 0 < j
       · exact .inl ⟨i, j, rfl, rfl, c, if_pos c⟩
       · exact .inr (if_neg c))
theorem so_add : SOp X (binaryOp .Add) VM.oAdd := by
  refine ⟨_, OpR.or op_add op_cat, fun ι M H x y v u Q R rx ry q => ?_⟩
  cases x with
  | int i =>
    cases y with
    | int j => cases rx; cases ry; exact .inl ⟨i, j, rfl, rfl, Post.ok (b := V.int (i + j)) q R rfl⟩
    | _ => exact (q : False).elim
  | ref a =>
    cases y with
    | ref b =>
      have q' : Post RV X.K ι (match VM.mutOf M (.ref a), VM.mutOf M (.ref b) with | some (_, xs), some (_, ys) => VM.newL (xs ++ ys) M | _, _ => .bad) Q := q
      cases ea : VM.mutOf M (.ref a) with
      | none => rw [ea] at q'; exact (q' : False).elim
      | some pa =>
        cases eb : VM.mutOf M (.ref b) with
        | none => rw [ea, eb] at q'; exact (q' : False).elim
        | some pb =>
          obtain ⟨a', xs⟩ := pa
          obtain ⟨b', ys⟩ := pb
          rw [ea, eb] at q'
          obtain ⟨p, vs, _, _, _, rfl, h1, r1⟩ := R.mutOf ea rx
          obtain ⟨p2, us, _, _, _, rfl, h2, r2⟩ := R.mutOf eb ry
          have r := Paired.app r1 r2
          obtain ⟨z, k⟩ := newL_post R r q'
          exact .inr ⟨p, p2, vs, us, rfl, rfl, h1, h2, by rw [List.length_append] at z; exact z, k⟩
    | _ => exact (q : False).elim
  | _ => exact (q : False).elim
theorem RV.scal {ι : List Addr} {x y : VM.W} {v u : V} (rx : RV ι x v) (ry : RV ι y u) (h : VM.scal x y = true) : L2.scal v u = true ∧ decide (v = u) = decide (x = y) := by
  cases x with
  | ref a => cases y <;> exact absurd h Bool.false_ne_true
  | non =>
    cases rx
    cases y with
    | ref a => exact absurd h Bool.false_ne_true
    | non => cases ry; exact ⟨rfl, rfl⟩
    | bl j => cases ry; exact ⟨rfl, rfl⟩
    | int j => cases ry; exact ⟨rfl, rfl⟩
    | str j => cases ry; exact ⟨rfl, rfl⟩
  | bl i =>
    cases rx
    cases y with
    | ref a => exact absurd h Bool.false_ne_true
    | non => cases ry; exact ⟨rfl, rfl⟩
    | bl j => cases ry; exact ⟨rfl, by simp⟩
    | int j => exact absurd h Bool.false_ne_true
    | str j => cases ry; exact ⟨rfl, rfl⟩
  | int i =>
    cases rx
    cases y with
    | ref a => exact absurd h Bool.false_ne_true
    | non => cases ry; exact ⟨rfl, rfl⟩
    | bl j => exact absurd h Bool.false_ne_true
    | int j => cases ry; exact ⟨rfl, by simp⟩
    | str j => cases ry; exact ⟨rfl, rfl⟩
  | str i =>
    cases rx
    cases y with
    | ref a => exact absurd h Bool.false_ne_true
    | non => cases ry; exact ⟨rfl, rfl⟩
    | bl j => cases ry; exact ⟨rfl, rfl⟩
    | int j => cases ry; exact ⟨rfl, rfl⟩
    | str j =>
      cases ry
      refine ⟨rfl, ?_⟩
      by_cases e : i = j
      · subst e; simp
      · have h1 : ¬ (V.str (txt i) = V.str (txt j)) := fun z => e (txt_inj (by injection z))
        have h2 : ¬ (VM.W.str i = VM.W.str j) := fun z => e (by injection z)
        rw [decide_eq_false h1, decide_eq_false h2]
theorem RV.flat {ι : List Addr} {x : VM.W} {v : V} (r : RV ι x v) (h : VM.flat x = true) : flatV v = true := by
  cases x <;> first | exact absurd h Bool.false_ne_true | (cases r; rfl)
theorem txt_beq (i j : List Nat) : (txt i == txt j) = (i == j) := by
  by_cases e : i = j
  · subst e; simp
  · have h : ¬ txt i = txt j := fun z => e (txt_inj z)
    rw [beq_eq_false_iff_ne.mpr h, beq_eq_false_iff_ne.mpr e]
theorem RV.eqW {ι : List Addr} {x y : VM.W} {v u : V} (rx : RV ι x v) (ry : RV ι y u) (hx : VM.flat x = true) (hy : VM.flat y = true) : eqV v u = VM.eqW x y := by
  cases x <;> cases y <;> first
    | exact absurd hx Bool.false_ne_true
    | exact absurd hy Bool.false_ne_true
    | (cases rx; cases ry; first | rfl | exact txt_beq _ _)
theorem RVs.flat {ι : List Addr} : ∀ {xs : List VM.W} {vs : List V}, RVs ι xs vs → xs.all VM.flat = true → vs.all flatV = true
  | _, _, .nil, _ => rfl
  | _, _, .cons r t, h => by
    rw [List.all_cons, Bool.and_eq_true] at h ⊢
    exact ⟨r.flat h.1, RVs.flat t h.2⟩
def eqVs : List V → List V → Bool
  | [], [] => true
  | x :: xs, y :: ys => eqV x y && eqVs xs ys
  | _, _ => false
theorem RVs.eqWs {ι : List Addr} : ∀ {xs ys : List VM.W} {vs us : List V}, RVs ι xs vs → RVs ι ys us → xs.all VM.flat = true → ys.all VM.flat = true → eqVs vs us = VM.eqWs xs ys
  | _, _, _, _, .nil, .nil, _, _ => rfl
  | _, _, _, _, .nil, .cons _ _, _, _ => rfl
  | _, _, _, _, .cons _ _, .nil, _, _ => rfl
  | _, _, _, _, .cons r t, .cons r' t', h, h' => by
    rw [List.all_cons, Bool.and_eq_true] at h h'
    show (eqV _ _ && eqVs _ _) = (VM.eqW _ _ && VM.eqWs _ _)
    rw [RV.eqW r r' h.1 h'.1, RVs.eqWs t t' h.2 h'.2]
theorem eqVs_range : ∀ {vs us : List V}, vs.length = us.length → ((List.range vs.length).all fun j => eqV (vs.getD j .non) (us.getD j .non)) = eqVs vs us
  | [], [], _ => rfl
  | [], _ :: _, h => by simp at h
  | _ :: _, [], h => by simp at h
  | x :: xs, y :: ys, h => by
    have ih := @eqVs_range xs ys (by simpa using h)
    rw [List.length_cons, List.range_succ_eq_map, List.all_cons, List.all_map]
    show (eqV x y && _) = (eqV x y && eqVs xs ys)
    rw [← ih]
    rfl
def rEqL (K : Fg) (neg : Bool) : R2 := fun x y H Q => ∃ p q xs ys, x = .ref p ∧ y = .ref q ∧ SqL K H p xs ∧ SqL K H q ys ∧
  ((xs.length ≠ ys.length ∧ Q (.bl (if neg then true else false)) H) ∨ (xs.length = ys.length ∧ xs.all flatV = true ∧ ys.all flatV = true ∧ Q (.bl (if neg then !eqVs xs ys else eqVs xs ys)) H))
theorem vals_getD {xs : List V} {its : List Value} (r : Vals xs its) {j : Nat} (h : j < its.length) : RelV (xs.getD j .non) its[j] := by
  have hx : j < xs.length := by rw [r.length]; exact h
  obtain ⟨u, e1, e2⟩ := r.get (i := j) (x := xs[j]) (by simp [hx])
  have e3 : its[j] = u := by rw [List.getElem?_eq_getElem h] at e1; exact Option.some.inj e1
  have e4 : xs.getD j .non = xs[j] := by simp [List.getD, hx]
  rw [e3, e4]; exact e2
theorem all_getD {xs : List V} {j : Nat} (h : xs.all flatV = true) (hj : j < xs.length) : flatV (xs.getD j .non) = true := by
  have e4 : xs.getD j .non = xs[j] := by simp [List.getD, hj]
  rw [e4]
  exact List.all_eq_true.mp h _ (List.getElem_mem hj)
theorem op_eq_list (hu : X.A.units < cLine) : OpR X (compareOp .Eq) (rEqL X.K false) := by
  intro pins s σ H x y v u Q I rx ry h
  obtain ⟨p, q, xs, ys, rfl, rfl, h1, h2, hq⟩ := h
  cases rx; cases ry
  obtain ⟨its, r, pl, hz⟩ := I.list h1
  obtain ⟨its2, r2, pl2, hz2⟩ := I.list h2
  have l1 := r.length
  have l2 := r2.length
  rcases hq with ⟨hl, q⟩ | ⟨hl, f1, f2, q⟩
  · exact SeqAt.eq_list_lengthsAt pl.isList pl2.isList (by simp only [List.size_toArray, bne_iff_ne]; omega) hu ⟨.bl false, H, I, rfl, q⟩
  · refine SeqAt.eq_listAt (e := fun j => eqV (xs.getD j .non) (ys.getD j .non)) pl.isList pl2.isList (by simp only [List.size_toArray]; omega) hu (fun j h1 h2 => ?_) ⟨.bl (eqVs xs ys), H, I, ?_, q⟩
    · have h1' : j < its.length := by simpa using h1
      have h2' : j < its2.length := by simpa using h2
      have e1 : its.toArray[j] = its[j] := by simp
      have e2 : its2.toArray[j] = its2[j] := by simp
      rw [e1, e2]
      exact eqAt_V (vals_getD r h1') (vals_getD r2 h2') (all_getD f1 (by omega)) (all_getD f2 (by omega))
    · show Value.bool _ = Value.bool _
      rw [List.size_toArray, ← l1, eqVs_range hl]
theorem op_ne_list (hu : X.A.units < cLine) : OpR X (compareOp .NotEq) (rEqL X.K true) := by
  intro pins s σ H x y v u Q I rx ry h
  obtain ⟨p, q, xs, ys, rfl, rfl, h1, h2, hq⟩ := h
  cases rx; cases ry
  obtain ⟨its, r, pl, hz⟩ := I.list h1
  obtain ⟨its2, r2, pl2, hz2⟩ := I.list h2
  have l1 := r.length
  have l2 := r2.length
  rcases hq with ⟨hl, q⟩ | ⟨hl, f1, f2, q⟩
  · exact SeqAt.RcNeAt.lists_lengths pl.isList pl2.isList (by simp only [List.size_toArray, bne_iff_ne]; omega) hu _ _ _ _ ⟨.bl true, H, I, rfl, q⟩
  · refine SeqAt.RcNeAt.lists (e := fun j => eqV (xs.getD j .non) (ys.getD j .non)) pl.isList pl2.isList (by simp only [List.size_toArray]; omega) hu (fun j h1 h2 => ?_) _ _ _ _ ⟨.bl (!eqVs xs ys), H, I, ?_, q⟩
    · have h1' : j < its.length := by simpa using h1
      have h2' : j < its2.length := by simpa using h2
      have e1 : its.toArray[j] = its[j] := by simp
      have e2 : its2.toArray[j] = its2[j] := by simp
      rw [e1, e2]
      exact eqAt_V (vals_getD r h1') (vals_getD r2 h2') (all_getD f1 (by omega)) (all_getD f2 (by omega))
    · show Value.bool _ = Value.bool _
      rw [List.size_toArray, ← l1, eqVs_range hl]
theorem eqVs_len : ∀ {vs us : List V}, vs.length ≠ us.length → eqVs vs us = false
  | [], [], h => absurd rfl h
  | [], _ :: _, _ => rfl
  | _ :: _, [], _ => rfl
  | x :: xs, y :: ys, h => by
    show (eqV x y && eqVs xs ys) = false
    rw [eqVs_len (by simpa using h), Bool.and_false]
def rEqT (K : Fg) (neg : Bool) : R2 := fun x y H Q => ∃ p q xs ys b, x = .ref p ∧ y = .ref q ∧ H p = some (.tup xs) ∧ H q = some (.tup ys) ∧
  ((xs.all flatV = true ∧ ys.all flatV = true ∧ b = eqVs xs ys) ∨ ((xs.length = 0 ∨ ys.length = 0) ∧ b = decide (xs.length = ys.length))) ∧ Q (.bl (if neg then !b else b)) H
theorem Inv.tupI {pins : List (Addr × Obj)} {σ : L2.St} {H : Hp} {s : Shared} {p : Addr} {xs : List V} (I : Inv X pins σ H s) (h : H p = some (.tup xs)) : ∃ its : List Value, Vals xs its ∧ s.heap.IsTuple p its.toArray := by
  obtain ⟨_, its, r, o, h1, h2, h3⟩ := I.hok p _ h
  exact ⟨its, r, o, h1, h2, h3⟩
theorem tup_core {pins : List (Addr × Obj)} {σ : L2.St} {H : Hp} {s : Shared} {A : Around} {xs ys : List V} {its its2 : List Value} {b : Bool} (r : Vals xs its) (r2 : Vals ys its2)
    (hq : (xs.all flatV = true ∧ ys.all flatV = true ∧ b = eqVs xs ys) ∨ ((xs.length = 0 ∨ ys.length = 0) ∧ b = decide (xs.length = ys.length))) :
    (∀ j (h1 : j < its.toArray.size) (h2 : j < its2.toArray.size), SeqAt.EqAt A s its.toArray[j] its2.toArray[j] (eqV (xs.getD j .non) (ys.getD j .non))) ∧
    ((List.range (min its.toArray.size its2.toArray.size)).all (fun j => eqV (xs.getD j .non) (ys.getD j .non)) && its.toArray.size == its2.toArray.size) = b := by
  have l1 := r.length
  have l2 := r2.length
  refine ⟨fun j h1 h2 => ?_, ?_⟩
  · have h1' : j < its.length := by simpa using h1
    have h2' : j < its2.length := by simpa using h2
    have e1 : its.toArray[j] = its[j] := by simp
    have e2 : its2.toArray[j] = its2[j] := by simp
    rw [e1, e2]
    rcases hq with ⟨f1, f2, q⟩ | ⟨hl, q⟩
    · exact eqAt_V (vals_getD r h1') (vals_getD r2 h2') (all_getD f1 (by omega)) (all_getD f2 (by omega))
    · omega
  · rw [List.size_toArray, List.size_toArray, ← l1, ← l2]
    rcases hq with ⟨f1, f2, q⟩ | ⟨hl, q⟩
    · by_cases hl : xs.length = ys.length
      · rw [← hl, Nat.min_self, eqVs_range hl, beq_self_eq_true, Bool.and_true, q]
      · rw [beq_eq_false_iff_ne.mpr hl, Bool.and_false, q, eqVs_len hl]
    · have hm : min xs.length ys.length = 0 := by omega
      rw [hm, q]
      show (true && _) = _
      rw [Bool.true_and]
      by_cases hl : xs.length = ys.length
      · rw [decide_eq_true hl, hl, beq_self_eq_true]
      · rw [decide_eq_false hl, beq_eq_false_iff_ne.mpr hl]
theorem op_eq_tup (hu : X.A.units < cLine) : OpR X (compareOp .Eq) (rEqT X.K false) := by
  intro pins s σ H x y v u Q I rx ry h
  obtain ⟨p, q, xs, ys, b, rfl, rfl, h1, h2, hq, q⟩ := h
  cases rx; cases ry
  obtain ⟨its, r, pl⟩ := Inv.tupI I h1
  obtain ⟨its2, r2, pl2⟩ := Inv.tupI I h2
  obtain ⟨c1, c2⟩ := tup_core (pins := pins) (σ := σ) (H := H) (s := s) (A := X.A.in1) r r2 hq
  refine SeqAt.eq_tupleAt pl pl2 hu c1 ?_
  rw [c2]
  exact ⟨.bl b, H, I, rfl, q⟩
theorem op_ne_tup (hu : X.A.units < cLine) : OpR X (compareOp .NotEq) (rEqT X.K true) := by
  intro pins s σ H x y v u Q I rx ry h
  obtain ⟨p, q, xs, ys, b, rfl, rfl, h1, h2, hq, q⟩ := h
  cases rx; cases ry
  obtain ⟨its, r, pl⟩ := Inv.tupI I h1
  obtain ⟨its2, r2, pl2⟩ := Inv.tupI I h2
  obtain ⟨c1, c2⟩ := tup_core (pins := pins) (σ := σ) (H := H) (s := s) (A := X.A.in1) r r2 hq
  refine SeqAt.RcNeAt.tuples pl pl2 hu c1 _ _ _ _ ?_
  rw [c2]
  exact ⟨.bl (!b), H, I, rfl, q⟩
theorem eqO_post {ι : List Addr} {M : VM.Mem} {H : Hp} {x y : VM.W} {v u : V} {b : Bool} {neg : Bool} {Q : VK} (R : Rel X.K ι M H) (rx : RV ι x v) (ry : RV ι y u) (e : VM.eqO M x y = some b) (q : Q (.bl (if neg then !b else b)) H) :
    ((if neg then L2.rNe v u H Q else L2.rEq v u H Q) ∨ rEqL X.K neg v u H Q) ∨ rEqT X.K neg v u H Q := by
  unfold VM.eqO at e
  by_cases hs : VM.scal x y = true
  · rw [if_pos hs] at e
    obtain ⟨s1, s2⟩ := RV.scal rx ry hs
    have e' : decide (x = y) = b := Option.some.inj e
    refine .inl (.inl ?_)
    cases neg with
    | true => exact ⟨s1, by rw [s2, e']; exact q⟩
    | false => exact ⟨s1, by rw [s2, e']; exact q⟩
  · rw [if_neg hs] at e
    have tupCase : (match VM.tupOf M x, VM.tupOf M y with | some xs, some ys => VM.eqTup xs ys | _, _ => none) = some b → rEqT X.K neg v u H Q := fun e => by
      cases ea : VM.tupOf M x with
      | none => rw [ea] at e; cases e
      | some xs =>
        cases eb : VM.tupOf M y with
        | none => rw [ea, eb] at e; cases e
        | some ys =>
          rw [ea, eb] at e
          obtain ⟨p, vs, rfl, h1, r1⟩ := R.tupOf ea rx
          obtain ⟨p2, us, rfl, h2, r2⟩ := R.tupOf eb ry
          have l1 := Paired.len r1
          have l2 := Paired.len r2
          have e' : (if (xs.all VM.flat && ys.all VM.flat) = true then some (VM.eqWs xs ys) else if xs.length = 0 ∨ ys.length = 0 then some (decide (xs.length = ys.length)) else none) = some b := e
          refine ⟨p, p2, vs, us, b, rfl, rfl, h1, h2, ?_, q⟩
          by_cases hf : (xs.all VM.flat && ys.all VM.flat) = true
          · rw [if_pos hf] at e'
            rw [Bool.and_eq_true] at hf
            have e2 : VM.eqWs xs ys = b := Option.some.inj e'
            exact .inl ⟨RVs.flat r1 hf.1, RVs.flat r2 hf.2, by rw [RVs.eqWs r1 r2 hf.1 hf.2, e2]⟩
          · rw [if_neg hf] at e'
            by_cases hz : xs.length = 0 ∨ ys.length = 0
            · rw [if_pos hz] at e'
              have e2 : decide (xs.length = ys.length) = b := Option.some.inj e'
              exact .inr ⟨by omega, by rw [← e2, l1, l2]⟩
            · rw [if_neg hz] at e'; cases e'
    cases ea : VM.lstOf M x with
    | none => rw [ea] at e; exact .inr (tupCase e)
    | some xs =>
      cases eb : VM.lstOf M y with
      | none => rw [ea, eb] at e; exact .inr (tupCase e)
      | some ys =>
        refine .inl (.inr ?_)
        rw [ea, eb] at e
        obtain ⟨p, vs, rfl, h1, r1⟩ := R.lstOf ea rx
        obtain ⟨p2, us, rfl, h2, r2⟩ := R.lstOf eb ry
        have l1 := Paired.len r1
        have l2 := Paired.len r2
        have e' : (if xs.length ≠ ys.length then some false else if (xs.all VM.flat && ys.all VM.flat) = true then some (VM.eqWs xs ys) else none) = some b := e
        by_cases hl : xs.length ≠ ys.length
        · rw [if_pos hl] at e'
          have e2 : false = b := Option.some.inj e'
          subst e2
          refine ⟨p, p2, vs, us, rfl, rfl, h1, h2, .inl ⟨by omega, ?_⟩⟩
          cases neg <;> exact q
        · rw [if_neg hl] at e'
          by_cases hf : (xs.all VM.flat && ys.all VM.flat) = true
          · rw [if_pos hf] at e'
            rw [Bool.and_eq_true] at hf
            have e2 : VM.eqWs xs ys = b := Option.some.inj e'
            refine ⟨p, p2, vs, us, rfl, rfl, h1, h2, .inr ⟨by omega, RVs.flat r1 hf.1, RVs.flat r2 hf.2, ?_⟩⟩
            rw [RVs.eqWs r1 r2 hf.1 hf.2, e2]
            exact q
          · rw [if_neg hf] at e'; cases e'
theorem op_eq_non (hu : X.A.units < cLine) : OpR X (compareOp .Eq) (fun x y H Q => ∃ p xs, x = .non ∧ y = .ref p ∧ SqL X.K H p xs ∧ Q (.bl false) H) := by
  intro pins s σ H x y v u Q I rx ry h
  obtain ⟨p, xs, rfl, rfl, h1, q⟩ := h
  cases rx; cases ry
  obtain ⟨its, r, pl, hz⟩ := I.list h1
  exact SeqAt.RcAt.none_list pl.isList hu _ _ _ _ ⟨.bl false, H, I, rfl, q⟩
theorem so_eq (hu : X.A.units < cLine) : SOp X (compareOp .Eq) VM.oEq := by
  refine ⟨_, OpR.or (OpR.or (OpR.or op_eq (op_eq_list hu)) (op_eq_tup hu)) (op_eq_non hu), fun ι M H x y v u Q R rx ry q => ?_⟩
  unfold VM.oEq at q
  cases e : VM.eqO M x y with
  | none =>
    rw [e] at q
    have q2 : Post RV X.K ι (if VM.nonL M x y = true then .ok (.bl false) M else .bad) Q := q
    by_cases hn : VM.nonL M x y = true
    · rw [if_pos hn] at q2
      unfold VM.nonL at hn
      rw [Bool.and_eq_true] at hn
      cases x with
      | non =>
        cases el : VM.lstOf M y with
        | none => rw [el] at hn; cases hn.2
        | some ys =>
          obtain ⟨p, us, rfl, h1, _⟩ := R.lstOf el ry
          cases rx
          exact .inr ⟨p, us, rfl, rfl, h1, Post.ok (b := V.bl false) q2 R rfl⟩
      | bl _ => cases hn.1
      | int _ => cases hn.1
      | str _ => cases hn.1
      | ref _ => cases hn.1
    · rw [if_neg hn] at q2; exact (q2 : False).elim
  | some b =>
    rw [e] at q
    exact .inl (eqO_post (neg := false) R rx ry e (Post.ok (b := V.bl b) q R rfl))
theorem so_ne (hu : X.A.units < cLine) : SOp X (compareOp .NotEq) VM.oNe := by
  refine ⟨_, OpR.or (OpR.or op_ne (op_ne_list hu)) (op_ne_tup hu), fun ι M H x y v u Q R rx ry q => ?_⟩
  unfold VM.oNe at q
  cases e : VM.eqO M x y with
  | none => rw [e] at q; exact (q : False).elim
  | some b =>
    rw [e] at q
    exact eqO_post (neg := true) R rx ry e (Post.ok (b := V.bl (!b)) q R rfl)
theorem inW_of {ι : List Addr} {x : VM.W} {v : V} (rx : RV ι x v) (hx : VM.flat x = true) : ∀ {xs : List VM.W} {vs : List V}, RVs ι xs vs → xs.all VM.flat = true → inV v vs = VM.inW x xs
  | _, _, .nil, _ => rfl
  | _, _, .cons r t, h => by
    rw [List.all_cons, Bool.and_eq_true] at h
    have ih := inW_of rx hx t h.2
    show (eqV _ v || inV v _) = (VM.eqW _ x || VM.inW x _)
    rw [RV.eqW r rx h.1 hx, ih]
theorem so_in : SOp X (compareOp .In) VM.oIn := by
  refine ⟨_, op_in_seq, fun ι M H x y v u Q R rx ry q => ?_⟩
  unfold VM.oIn at q
  cases e : VM.seqOf M y with
  | none => rw [e] at q; exact (q : False).elim
  | some xs =>
    rw [e] at q
    have q' : Post RV X.K ι (if (VM.flat x && xs.all VM.flat) = true then .ok (.bl (VM.inW x xs)) M else .bad) Q := q
    by_cases hf : (VM.flat x && xs.all VM.flat) = true
    · rw [if_pos hf] at q'
      rw [Bool.and_eq_true] at hf
      obtain ⟨p, vs, rfl, h1, r1⟩ := R.seqOf e ry
      refine ⟨p, vs, rfl, h1, rx.flat hf.1, RVs.flat r1 hf.2, ?_⟩
      show Q (.bl (inV v vs)) H
      rw [inW_of rx hf.1 r1 hf.2]
      exact Post.ok (b := V.bl _) q' R rfl
    · rw [if_neg hf] at q'; exact (q' : False).elim
theorem so_notin : SOp X (compareOp .NotIn) VM.oNotIn := by
  refine ⟨_, op_notIn_seq, fun ι M H x y v u Q R rx ry q => ?_⟩
  unfold VM.oNotIn at q
  cases e : VM.seqOf M y with
  | none => rw [e] at q; exact (q : False).elim
  | some xs =>
    rw [e] at q
    have q' : Post RV X.K ι (if (VM.flat x && xs.all VM.flat) = true then .ok (.bl (!VM.inW x xs)) M else .bad) Q := q
    by_cases hf : (VM.flat x && xs.all VM.flat) = true
    · rw [if_pos hf] at q'
      rw [Bool.and_eq_true] at hf
      obtain ⟨p, vs, rfl, h1, r1⟩ := R.seqOf e ry
      refine ⟨p, vs, rfl, h1, rx.flat hf.1, RVs.flat r1 hf.2, ?_⟩
      show Q (.bl (!inV v vs)) H
      rw [inW_of rx hf.1 r1 hf.2]
      exact Post.ok (b := V.bl _) q' R rfl
    · rw [if_neg hf] at q'; exact (q' : False).elim
theorem atI_rel {ι : List Addr} {xs : List VM.W} {vs : List V} (r : RVs ι xs vs) {i : Int} {w : VM.W} (e : VM.atI xs i = some w) : ∃ v, L2.atI vs i = some v ∧ RV ι w v := by
  have hl := Paired.len r
  unfold VM.atI at e
  unfold L2.atI
  have e0 : L2.ixN vs.length i = VM.ixN xs.length i := by rw [← hl]; rfl
  rw [e0]
  cases h : VM.ixN xs.length i with
  | none => rw [h] at e; cases e
  | some j =>
    rw [h] at e
    obtain ⟨v, h1, h2⟩ := Paired.at r (show xs[j]? = some w from e)
    exact ⟨v, h1, h2⟩
theorem se_ix {a b : Expr} {m n : VM.EM} {pos} (ha : SE X a m) (hb : SE X b n) (hs : PlainIx b := by intro _ _; rfl) : SE X (.Subscript a b pos) (VM.eOp VM.oIx m n) := by
  obtain ⟨ta, pa, ka⟩ := ha
  obtain ⟨tb, pb, kb⟩ := hb
  refine ⟨_, pe_ix (ix_list.or ix_tup) pa pb hs, fun ι M H σ τ Q R S h => ?_⟩
  refine ka ι M H σ τ _ R S (Post.seq h fun ι1 H1 x M1 u p1 R1 r1 h1 => ?_)
  refine kb ι1 M1 H1 σ τ _ R1 (S.mono p1) (Post.seq h1 fun ι2 H2 y M2 v p2 R2 r2 h2 => ?_)
  have rx := r1.mono p2
  cases y with
  | int i =>
    cases r2
    have q' : Post RV X.K ι2 (match VM.seqOf M2 x with | some xs => (match VM.atI xs i with | some v => VM.R.ok v M2 | none => .bad) | none => .bad) Q := h2
    cases e : VM.seqOf M2 x with
    | none => rw [e] at q'; exact (q' : False).elim
    | some xs =>
      rw [e] at q'
      have q2 : Post RV X.K ι2 (match VM.atI xs i with | some v => VM.R.ok v M2 | none => .bad) Q := q'
      cases e2 : VM.atI xs i with
      | none => rw [e2] at q2; exact (q2 : False).elim
      | some w =>
        rw [e2] at q2
        obtain ⟨p, vs, rfl, hs', r3⟩ := R2.seqOf e rx
        obtain ⟨v, hv, rv⟩ := atI_rel r3 e2
        rcases hs' with hs' | hs'
        · exact .inl ⟨p, vs, i, v, rfl, rfl, hs', hv, Post.ok q2 R2 rv⟩
        · exact .inr ⟨p, vs, i, v, rfl, rfl, hs', hv, Post.ok q2 R2 rv⟩
  | _ => cases x <;> exact (h2 : False).elim
def SO (X : Cx) (e : Option Expr) (m : VM.PM) : Prop := ∃ t, PO X e t ∧ ∀ ι M H σ τ Q, Rel X.K ι M H → RSt ι σ τ → Post (fun _ (a b : Option Int) => a = b) X.K ι (m σ M) Q → t τ H Q
theorem so_none : SO X none VM.pNone := ⟨_, po_none, fun ι M H σ τ Q R S h => Post.ok (b := Option.none) h R rfl⟩
theorem so_some {e : Expr} {m : VM.EM} (ha : SE X e m) : SO X (some e) (VM.pSome m) := by
  obtain ⟨ta, pa, ka⟩ := ha
  refine ⟨_, po_some pa, fun ι M H σ τ Q R S h => ?_⟩
  refine ka ι M H σ τ _ R S (Post.seq h fun ι1 H1 x M1 u p1 R1 r1 h1 => ?_)
  cases x with
  | int i => cases r1; exact ⟨i, rfl, Post.ok (b := some i) h1 R1 rfl⟩
  | _ => exact (h1 : False).elim
theorem cut_rel {ι : List Addr} {xs : List VM.W} {vs : List V} (r : RVs ι xs vs) (lo hi : Option Int) : RVs ι (VM.cut xs lo hi) (cutV vs lo hi) := by
  have hl := Paired.len r
  unfold VM.cut cutV
  have e : ∀ n d o, HT.sIx n d o = VM.sIx n d o := fun n d o => by cases o <;> rfl
  rw [e, e, ← hl]
  exact Paired.takeP _ (Paired.dropP _ r)
theorem se_sl {a : Expr} {lo hi : Option Expr} {m : VM.EM} {l h : VM.PM} {p2 pos} (ha : SE X a m) (hl : SO X lo l) (hh : SO X hi h) : SE X (.Subscript a (.Slice lo hi none p2) pos) (VM.eSl m l h) := by
  obtain ⟨ta, pa, ka⟩ := ha
  obtain ⟨tl, pl, kl⟩ := hl
  obtain ⟨th, ph, kh⟩ := hh
  refine ⟨_, pe_slice (SlR.or sl_list sl_tup) pa pl ph, fun ι M H σ τ Q R S q => ?_⟩
  refine ka ι M H σ τ _ R S (Post.seq q fun ι1 H1 x M1 u p1 R1 r1 h1 => ?_)
  refine kl ι1 M1 H1 σ τ _ R1 (S.mono p1) (Post.seq h1 fun ι2 H2 lo' M2 lo'' p2 R2 r2 h2 => ?_)
  refine kh ι2 M2 H2 σ τ _ R2 (S.mono (List.IsPrefix.trans p1 p2)) (Post.seq h2 fun ι3 H3 hi' M3 hi'' p3 R3 r3 h3 => ?_)
  cases r2
  cases r3
  have rx := (r1.mono p2).mono p3
  have q' : Post RV X.K ι3 (match VM.lstOf M3 x with | some xs => VM.newL (VM.cut xs lo' hi') M3 | none => (match VM.tupOf M3 x with | some xs => (if VM.sIx xs.length 0 lo' = 0 ∧ VM.sIx xs.length xs.length hi' = xs.length then .bad else VM.newT (VM.cut xs lo' hi') M3) | none => .bad)) Q := h3
  cases e : VM.lstOf M3 x with
  | some xs =>
    rw [e] at q'
    obtain ⟨p, vs, rfl, hs, r⟩ := R3.lstOf e rx
    exact .inl ⟨p, vs, rfl, hs, (newL_post R3 (cut_rel r lo' hi') q').2⟩
  | none =>
    rw [e] at q'
    have q2 : Post RV X.K ι3 (match VM.tupOf M3 x with | some xs => (if VM.sIx xs.length 0 lo' = 0 ∧ VM.sIx xs.length xs.length hi' = xs.length then .bad else VM.newT (VM.cut xs lo' hi') M3) | none => .bad) Q := q'
    cases e2 : VM.tupOf M3 x with
    | none => rw [e2] at q2; exact (q2 : False).elim
    | some xs =>
      rw [e2] at q2
      obtain ⟨p, vs, rfl, hs, r⟩ := R3.tupOf e2 rx
      have q3 : Post RV X.K ι3 (if VM.sIx xs.length 0 lo' = 0 ∧ VM.sIx xs.length xs.length hi' = xs.length then .bad else VM.newT (VM.cut xs lo' hi') M3) Q := q2
      by_cases hw : VM.sIx xs.length 0 lo' = 0 ∧ VM.sIx xs.length xs.length hi' = xs.length
      · rw [if_pos hw] at q3; exact (q3 : False).elim
      · rw [if_neg hw] at q3
        have hl := Paired.len r
        refine .inr ⟨p, vs, rfl, SqT.of hs, ?_, (newT_post R3 (cut_rel r lo' hi') q3).2⟩
        have e3 : ∀ n d o, HT.sIx n d o = VM.sIx n d o := fun n d o => by cases o <;> rfl
        rw [e3, e3, ← hl]; exact hw
end
end SV
end
section
set_option Elab.async false
set_option linter.all false
set_option autoImplicit false
set_option maxRecDepth 100000
set_option maxHeartbeats 4000000
namespace SV
open PySem L2
section
variable {X : Cx}
theorem RV.isNon {ι : List Addr} {x : VM.W} {v : V} (r : RV ι x v) : decide (v = .non) = VM.isNon x := by
  cases x with
  | ref a => obtain ⟨p, _, rfl⟩ := r; rfl
  | non => cases r; rfl
  | bl _ => cases r; rfl
  | int _ => cases r; rfl
  | str _ => cases r; rfl
theorem tB_post {m : VM.EM} {ta : TE} {ι : List Addr} {M : VM.Mem} {H : Hp} {σ : VM.St} {τ : L2.St} {Q : Bool → Hp → Prop} (ka : ∀ ι M H σ τ Q, Rel X.K ι M H → RSt ι σ τ → Post RV X.K ι (m σ M) Q → ta τ H Q) (R : Rel X.K ι M H) (S : RSt ι σ τ) (h : Post rB X.K ι (VM.tB m σ M) Q) : L2.tB ta τ H Q := by
  refine ka ι M H σ τ _ R S (Post.seq h fun ι1 H1 x M1 u p1 R1 r1 h1 => ?_)
  cases x with
  | bl b => cases r1; exact ⟨b, rfl, Post.ok h1 R1 rfl⟩
  | _ => exact (h1 : False).elim
theorem st_isN {a : Expr} {m : VM.EM} {j p pos} (ha : SE X a m) : STt X (.Compare a [.Is] [.Constant .none j p] pos) (VM.tB (VM.eIsN m)) := by
  obtain ⟨ta, pa, ka⟩ := ha
  refine ⟨_, pt_cmp (pc_isN pa), fun ι M H σ τ Q R S h => tB_post (fun ι M H σ τ Q R S h => ?_) R S h⟩
  refine ka ι M H σ τ _ R S (Post.seq h fun ι1 H1 x M1 u p1 R1 r1 h1 => ?_)
  show Q (.bl (decide (u = .non))) H1
  rw [r1.isNon]
  exact Post.ok (b := V.bl _) h1 R1 rfl
theorem st_notN {a : Expr} {m : VM.EM} {j p pos} (ha : SE X a m) : STt X (.Compare a [.IsNot] [.Constant .none j p] pos) (VM.tB (VM.eNotN m)) := by
  obtain ⟨ta, pa, ka⟩ := ha
  refine ⟨_, pt_cmp (pc_notN pa), fun ι M H σ τ Q R S h => tB_post (fun ι M H σ τ Q R S h => ?_) R S h⟩
  refine ka ι M H σ τ _ R S (Post.seq h fun ι1 H1 x M1 u p1 R1 r1 h1 => ?_)
  show Q (.bl (!decide (u = .non))) H1
  rw [r1.isNon]
  exact Post.ok (b := V.bl _) h1 R1 rfl
theorem st_val {e : Expr} {m : VM.EM} (ha : SE X e m) (he : ∀ whole, isTrue e X.env whole = (do let v ← whole; standAt e.pos; holding [v] (truthy v)) := by intro _; rfl) : STt X e (VM.tB m) := by
  obtain ⟨ta, pa, ka⟩ := ha
  exact ⟨_, pt_val pa he, fun ι M H σ τ Q R S h => tB_post ka R S h⟩
theorem sw_and1 {a : Expr} {m : VM.TM} {pos} (ha : STt X a m) : SW X (.BoolOp .And [a] pos) m := by
  obtain ⟨ta, pa, ka⟩ := ha
  exact ⟨_, pw_and1 pa, ka⟩
theorem sw_or1 {a : Expr} {m : VM.TM} {pos} (ha : STt X a m) : SW X (.BoolOp .Or [a] pos) m := by
  obtain ⟨ta, pa, ka⟩ := ha
  exact ⟨_, pw_or1 pa, ka⟩
theorem sw_and {a b : Expr} {rest : List Expr} {m n : VM.TM} {pos} (ha : STt X a m) (hb : SW X (.BoolOp .And (b :: rest) pos) n) : SW X (.BoolOp .And (a :: b :: rest) pos) (VM.tAnd m n) := by
  obtain ⟨ta, pa, ka⟩ := ha
  obtain ⟨tb, pb, kb⟩ := hb
  refine ⟨_, pw_and pa pb, fun ι M H σ τ Q R S h => ?_⟩
  refine ka ι M H σ τ _ R S (Post.seq h fun ι1 H1 x M1 u p1 R1 r1 h1 => ?_)
  cases r1
  cases x with
  | true => exact kb ι1 M1 H1 σ τ Q R1 (S.mono p1) h1
  | false => exact Post.ok (b := false) h1 R1 rfl
theorem sw_or {a b : Expr} {rest : List Expr} {m n : VM.TM} {pos} (ha : STt X a m) (hb : SW X (.BoolOp .Or (b :: rest) pos) n) : SW X (.BoolOp .Or (a :: b :: rest) pos) (VM.tOr m n) := by
  obtain ⟨ta, pa, ka⟩ := ha
  obtain ⟨tb, pb, kb⟩ := hb
  refine ⟨_, pw_or pa pb, fun ι M H σ τ Q R S h => ?_⟩
  refine ka ι M H σ τ _ R S (Post.seq h fun ι1 H1 x M1 u p1 R1 r1 h1 => ?_)
  cases r1
  cases x with
  | true => exact Post.ok (b := true) h1 R1 rfl
  | false => exact kb ι1 M1 H1 σ τ Q R1 (S.mono p1) h1
theorem st_bool {e : Expr} {m : VM.TM} (h : SW X e m) : STt X e m := by
  obtain ⟨t, p, k⟩ := h
  exact ⟨t, p.pt, k⟩
theorem st_not {a : Expr} {m : VM.TM} {pos} (ha : STt X a m) : STt X (.UnaryOp .Not a pos) (VM.tNot m) := by
  obtain ⟨ta, pa, ka⟩ := ha
  refine ⟨_, pt_not pa, fun ι M H σ τ Q R S h => ?_⟩
  refine ka ι M H σ τ _ R S (Post.seq h fun ι1 H1 x M1 u p1 R1 r1 h1 => ?_)
  cases r1
  exact Post.ok (b := !x) h1 R1 rfl
theorem se_one {op} {a : Expr} {m : VM.EM} {pos} (ha : SE X a m) : SE X (.BoolOp op [a] pos) m := by
  obtain ⟨ta, pa, ka⟩ := ha
  exact ⟨_, pe_one pa, ka⟩
theorem se_and {a b : Expr} {rest : List Expr} {m n : VM.EM} {pos} (ha : SE X a m) (hb : SE X (.BoolOp .And (b :: rest) pos) n) : SE X (.BoolOp .And (a :: b :: rest) pos) (VM.eAnd m n) := by
  obtain ⟨ta, pa, ka⟩ := ha
  obtain ⟨tb, pb, kb⟩ := hb
  refine ⟨_, pe_and pa pb, fun ι M H σ τ Q R S h => ?_⟩
  refine ka ι M H σ τ _ R S (Post.seq h fun ι1 H1 x M1 u p1 R1 r1 h1 => ?_)
  cases x with
  | bl c =>
    cases r1
    refine ⟨c, rfl, ?_⟩
    cases c with
    | true => rw [if_pos rfl]; exact kb ι1 M1 H1 σ τ Q R1 (S.mono p1) h1
    | false => rw [if_neg Bool.false_ne_true]; exact Post.ok (b := V.bl false) h1 R1 rfl
  | _ => exact (h1 : False).elim
theorem se_not {a : Expr} {m : VM.EM} {pos} (ha : SE X a m) : SE X (.UnaryOp .Not a pos) (VM.eNot m) := by
  obtain ⟨ta, pa, ka⟩ := ha
  refine ⟨_, pe_not pa, fun ι M H σ τ Q R S h => ?_⟩
  refine ka ι M H σ τ _ R S (Post.seq h fun ι1 H1 x M1 u p1 R1 r1 h1 => ?_)
  cases x with
  | bl c => cases r1; exact ⟨c, rfl, Post.ok (b := V.bl (!c)) h1 R1 rfl⟩
  | _ => exact (h1 : False).elim
theorem sc_len : SC X (.builtin "len") VM.fLen := by
  refine ⟨_, call_len_seq, fun ι M H ws vs Q R r h => ?_⟩
  cases r with
  | nil => exact (h : False).elim
  | cons r1 t =>
    cases t with
    | cons _ _ => exact (h : False).elim
    | nil =>
      rename_i x v
      have q : Post RV X.K ι (match VM.seqOf M x with | some xs => VM.R.ok (.int xs.length) M | none => .bad) Q := h
      cases e : VM.seqOf M x with
      | none => rw [e] at q; exact (q : False).elim
      | some xs =>
        rw [e] at q
        obtain ⟨p, us, rfl, hs, r2⟩ := R.seqOf e r1
        exact ⟨p, us, rfl, hs, by rw [← Paired.len r2]; exact Post.ok (b := V.int _) q R rfl⟩
theorem sc_list : SC X (.type "list") VM.fList := by
  refine ⟨_, call_list_of, fun ι M H ws vs Q R r h => ?_⟩
  cases r with
  | nil => exact (h : False).elim
  | cons r1 t =>
    cases t with
    | cons _ _ => exact (h : False).elim
    | nil =>
      rename_i x v
      have q : Post RV X.K ι (match VM.seqOf M x with | some xs => VM.newL xs M | none => .bad) Q := h
      cases e : VM.seqOf M x with
      | none => rw [e] at q; exact (q : False).elim
      | some xs =>
        rw [e] at q
        obtain ⟨p, us, rfl, hs, r2⟩ := R.seqOf e r1
        exact ⟨p, us, rfl, hs, (newL_post R r2 q).2⟩
theorem sc_int : SC X (.type "int") VM.fInt := by
  refine ⟨_, call_int1, fun ι M H ws vs Q R r h => ?_⟩
  cases r with
  | nil => exact (h : False).elim
  | cons r1 t =>
    cases t with
    | cons _ _ => rename_i x _ _ _ _ _ _ _; cases x <;> exact (h : False).elim
    | nil =>
      rename_i x v
      cases x with
      | int i => cases r1; exact .inl ⟨i, rfl, Post.ok (b := V.int i) h R rfl⟩
      | bl b => cases r1; exact .inr ⟨b, rfl, Post.ok (b := V.int _) h R rfl⟩
      | _ => exact (h : False).elim
theorem se_callB {x : Str} {id : String} {f : VM.CM} {e : Expr} {es : List Expr} {a : VM.AM} {p pos : Pos} (hc : SC X (.builtin id) f) (hm : X.mg x = none) (ha : SA X (e :: es) a) (hg : Gl X x := by rfl) (hv : bootBuiltins x = some (.builtin id) := by rfl) (hn : x ≠ "__name__" := by decide +kernel) (hdb : (x == ("__debug__" : Str)) = false := by decide +kernel)
    (he : starEach (e :: es) X.env = (false, eval e X.env) :: starEach es X.env := by rfl) (hpl : (backTo pos (starEach es X.env)).any (·.1) = false := by rfl) : SE X (.Call (.Name x p) (e :: es) [] pos) (VM.eCall f a) := by
  obtain ⟨r, pc, kc⟩ := hc
  obtain ⟨ta, pa, ka⟩ := ha
  refine ⟨_, pe_callB pc hg hm hv pa hn hdb he hpl, fun ι M H σ τ Q R S h => ?_⟩
  exact ka ι M H σ τ _ R S (Post.seq h fun ι1 H1 x M1 u p1 R1 r1 h1 => kc ι1 M1 H1 x u Q R1 r1 h1)
theorem se_callTy {x : Str} {T : String} {f : VM.CM} {e : Expr} {es : List Expr} {a : VM.AM} {p pos : Pos} (hc : SC X (.type T) f) (hm : X.mg x = none) (ha : SA X (e :: es) a) (hg : Gl X x := by rfl) (hv : bootBuiltins x = some (.type T) := by rfl) (hn : x ≠ "__name__" := by decide +kernel) (hdb : (x == ("__debug__" : Str)) = false := by decide +kernel)
    (he : starEach (e :: es) X.env = (false, eval e X.env) :: starEach es X.env := by rfl) (hpl : (backTo pos (starEach es X.env)).any (·.1) = false := by rfl) : SE X (.Call (.Name x p) (e :: es) [] pos) (VM.eCall f a) := by
  obtain ⟨r, pc, kc⟩ := hc
  obtain ⟨ta, pa, ka⟩ := ha
  refine ⟨_, pe_callTy pc hg hm hv pa hn hdb he hpl, fun ι M H σ τ Q R S h => ?_⟩
  exact ka ι M H σ τ _ R S (Post.seq h fun ι1 H1 x M1 u p1 R1 r1 h1 => kc ι1 M1 H1 x u Q R1 r1 h1)
def spV (K : Fg) (n : Nat) (f : VM.CM) : Sp := fun vs H Q _ => vs.length = n ∧ ∃ ι M ws, Rel K ι M H ∧ RVs ι ws vs ∧ Post RV K ι (f ws M) Q
structure FnV (P : Program) (w : World) (K : Fg) (mg : Str → Option Value) (base : Heap) (k : Nat) (x : Str) (f : Addr) (fd : FuncData) (ps : List Str) (c : VM.CM) : Prop where
  ok : FnOk P w K mg base CX0 k f fd ps (spV K ps.length c)
  mg : mg x = some (.ref f)
  kp : PySem.W.keepIn K (.ref f) = true
  bi : Binds K fd ps []
  ln : ∀ ws M, ws.length ≠ ps.length → c ws M = .bad
theorem se_call {x : Str} {k : Nat} {f : Addr} {fd : FuncData} {ps : List Str} {c : VM.CM} {e : Expr} {es : List Expr} {a : VM.AM} {p pos : Pos} (F : FnV X.prog X.w X.K X.mg X.base k x f fd ps c) (hr : Room k X.A)
    (ha : SA X (e :: es) a) (hg : Gl X x := by rfl) (hdb : (x == ("__debug__" : Str)) = false := by decide +kernel) (he : starEach (e :: es) X.env = (false, eval e X.env) :: starEach es X.env := by rfl) (hpl : (backTo pos (starEach es X.env)).any (·.1) = false := by rfl) :
    SE X (.Call (.Name x p) (e :: es) [] pos) (VM.eCall c a) := by
  obtain ⟨ta, pa, ka⟩ := ha
  refine ⟨_, pe_call F.ok hr hg F.mg F.kp F.bi .nil pass0 pa hdb he hpl, fun ι M H σ τ Q R S h => ?_⟩
  refine ka ι M H σ τ _ R S (Post.seq h fun ι1 H1 ws M1 vs p1 R1 r1 h1 => ?_)
  show spV X.K ps.length c (vs ++ []) H1 Q E0
  rw [List.append_nil]
  by_cases hw : ws.length = ps.length
  · exact ⟨by rw [← Paired.len r1]; exact hw, ι1, M1, ws, R1, r1, h1⟩
  · rw [F.ln ws M1 hw] at h1; exact (h1 : False).elim
end
end SV
end
section
set_option Elab.async false
set_option linter.all false
set_option autoImplicit false
set_option maxRecDepth 100000
set_option maxHeartbeats 4000000
namespace SV
open PySem L2
section
variable {X : Cx}
def SM (X : Cx) (id : String) (f : VM.W → VM.CM) : Prop := ∃ r, MtR X id r ∧ ∀ ι M H x v ws vs Q, Rel X.K ι M H → RV ι x v → RVs ι ws vs → Post RV X.K ι (f x ws M) Q → (∃ p xs, v = .ref p ∧ SqL X.K H p xs) ∧ r v vs H Q
theorem sm_append : SM X "list.append" VM.mAppend := by
  refine ⟨_, mt_append, fun ι M H x v ws vs Q R rx r h => ?_⟩
  cases r with
  | nil => exact (h : False).elim
  | cons r1 t =>
    cases t with
    | cons _ _ => exact (h : False).elim
    | nil =>
      rename_i y u
      have q : Post RV X.K ι (match VM.mutOf M x with | some (a, xs) => (if xs.length < VM.lim then .ok .non (M.set a (.lst (xs ++ [y]))) else .bad) | none => .bad) Q := by
        unfold VM.mAppend at h
        cases e : VM.mutOf M x with
        | none => rw [e] at h; exact h
        | some z => rw [e] at h; exact h
      cases e : VM.mutOf M x with
      | none => rw [e] at q; exact (q : False).elim
      | some z =>
        obtain ⟨a, xs⟩ := z
        rw [e] at q
        have q2 : Post RV X.K ι (if xs.length < VM.lim then .ok .non (M.set a (.lst (xs ++ [y]))) else .bad) Q := q
        obtain ⟨p, us, rfl, hp, hm, rfl, h1, r2⟩ := R.mutOf e rx
        by_cases hl : xs.length < VM.lim
        · rw [if_pos hl] at q2
          refine ⟨⟨p, us, rfl, SqL.of h1⟩, p, us, u, rfl, rfl, h1, by rw [← Paired.len r2]; exact hl, ?_⟩
          exact Post.ok (b := V.non) q2 (R.set hp hm (Paired.app r2 (.cons r1 .nil))) rfl
        · rw [if_neg hl] at q2; exact (q2 : False).elim
theorem extend_tupG (la : Addr) (xa : Array Value) (k : Nat) (tb : Addr) (ya : Array Value) (j : Nat) (dd : Option Addr) (sl : Array (Option Value))
    (h0 : ¬(!xa.isEmpty && Builtin.List.listTooLong (xa.size + ya.size)) = true) (h1 : xa.size ≤ sizeLine) (h2 : xa.size + ya.size ≤ sizeLine + 1) :
    Meets (Builtin.«list.extend» ⟨[.ref la, .ref tb], []⟩) (fun _ R s =>
      s.heap.get? la = some { cls := .type "list", dict := none, data := .seq xa k, slots := #[] } ∧
      s.heap.get? tb = some { cls := .type "tuple", dict := dd, data := .seq ya j, slots := sl } ∧
      R (.ok (.ret Value.none)) { s with heap := s.heap.update la (Obj.mapSeq fun x => x ++ ya), toks := s.toks }) :=
  .of_wp fun prog w A R s q => by
    obtain ⟨hp, gg, d, tk, os⟩ := s
    obtain ⟨ql, qb, q⟩ := q
    have f1 := AutoSeq1.idx_int
    have f2 := AutoSeq1.sub_tuple_tuple
    have f3 := AutoSeq1.sub_list_list
    have f4 := AutoSeq1.sub_tuple_list
    have f5 := AutoSeq1.sub_list_tuple
    have hz' : (xa ++ ya).size ≤ sizeLine + 1 := by rw [Array.size_append]; exact h2
    wp_walk using (wpAny_updateSeq ql rfl (hz := h1) (_hz' := hz')), wpAny_loadPart' ql, wpAny_loadPart' qb
    exact ⟨_, rfl, q⟩
def rExtendT : V → List V → Hp → VK → Prop := fun x vs H Q => ∃ l b xs zs, x = .ref l ∧ vs = [.ref b] ∧ H l = some (.lst xs) ∧ H b = some (.tup zs) ∧ xs.length + zs.length ≤ sizeLine ∧ Q .non (upd H l (.lst (xs ++ zs)))
theorem mt_extendT : MtR X "list.extend" rExtendT := by
  intro pins s σ H x vs v us Q I rx rv h
  obtain ⟨l, b, xs, zs, rfl, rfl, hH, hB, hz, q⟩ := h
  cases rx
  obtain ⟨u, rfl, ru⟩ := rv.one
  cases ru
  obtain ⟨z, its, n, r, hl, e⟩ := I.lstM hH
  obtain ⟨z2, its2, r2, o, ho, hcls, n2, hd⟩ := I.hok b _ hB
  have hl2 := r2.length
  obtain ⟨cl, dd, dt, sl⟩ := o
  simp only at hcls hd
  subst hcls hd
  have hsz : its.toArray.size + its2.toArray.size ≤ sizeLine := by rw [List.size_toArray, List.size_toArray]; omega
  have hlong : ¬ (!its.toArray.isEmpty && Builtin.List.listTooLong (its.toArray.size + its2.toArray.size)) = true := by
    rw [notLongL hsz, Bool.and_false]
    exact Bool.false_ne_true
  refine call_meets F.slot_list_extend ⟨_, e, rfl⟩ F.entry_list_extend (F.args_list_extend_2 _ _) (extend_tupG l its.toArray n b its2.toArray n2 dd sl hlong (by rw [List.size_toArray]; omega) (by omega)) ⟨e, ho, ?_⟩
  refine ⟨.non, _, I.lset (its' := its ++ its2) hH e (by simp) (r.append r2) ?_, rfl, q⟩
  rw [List.length_append]
  omega
theorem Rel.litOf {K : Fg} {ι : List Addr} {M : VM.Mem} {H : Hp} (R : Rel K ι M H) {w : VM.W} {xs : List VM.W} {v : V} (e : VM.litOf M w = some xs) (r : RV ι w v) : ∃ p vs, v = .ref p ∧ (H p = some (.lst vs) ∨ H p = some (.tup vs)) ∧ RVs ι xs vs := by
  cases w with
  | ref a =>
    obtain ⟨p, hp, rfl⟩ := r
    simp only [VM.litOf] at e
    cases hm : M[a]? with
    | none => rw [hm] at e; cases e
    | some o =>
      rw [hm] at e
      have ro := R.obj a p o hp hm
      cases o with
      | lst ys => cases e; obtain ⟨vs, h1, h2⟩ := ro; exact ⟨p, vs, rfl, .inl h1, h2⟩
      | tup ys => cases e; obtain ⟨vs, h1, h2⟩ := ro; exact ⟨p, vs, rfl, .inr h1, h2⟩
      | frz ys => cases e
      | dct ys => cases e
      | ins c ys => cases e
      | fnv x => cases e
  | non => cases e
  | bl _ => cases e
  | int _ => cases e
  | str _ => cases e
theorem sm_extend : SM X "list.extend" VM.mExtend := by
  refine ⟨_, MtR.or mt_extend mt_extendT, fun ι M H x v ws vs Q R rx r h => ?_⟩
  cases r with
  | nil => exact (h : False).elim
  | cons r1 t =>
    cases t with
    | cons _ _ => exact (h : False).elim
    | nil =>
      rename_i y u
      have q : Post RV X.K ι (match VM.mutOf M x, VM.litOf M y with | some (a, xs), some ys => (if xs.length + ys.length ≤ VM.lim then .ok .non (M.set a (.lst (xs ++ ys))) else .bad) | _, _ => .bad) Q := h
      cases e : VM.mutOf M x with
      | none => rw [e] at q; exact (q : False).elim
      | some z =>
        cases e2 : VM.litOf M y with
        | none => rw [e, e2] at q; exact (q : False).elim
        | some ys =>
          obtain ⟨a, xs⟩ := z
          rw [e, e2] at q
          have q2 : Post RV X.K ι (if xs.length + ys.length ≤ VM.lim then .ok .non (M.set a (.lst (xs ++ ys))) else .bad) Q := q
          obtain ⟨p, us, rfl, hp, hm, rfl, h1, r2⟩ := R.mutOf e rx
          obtain ⟨p2, us2, rfl, h12, r22⟩ := R.litOf e2 r1
          by_cases hl : xs.length + ys.length ≤ VM.lim
          · rw [if_pos hl] at q2
            have fin := Post.ok (b := V.non) q2 (R.set hp hm (Paired.app r2 r22)) rfl
            have hlen : us.length + us2.length ≤ sizeLine := by rw [← Paired.len r2, ← Paired.len r22]; exact hl
            refine ⟨⟨p, us, rfl, SqL.of h1⟩, ?_⟩
            rcases h12 with h12 | h12
            · exact .inl ⟨p, p2, us, us2, rfl, rfl, h1, h12, hlen, fin⟩
            · exact .inr ⟨p, p2, us, us2, rfl, rfl, h1, h12, hlen, fin⟩
          · rw [if_neg hl] at q2; exact (q2 : False).elim
theorem sm_pop : SM X "list.pop" VM.mPop := by
  refine ⟨_, mt_pop, fun ι M H x v ws vs Q R rx r h => ?_⟩
  cases r with
  | cons _ _ => exact (h : False).elim
  | nil =>
    have q : Post RV X.K ι (match VM.mutOf M x with | some (a, xs) => (match xs[xs.length - 1]? with | some y => .ok y (M.set a (.lst xs.dropLast)) | none => .bad) | none => .bad) Q := by
      unfold VM.mPop at h
      cases e : VM.mutOf M x with
      | none => rw [e] at h; exact h
      | some z => rw [e] at h; exact h
    cases e : VM.mutOf M x with
    | none => rw [e] at q; exact (q : False).elim
    | some z =>
      obtain ⟨a, xs⟩ := z
      rw [e] at q
      have q2 : Post RV X.K ι (match xs[xs.length - 1]? with | some y => .ok y (M.set a (.lst xs.dropLast)) | none => .bad) Q := q
      obtain ⟨p, us, rfl, hp, hm, rfl, h1, r2⟩ := R.mutOf e rx
      cases e3 : xs[xs.length - 1]? with
      | none => rw [e3] at q2; exact (q2 : False).elim
      | some y =>
        rw [e3] at q2
        obtain ⟨v, hv, rv⟩ := Paired.at r2 e3
        refine ⟨⟨p, us, rfl, SqL.of h1⟩, p, us, v, rfl, rfl, h1, by rw [← Paired.len r2]; exact hv, ?_⟩
        exact Post.ok q2 (R.set hp hm (Paired.dropLastP r2)) rv
theorem se_meth0 {o : Expr} {name : Str} {id : String} {f : VM.W → VM.CM} {m : VM.EM} {apos cpos : Pos} (slot : Slot "list" name id) (hty : typeOf (.builtin id) = pure (.type "method_descriptor")) (hm : SM X id f) (ho : SE X o m)
    (hbase : attributeBase o name X.env (eval o X.env) = eval o X.env := by rfl) (hline : (apos.endLine == cpos.line) = true := by rfl) : SE X (.Call (.Attribute o name apos) [] [] cpos) (VM.eMeth f m VM.aNil) := by
  obtain ⟨r, pm, km⟩ := hm
  obtain ⟨ta, pa, ka⟩ := ho
  refine ⟨_, pe_bm0 PySem.F.plainAttrs_list slot hty pm pa hbase hline, fun ι M H σ τ Q R S h => ?_⟩
  refine ka ι M H σ τ _ R S (Post.seq h fun ι1 H1 x M1 u p1 R1 r1 h1 => ?_)
  have h1' : Post RV X.K ι1 (match VM.lstOf M1 x with | some _ => f x [] M1 | none => .bad) Q := by
    cases el : VM.lstOf M1 x with
    | none => rw [el] at h1; exact h1
    | some xs => rw [el] at h1; exact h1
  cases el : VM.lstOf M1 x with
  | none => rw [el] at h1'; exact (h1' : False).elim
  | some xs =>
    rw [el] at h1'
    obtain ⟨⟨p, xs, e, hs⟩, q⟩ := km ι1 M1 H1 x u [] [] Q R1 r1 .nil h1'
    subst e
    exact ⟨.inl ⟨rfl, xs, hs⟩, q⟩
theorem se_meth {o e : Expr} {es : List Expr} {name : Str} {id : String} {f : VM.W → VM.CM} {m : VM.EM} {a : VM.AM} {apos cpos : Pos} (slot : Slot "list" name id) (hty : typeOf (.builtin id) = pure (.type "method_descriptor")) (hm : SM X id f) (ho : SE X o m) (ha : SA X (e :: es) a)
    (hbase : attributeBase o name X.env (eval o X.env) = eval o X.env := by rfl)
    (hfew : ((backTo cpos (starEach (e :: es) X.env)).all (fun x => !x.1) && (backToKw cpos (keywordEach [] X.env)).all (fun x => x.1.isSome)
      && decide ((e :: es).length + ([] : List Keyword).length + (if ([] : List Keyword).isEmpty then 0 else 1) < 30)) = true := by rfl)
    (hline : (apos.endLine == cpos.line) = true := by rfl) (hs : starEach (e :: es) X.env = (false, eval e X.env) :: starEach es X.env := by rfl) (hplain : (backTo cpos (starEach es X.env)).any (·.1) = false := by rfl) :
    SE X (.Call (.Attribute o name apos) (e :: es) [] cpos) (VM.eMeth f m a) := by
  obtain ⟨r, pm, km⟩ := hm
  obtain ⟨ta, pa, ka⟩ := ho
  obtain ⟨tb, pb, kb⟩ := ha
  refine ⟨_, pe_bm PySem.F.plainAttrs_list slot hty pm pa pb hbase hfew hline hs hplain, fun ι M H σ τ Q R S h => ?_⟩
  refine ka ι M H σ τ _ R S (Post.seq h fun ι1 H1 x M1 u p1 R1 r1 h1 => ?_)
  have h1' : Post RV X.K ι1 (match VM.lstOf M1 x with | some _ => (a σ M1).bind fun vs M2 => f x vs M2 | none => .bad) Q := h1
  cases el : VM.lstOf M1 x with
  | none => rw [el] at h1'; exact (h1' : False).elim
  | some xs =>
    rw [el] at h1'
    obtain ⟨p, us, e0, hsq, _⟩ := R1.lstOf el r1
    subst e0
    refine ⟨.inl ⟨rfl, us, hsq⟩, kb ι1 M1 H1 σ τ _ R1 (S.mono p1) (Post.seq h1' fun ι2 H2 ws M2 vs p2 R2 r2 h2 => ?_)⟩
    exact (km ι2 M2 H2 x _ ws vs Q R2 (r1.mono p2) r2 h2).2
theorem sg_name {i : Nat} {x : Str} {pos} (hN : X.N.Nodup) (hi : X.N[i]? = some x := by rfl) (hx : Loc X.env.scope x := by first | exact Or.inl rfl | exact Or.inr rfl) (hf : X.fn x = true ∨ X.env.scope.names.lookup x = some .local := by first | exact .inl rfl | exact .inr rfl | assumption) : SG X (.Name x pos) (VM.gName i) := by
  refine ⟨_, pg_name hN hi hx hf, fun ι M H σ τ w v Q R S r h => ?_⟩
  exact Post.ok h R (Paired.setP (F := RO1 ι) (x := some w) (y := some v) ⟨v, rfl, r⟩ i S)
theorem sgs_nil : SGs X [] [] := by
  refine ⟨rfl, _, pgs_nil, fun ι M H σ τ ws vs Q R S r h => ?_⟩
  cases r with
  | nil => exact ⟨rfl, Post.ok h R S⟩
  | cons _ _ => exact (h : False).elim
theorem sgs_cons {t : Expr} {ts : List Expr} {g : VM.GM} {gs : List VM.GM} (h1 : SG X t g) (h2 : SGs X ts gs) (hs : (assignEach (t :: ts) X.env).map (·.2) = assign t X.env :: (assignEach ts X.env).map (·.2) := by rfl) : SGs X (t :: ts) (g :: gs) := by
  obtain ⟨t1, p1, k1⟩ := h1
  obtain ⟨hl, t2, p2, k2⟩ := h2
  refine ⟨by simp [hl], _, pgs_cons p1 p2 hs, fun ι M H σ τ ws vs Q R S r h => ?_⟩
  cases r with
  | nil => exact (h : False).elim
  | cons r1 r2 =>
    rename_i w v ws vs
    refine ⟨v, vs, rfl, k1 ι M H σ τ w v _ R S r1 (Post.seq h fun ι1 H1 σ1 M1 τ1 q1 R1 S1 h1 => ?_)⟩
    exact k2 ι1 M1 H1 σ1 τ1 ws vs Q R1 S1 (RVs.mono q1 r2) h1
theorem sg_tup {es : List Expr} {k : Nat} {gs : List VM.GM} {pos} (hc : X.calm = true) (h : SGs X es gs) (hn : (assignEach es X.env).length = es.length := by rfl) (hst : (assignEach es X.env).findIdx? (·.1) = none := by rfl) : SG X (.Tuple es k pos) (VM.gTup gs) := by
  obtain ⟨hl, t2, p2, k2⟩ := h
  refine ⟨_, pg_tup hc p2 hn hst, fun ι M H σ τ w v Q R S r h => ?_⟩
  unfold VM.gTup at h
  cases e : VM.tupOf M w with
  | none => rw [e] at h; exact (h : False).elim
  | some xs =>
    rw [e] at h
    have h' : Post RSt X.K ι (if xs.length = gs.length then VM.gEach gs xs σ M else .bad) Q := h
    by_cases hx : xs.length = gs.length
    · rw [if_pos hx] at h'
      obtain ⟨p, vs, rfl, hs, r2⟩ := R.tupOf e r
      exact ⟨p, vs, rfl, SqT.of hs, by rw [← Paired.len r2, hx, hl], k2 ι M H σ τ xs vs Q R S r2 h'⟩
    · rw [if_neg hx] at h'; exact (h' : False).elim
theorem sg_sub {o i : Expr} {m n : VM.EM} {pos} (ho : SE X o m) (hi : SE X i n)
    (ha : ∀ v, assign (.Subscript o i pos) X.env v = (do
      let ov ← holding [v] (eval o X.env)
      let iv ← holding [v, ov] (eval i X.env)
      standAt pos
      holding [v, ov, iv] (setItem ov iv v)
      release [v, ov, iv] []) := by intro _; rfl) : SG X (.Subscript o i pos) (VM.gSub m n) := by
  obtain ⟨t1, p1, k1⟩ := ho
  obtain ⟨t2, p2, k2⟩ := hi
  refine ⟨_, pg_sub p1 p2 set_list ha, fun ι M H σ τ w v Q R S r h => ?_⟩
  refine k1 ι M H σ τ _ R S (Post.seq h fun ι1 H1 x M1 u q1 R1 r1 h1 => ?_)
  refine k2 ι1 M1 H1 σ τ _ R1 (S.mono q1) (Post.seq h1 fun ι2 H2 y M2 u2 q2 R2 r2 h2 => ?_)
  cases y with
  | int k =>
    cases r2
    have h3 : Post RSt X.K ι2 (match VM.mutOf M2 x with | some (a, xs) => (match VM.ixN xs.length k with | some j => .ok σ (M2.set a (.lst (xs.set j w))) | none => .bad) | none => .bad) Q := by
      cases e : VM.mutOf M2 x with
      | none => rw [e] at h2; exact h2
      | some z => rw [e] at h2; exact h2
    cases e : VM.mutOf M2 x with
    | none => rw [e] at h3; exact (h3 : False).elim
    | some z =>
      obtain ⟨a, xs⟩ := z
      rw [e] at h3
      have h4 : Post RSt X.K ι2 (match VM.ixN xs.length k with | some j => .ok σ (M2.set a (.lst (xs.set j w))) | none => .bad) Q := h3
      obtain ⟨p, us, rfl, hp, hm, rfl, h5, r5⟩ := R2.mutOf e (r1.mono q2)
      cases ej : VM.ixN xs.length k with
      | none => rw [ej] at h4; exact (h4 : False).elim
      | some j =>
        rw [ej] at h4
        refine ⟨p, us, k, j, rfl, rfl, h5, by rw [← Paired.len r5]; exact ej, ?_⟩
        exact Post.ok h4 (R2.set hp hm (Paired.setP (RV.mono q2 (RV.mono q1 r)) j r5)) (S.mono (List.IsPrefix.trans q1 q2))
  | _ => exact (h2 : False).elim
theorem PostS.seqS {K : Fg} {ι : List Addr} {r : VM.RS} {f : VM.St → VM.Mem → VM.RS} {D : Ends} {N : L2.St → Hp → Prop} (h : PostS K ι (r.andThen f) D)
    (k : ∀ ι' H' σ' M' τ', ι <+: ι' → Rel K ι' M' H' → RSt ι' σ' τ' → PostS K ι' (f σ' M') D → N τ' H') : PostS K ι r { D with nx := N } := by
  cases r with
  | nx σ M => exact fun ι' H' τ' p R S => k ι' H' σ M τ' p R S (PostS.mono p h)
  | rt w M => exact h
  | bk σ M => exact h
  | ct σ M => exact h
  | ex _ _ => exact h
  | bad => exact h
theorem sss_nil : SSs X [] VM.sSkip := ⟨_, pss_nil, fun ι M H σ τ D R S h => h ι H τ pre_refl R S⟩
theorem sss_one {st : Stmt} {m : VM.SM} (h : SS X st m) : SSs X [st] m := by
  obtain ⟨t, p, k⟩ := h
  exact ⟨t, pss_one p, k⟩
theorem sss_cons {st : Stmt} {rest : List Stmt} {m n : VM.SM} (h : SS X st m) (hr : SSs X rest n) : SSs X (st :: rest) (VM.sSeq m n) := by
  obtain ⟨t, p, k⟩ := h
  obtain ⟨u, q, l⟩ := hr
  refine ⟨_, pss_cons p q, fun ι M H σ τ D R S h => ?_⟩
  exact k ι M H σ τ _ R S (PostS.seqS h fun ι1 H1 σ1 M1 τ1 p1 R1 S1 h1 => l ι1 M1 H1 σ1 τ1 D R1 S1 h1)
theorem ss_asg {tg e : Expr} {m : VM.EM} {g : VM.GM} {pos} (he : SE X e m) (hg : SG X tg g) (hs : swapsWithSole [tg] e pos.line X.env = pure false := by rfl) (hw : swappedStores [tg] e X.env = pure none := by rfl)
    (h1 : (assignEach [tg] X.env).map (·.2) = [assign tg X.env] := by rfl) : SS X (.Assign [tg] e pos) (VM.sAsg m g) := by
  obtain ⟨t, p, k⟩ := he
  obtain ⟨u, q, l⟩ := hg
  refine ⟨_, ps_asg p q hs hw h1, fun ι M H σ τ D R S h => ?_⟩
  refine k ι M H σ τ _ R S (PostS.seq h fun ι1 H1 x M1 v p1 R1 r1 h1 => ?_)
  exact l ι1 M1 H1 σ τ x v D.nx R1 (S.mono p1) r1 (PostS.seq h1 fun ι2 H2 σ2 M2 τ2 p2 R2 S2 h2 => h2 ι2 H2 τ2 pre_refl R2 S2)
theorem ss_set {i : Nat} {x : Str} {e : Expr} {m : VM.EM} {pos pos'} (hN : X.N.Nodup) (he : SE X e m) (hi : X.N[i]? = some x := by rfl) (hx : Loc X.env.scope x := by first | exact Or.inl rfl | exact Or.inr rfl) (hs : swapsWith e (some (.Name x pos')) pos.line X.env = pure false := by rfl)
    (hf : X.fn x = true ∨ X.env.scope.names.lookup x = some .local := by first | exact .inl rfl | exact .inr rfl | assumption) : SS X (.Assign [.Name x pos'] e pos) (VM.sAsg m (VM.gName i)) := by
  obtain ⟨t, p, k⟩ := he
  refine ⟨_, ps_set hN hi hx p hs hf, fun ι M H σ τ D R S h => ?_⟩
  refine k ι M H σ τ _ R S (PostS.seq h fun ι1 H1 w M1 v p1 R1 r1 h1 => ?_)
  exact h1 ι1 H1 _ pre_refl R1 (Paired.setP (F := RO1 ι1) (x := some w) (y := some v) ⟨v, rfl, r1⟩ i (S.mono p1))
theorem ss_expr {e : Expr} {m : VM.EM} {pos} (he : SE X e m) (hs : swapsWith e none pos.line X.env = pure false := by rfl) : SS X (.Expr e pos) (VM.sExpr m) := by
  obtain ⟨t, p, k⟩ := he
  refine ⟨_, ps_expr p hs, fun ι M H σ τ D R S h => ?_⟩
  exact k ι M H σ τ _ R S (PostS.seq h fun ι1 H1 x M1 v p1 R1 r1 h1 => h1 ι1 H1 τ pre_refl R1 (S.mono p1))
theorem ss_ret {e : Expr} {m : VM.EM} {pos} (he : SE X e m) : SS X (.Return (some e) pos) (VM.sRet m) := by
  obtain ⟨t, p, k⟩ := he
  refine ⟨_, ps_ret p, fun ι M H σ τ D R S h => ?_⟩
  exact k ι M H σ τ _ R S (PostS.seq h fun ι1 H1 x M1 v p1 R1 r1 h1 => h1 ι1 H1 v pre_refl R1 r1)
theorem ss_break {pos} : SS X (.Break pos) VM.sBk := ⟨_, ps_break, fun ι M H σ τ D R S h => h ι H τ pre_refl R S⟩
theorem ss_never {st : Stmt} : SS X st VM.sBad := ⟨_, ps_never, fun ι M H σ τ D R S h => h⟩
theorem ss_if {c : Expr} {a b : List Stmt} {t : VM.TM} {m n : VM.SM} {pos} (hc : STt X c t) (ha : SSs X a m) (hb : SSs X b n) : SS X (.If c a b pos) (VM.sIf t m n) := by
  obtain ⟨tc, pc, kc⟩ := hc
  obtain ⟨ta, pa, ka⟩ := ha
  obtain ⟨tb, pb, kb⟩ := hb
  refine ⟨_, ps_if pc pa pb, fun ι M H σ τ D R S h => ?_⟩
  refine kc ι M H σ τ _ R S (PostS.seq h fun ι1 H1 x M1 u p1 R1 r1 h1 => ?_)
  cases r1
  cases x with
  | true => rw [if_pos rfl]; exact ka ι1 M1 H1 σ τ D R1 (S.mono p1) h1
  | false => rw [if_neg Bool.false_ne_true]; exact kb ι1 M1 H1 σ τ D R1 (S.mono p1) h1
theorem ss_while {n : Nat} {c : Expr} {body : List Stmt} {t : VM.TM} {m : VM.SM} {pos} (hp : PassesOwn (model X.prog X.w) X.A X.env X.xe) (hc : STt X c t) (hb : SSs X body m) : SS X (.While c body [] pos) (VM.sWhile n t m) := by
  obtain ⟨tc, pc, kc⟩ := hc
  obtain ⟨tb, pb, kb⟩ := hb
  refine ⟨_, ps_while hp pc pb, fun ι M H σ τ D R S h => ?_⟩
  refine ⟨fun k τ H => ∃ ι M σ, Rel X.K ι M H ∧ RSt ι σ τ ∧ PostS X.K ι (VM.whileN t m k σ M) D, ⟨n, ι, M, σ, R, S, h⟩, ?_⟩
  rintro k τ H ⟨ι, M, σ, R, S, h⟩
  cases k with
  | zero => exact (h : False).elim
  | succ k =>
    refine kc ι M H σ τ _ R S (PostS.seq h fun ι1 H1 x M1 u p1 R1 r1 h1 => ?_)
    cases r1
    cases x with
    | false => rw [if_neg Bool.false_ne_true]; exact h1 ι1 H1 τ pre_refl R1 (S.mono p1)
    | true =>
      rw [if_pos rfl]
      refine ⟨fun τ' H' => ∃ ι M σ, Rel X.K ι M H' ∧ RSt ι σ τ' ∧ PostS X.K ι (VM.whileN t m k σ M) D, fun τ' H' q => ⟨k, Nat.lt_succ_self _, q⟩, ?_⟩
      refine kb ι1 M1 H1 σ τ _ R1 (S.mono p1) ?_
      have h2 : PostS X.K ι1 (match m σ M1 with
        | .nx σ2 M3 => VM.whileN t m k σ2 M3
        | .ct σ2 M3 => VM.whileN t m k σ2 M3
        | .bk σ2 M3 => .nx σ2 M3
        | .rt v M3 => .rt v M3
        | .ex v M3 => .ex v M3
        | .bad => .bad) D := h1
      cases e : m σ M1 with
      | nx σ2 M3 => rw [e] at h2; exact fun ι2 H2 τ2 p2 R2 S2 => ⟨ι2, M3, σ2, R2, S2, PostS.mono p2 h2⟩
      | ct σ2 M3 => rw [e] at h2; exact fun ι2 H2 τ2 p2 R2 S2 => ⟨ι2, M3, σ2, R2, S2, PostS.mono p2 h2⟩
      | bk σ2 M3 => rw [e] at h2; exact h2
      | rt v M3 => rw [e] at h2; exact h2
      | ex v M3 => rw [e] at h2; exact h2
      | bad => rw [e] at h2; exact h2
end
end SV
end
section
set_option Elab.async false
set_option linter.all false
set_option autoImplicit false
set_option maxRecDepth 100000
set_option maxHeartbeats 4000000
namespace SV
open PySem L2
structure ItOk (K : Fg) (ι : List Addr) (J : It) (srcs : List VM.Src) (chk : VM.Chk) : Prop where
  go : ∀ i ι' M H x, ι <+: ι' → Rel K ι' M H → chk.ok M = true → srcs[i]? = some x → J.go i H
  yld : ∀ i ι' M H x v H', ι <+: ι' → Rel K ι' M H → chk.ok M = true → srcs[i]? = some x → J.yld i H v H' → ∃ ι2 w M2, ι' <+: ι2 ∧ x.get M = .ok w M2 ∧ Rel K ι2 M2 H' ∧ RV ι2 w v
  stop : ∀ i ι' M H, ι <+: ι' → Rel K ι' M H → chk.ok M = true → srcs.length ≤ i → J.stop i H
abbrev rI (K : Fg) : List Addr → (List VM.Src × VM.Chk) → It → Prop := fun ι a J => ItOk K ι J a.1 a.2
def SI (X : Cx) (tg iter : Expr) (m : VM.IM) : Prop := ∃ wi, PI X tg iter wi ∧ ∀ ι M H σ τ Q, Rel X.K ι M H → RSt ι σ τ → Post (rI X.K) X.K ι (m σ M) Q → wi τ H Q
section
variable {X : Cx} {tg : Expr}
theorem chk1 {a : Nat} {o : VM.O} {M : VM.Mem} (h : VM.Chk.ok [(a, o)] M = true) : M[a]? = some o := by
  simpa [VM.Chk.ok] using h
theorem map_val {xs : List VM.W} {i : Nat} {x : VM.Src} (h : (xs.map VM.Src.val)[i]? = some x) : ∃ w, xs[i]? = some w ∧ x = .val w := by
  rw [List.getElem?_map] at h
  cases e : xs[i]? with
  | none => rw [e] at h; cases h
  | some w => rw [e] at h; exact ⟨w, rfl, (Option.some.inj h).symm⟩
theorem itl_ok {K : Fg} {ι : List Addr} {a : Nat} {p : Addr} {o : VM.O} {xs : List VM.W} (hp : ι[a]? = some p) (ho : o = .lst xs ∨ o = .frz xs) : ItOk K ι (Itl K p) (xs.map .val) [(a, o)] := by
  have look : ∀ {ι' M H}, ι <+: ι' → Rel K ι' M H → VM.Chk.ok [(a, o)] M = true → ∃ vs, SqL K H p vs ∧ RVs ι' xs vs := fun {ι' M H} q R hc => by
    have hm := chk1 hc
    have ro := R.obj a p o (get_pre q hp) hm
    rcases ho with rfl | rfl
    · obtain ⟨vs, h1, h2⟩ := ro; exact ⟨vs, SqL.of h1, h2⟩
    · obtain ⟨vs, h1, h2⟩ := ro; exact ⟨vs, h1.sq, h2⟩
  refine ⟨fun i ι' M H x q R hc hx => ?_, fun i ι' M H x v H' q R hc hx y => ?_, fun i ι' M H q R hc hi => ?_⟩
  · obtain ⟨vs, h1, h2⟩ := look q R hc
    obtain ⟨w, hw, rfl⟩ := map_val hx
    obtain ⟨v, hv, _⟩ := Paired.at h2 hw
    exact ⟨vs, v, h1, hv⟩
  · obtain ⟨vs, h1, h2⟩ := look q R hc
    obtain ⟨w, hw, rfl⟩ := map_val hx
    obtain ⟨rfl, y⟩ := y
    obtain ⟨v', hv, rv⟩ := Paired.at h2 hw
    have e := y vs h1
    rw [hv] at e
    cases e
    exact ⟨ι', w, M, pre_refl, rfl, R, rv⟩
  · obtain ⟨vs, h1, h2⟩ := look q R hc
    exact ⟨vs, h1, by rw [← Paired.len h2]; simpa using hi⟩
theorem itt_ok {K : Fg} {ι : List Addr} {a : Nat} {p : Addr} {xs : List VM.W} (hp : ι[a]? = some p) : ItOk K ι (Itt K p) (xs.map .val) [(a, .tup xs)] := by
  have look : ∀ {ι' M H}, ι <+: ι' → Rel K ι' M H → VM.Chk.ok [(a, .tup xs)] M = true → ∃ vs, SqT K H p vs ∧ RVs ι' xs vs := fun {ι' M H} q R hc => by
    have hm := chk1 hc
    obtain ⟨vs, h1, h2⟩ := R.obj a p _ (get_pre q hp) hm
    exact ⟨vs, SqT.of h1, h2⟩
  refine ⟨fun i ι' M H x q R hc hx => ?_, fun i ι' M H x v H' q R hc hx y => ?_, fun i ι' M H q R hc hi => ?_⟩
  · obtain ⟨vs, h1, h2⟩ := look q R hc
    obtain ⟨w, hw, rfl⟩ := map_val hx
    obtain ⟨v, hv, _⟩ := Paired.at h2 hw
    exact ⟨vs, v, h1, hv⟩
  · obtain ⟨vs, h1, h2⟩ := look q R hc
    obtain ⟨w, hw, rfl⟩ := map_val hx
    obtain ⟨rfl, y⟩ := y
    obtain ⟨v', hv, rv⟩ := Paired.at h2 hw
    have e := y vs h1
    rw [hv] at e
    cases e
    exact ⟨ι', w, M, pre_refl, rfl, R, rv⟩
  · obtain ⟨vs, h1, h2⟩ := look q R hc
    exact ⟨vs, h1, by rw [← Paired.len h2]; simpa using hi⟩
theorem itr_ok {K : Fg} {ι : List Addr} (lo : Int) (n : Nat) : ItOk K ι (Itr lo n) (VM.rng lo n) [] := by
  have hl : (VM.rng lo n).length = n := by simp [VM.rng]
  have look : ∀ {i : Nat} {x : VM.Src}, (VM.rng lo n)[i]? = some x → i < n ∧ x = .val (.int (lo + (i : Int))) := fun {i x} h => by
    have hi : i < n := by rw [← hl]; exact (List.getElem?_eq_some_iff.mp h).1
    unfold VM.rng at h
    rw [List.getElem?_map, List.getElem?_range hi] at h
    exact ⟨hi, (Option.some.inj h).symm⟩
  refine ⟨fun i ι' M H x q R hc hx => (look hx).1, fun i ι' M H x v H' q R hc hx y => ?_, fun i ι' M H q R hc hi => by rw [hl] at hi; exact hi⟩
  obtain ⟨rfl, rfl⟩ := y
  obtain ⟨_, rfl⟩ := look hx
  exact ⟨ι', .int (lo + i), M, pre_refl, rfl, R, rfl⟩
theorem pi_or {iter : Expr} {w1 w2 : TI} (h1 : PI X tg iter w1) (h2 : PI X tg iter w2) : PI X tg iter (fun σ H R => w1 σ H R ∨ w2 σ H R) := by
  intro pins s σ H R I q
  rcases q with q | q
  · exact h1 pins s σ H R I q
  · exact h2 pins s σ H R I q
end
section
variable {X : Cx} {tg : Expr}
theorem si_seq {e : Expr} {m : VM.EM} (he : SE X e m) : SI X tg e (VM.iSeq m) := by
  obtain ⟨t, p, k⟩ := he
  refine ⟨_, pi_or (pi_list p) (pi_tup p), fun ι M H σ τ Q R S h => ?_⟩
  unfold VM.iSeq at h
  cases em : m σ M with
  | ok x M1 =>
    rw [em] at h
    cases x with
    | ref a =>
      have h2 : Post (rI X.K) X.K ι (match M1[a]? with | some (.lst xs) => .ok (xs.map .val, [(a, .lst xs)]) M1 | some (.frz xs) => .ok (xs.map .val, [(a, .frz xs)]) M1 | some (.tup xs) => .ok (xs.map .val, [(a, .tup xs)]) M1 | _ => .bad) Q := h
      cases e : M1[a]? with
      | none => rw [e] at h2; exact (h2 : False).elim
      | some o =>
        rw [e] at h2
        cases o with
        | lst xs =>
          refine .inl (k ι M H σ τ _ R S ?_)
          rw [em]
          intro ι1 H1 u p1 R1 r1
          obtain ⟨q, hq, rfl⟩ := r1
          obtain ⟨vs, hv, rv⟩ := R1.obj a q _ hq e
          exact ⟨q, rfl, ⟨vs, SqL.of hv⟩, h2 ι1 H1 _ p1 R1 (itl_ok hq (.inl rfl))⟩
        | frz xs =>
          refine .inl (k ι M H σ τ _ R S ?_)
          rw [em]
          intro ι1 H1 u p1 R1 r1
          obtain ⟨q, hq, rfl⟩ := r1
          obtain ⟨vs, hv, rv⟩ := R1.obj a q _ hq e
          exact ⟨q, rfl, ⟨vs, hv.sq⟩, h2 ι1 H1 _ p1 R1 (itl_ok hq (.inr rfl))⟩
        | tup xs =>
          refine .inr (k ι M H σ τ _ R S ?_)
          rw [em]
          intro ι1 H1 u p1 R1 r1
          obtain ⟨q, hq, rfl⟩ := r1
          obtain ⟨vs, hv, rv⟩ := R1.obj a q _ hq e
          exact ⟨q, rfl, ⟨vs, SqT.of hv⟩, h2 ι1 H1 _ p1 R1 (itt_ok hq)⟩
        | dct xs => exact (h2 : False).elim
        | ins c xs => exact (h2 : False).elim
        | fnv x => exact (h2 : False).elim
    | _ => exact (h : False).elim
  | ex _ _ => rw [em] at h; exact (h : False).elim
  | bad => rw [em] at h; exact (h : False).elim
theorem si_rng1 {e : Expr} {m : VM.EM} {p pos : Pos} (hm : X.mg "range" = none) (he : SE X e m) (hg : Gl X "range" := by rfl) (hs : starEach [e] X.env = [(false, eval e X.env)] := by rfl) : SI X tg (.Call (.Name "range" p) [e] [] pos) (VM.iRng1 m) := by
  obtain ⟨t, pe, k⟩ := he
  refine ⟨_, pi_range1 hg hm (pa_cons pe pa_nil hs) hs, fun ι M H σ τ Q R S h => ?_⟩
  refine k ι M H σ τ _ R S (Post.seq h fun ι1 H1 x M1 u p1 R1 r1 h1 => ?_)
  cases x with
  | int j =>
    cases r1
    have h2 : Post (rI X.K) X.K ι1 (if j.natAbs < VM.two62 then .ok (VM.rng 0 j.toNat, []) M1 else .bad) Q := h1
    by_cases hc : j.natAbs < VM.two62
    · rw [if_pos hc] at h2
      exact ⟨j, rfl, by unfold VM.two62 at hc; omega, by unfold VM.two62 at hc; omega, Post.ok h2 R1 (itr_ok 0 j.toNat)⟩
    · rw [if_neg hc] at h2; exact (h2 : False).elim
  | _ => exact (h1 : False).elim
theorem si_rng2 {e f : Expr} {m n : VM.EM} {p pos : Pos} (hm : X.mg "range" = none) (he : SE X e m) (hf : SE X f n) (hg : Gl X "range" := by rfl) (hs : starEach [e, f] X.env = [(false, eval e X.env), (false, eval f X.env)] := by rfl) (hs2 : starEach [f] X.env = [(false, eval f X.env)] := by rfl) : SI X tg (.Call (.Name "range" p) [e, f] [] pos) (VM.iRng2 m n) := by
  obtain ⟨t, pe, k⟩ := he
  obtain ⟨u, pf, l⟩ := hf
  refine ⟨_, pi_range2 hg hm (pa_cons pe (pa_cons pf pa_nil hs2) (hs.trans (by rw [hs2]))) hs hs2, fun ι M H σ τ Q R S h => ?_⟩
  refine k ι M H σ τ _ R S (Post.seq h fun ι1 H1 x M1 u p1 R1 r1 h1 => ?_)
  refine l ι1 M1 H1 σ τ _ R1 (S.mono p1) (Post.seq h1 fun ι2 H2 y M2 v p2 R2 r2 h2 => ?_)
  have rx := r1.mono p2
  cases x with
  | int i =>
    cases y with
    | int j =>
      cases rx
      cases r2
      have h3 : Post (rI X.K) X.K ι2 (if i.natAbs < VM.two62 ∧ j.natAbs < VM.two62 then .ok (VM.rng i (j - i).toNat, []) M2 else .bad) Q := h2
      by_cases hc : i.natAbs < VM.two62 ∧ j.natAbs < VM.two62
      · rw [if_pos hc] at h3
        exact ⟨i, j, rfl, by unfold VM.two62 at hc; omega, Post.ok h3 R2 (itr_ok i (j - i).toNat)⟩
      · rw [if_neg hc] at h3; exact (h3 : False).elim
    | _ => exact (h2 : False).elim
  | _ => cases y <;> exact (h2 : False).elim
theorem ss_for {iter : Expr} {body : List Stmt} {mi : VM.IM} {g : VM.GM} {m : VM.SM} {pos} (hp : PassesOwn (model X.prog X.w) X.A X.env X.xe) (hc : X.calm = true) (hi : SI X tg iter mi) (hg : SG X tg g) (hb : SSs X body m)
    (hs : ∀ x, foldedSetIterable iter X.env x = pure x := by intro _; rfl) : SS X (.For tg iter body [] pos) (VM.sFor mi g m) := by
  obtain ⟨wi, pi, ki⟩ := hi
  obtain ⟨tgt, pg, kg⟩ := hg
  obtain ⟨tb, pb, kb⟩ := hb
  refine ⟨_, ps_for hp hc pi pg pb hs, fun ι M H σ τ D R S h => ?_⟩
  refine ki ι M H σ τ _ R S (PostS.seq h fun ι1 H1 pr M1 J p1 R1 J1 h1 => ?_)
  obtain ⟨srcs, chk⟩ := pr
  have J1 : ItOk X.K ι1 J srcs chk := J1
  have h1 : PostS X.K ι1 (VM.loop chk g m srcs σ M1) D := h1
  refine ⟨fun i k τ H => i ≤ srcs.length ∧ k = srcs.length - i ∧ ∃ ι' M σ, ι1 <+: ι' ∧ Rel X.K ι' M H ∧ RSt ι' σ τ ∧ PostS X.K ι' (VM.loop chk g m (srcs.drop i) σ M) D,
    ⟨srcs.length, Nat.zero_le _, rfl, ι1, M1, σ, pre_refl, R1, S.mono p1, h1⟩, ?_⟩
  rintro i k τ H ⟨hi, rfl, ι', M, σ, q, R, S, h⟩
  by_cases hlt : i < srcs.length
  · have ex : srcs[i]? = some srcs[i] := by simp [hlt]
    rw [List.drop_eq_getElem_cons hlt] at h
    have h' : PostS X.K ι' (if chk.ok M = true then
      (srcs[i].get M).bindS fun v M1 => (g v σ M1).bindS fun σ1 M2 => match m σ1 M2 with
        | .nx σ2 M3 => VM.loop chk g m (srcs.drop (i + 1)) σ2 M3
        | .ct σ2 M3 => VM.loop chk g m (srcs.drop (i + 1)) σ2 M3
        | .bk σ2 M3 => .nx σ2 M3
        | .rt v M3 => .rt v M3
        | .ex v M3 => .ex v M3
        | .bad => .bad
      else .bad) D := h
    by_cases hck : chk.ok M = true
    · rw [if_pos hck] at h'
      refine .inr ⟨J1.go i ι' M H _ q R hck ex, fun τ' H' => ∃ ι2 M σ, ι1 <+: ι2 ∧ Rel X.K ι2 M H' ∧ RSt ι2 σ τ' ∧ PostS X.K ι2 (VM.loop chk g m (srcs.drop (i + 1)) σ M) D, fun τ' H' z => ⟨srcs.length - (i + 1), by omega, hlt, rfl, z⟩, fun v H' y => ?_⟩
      obtain ⟨ι2, w, M2, q2, eg, R2, rv⟩ := J1.yld i ι' M H _ v H' q R hck ex y
      rw [eg] at h'
      have h2 : PostS X.K ι2 ((g w σ M2).bindS fun σ1 M2 => match m σ1 M2 with
        | .nx σ2 M3 => VM.loop chk g m (srcs.drop (i + 1)) σ2 M3
        | .ct σ2 M3 => VM.loop chk g m (srcs.drop (i + 1)) σ2 M3
        | .bk σ2 M3 => .nx σ2 M3
        | .rt v M3 => .rt v M3
        | .ex v M3 => .ex v M3
        | .bad => .bad) D := PostS.mono q2 h'
      refine kg ι2 M2 H' σ τ w v _ R2 (S.mono q2) rv (PostS.seq h2 fun ι3 H3 σ3 M3 τ3 q3 R3 S3 h3 => ?_)
      refine kb ι3 M3 H3 σ3 τ3 _ R3 S3 ?_
      have q13 : ι1 <+: ι3 := List.IsPrefix.trans q (List.IsPrefix.trans q2 q3)
      cases e : m σ3 M3 with
      | nx σ4 M4 =>
        rw [e] at h3
        have h3' : PostS X.K ι3 (VM.loop chk g m (srcs.drop (i + 1)) σ4 M4) D := h3
        exact fun ι4 H4 τ4 q4 R4 S4 => ⟨ι4, M4, σ4, List.IsPrefix.trans q13 q4, R4, S4, PostS.mono q4 h3'⟩
      | ct σ4 M4 =>
        rw [e] at h3
        have h3' : PostS X.K ι3 (VM.loop chk g m (srcs.drop (i + 1)) σ4 M4) D := h3
        exact fun ι4 H4 τ4 q4 R4 S4 => ⟨ι4, M4, σ4, List.IsPrefix.trans q13 q4, R4, S4, PostS.mono q4 h3'⟩
      | bk σ4 M4 => rw [e] at h3; exact h3
      | rt v M4 => rw [e] at h3; exact h3
      | ex v M4 => rw [e] at h3; exact h3
      | bad => rw [e] at h3; exact h3
    · rw [if_neg hck] at h'; exact (h' : False).elim
  · have hz : i = srcs.length := by omega
    subst hz
    rw [List.drop_length] at h
    have h' : PostS X.K ι' (if chk.ok M = true then .nx σ M else .bad) D := h
    by_cases hck : chk.ok M = true
    · rw [if_pos hck] at h'
      exact .inl ⟨J1.stop _ ι' M H q R hck (Nat.le_refl _), h' ι' H τ pre_refl R S⟩
    · rw [if_neg hck] at h'; exact (h' : False).elim
end
end SV
end
section
set_option Elab.async false
set_option linter.all false
set_option autoImplicit false
set_option maxRecDepth 100000
set_option maxHeartbeats 4000000
namespace SV
open PySem PySem.Spec PyProof.Rows L2
theorem compLoop_any {prog : Program} {w : World} {A : Around} {R : Result → Shared → Prop} {s : Shared} {elt target iter : Expr} {ifs : List Expr} {scope : Scope} {pos : Pos} {it acc : Value} {env : Env} (I : Nat → Shared → Prop)
    (turn : ∀ n s, I n s → wpAny (model prog w) A (pyNext it) (fun r s₁ => match r with
      | none => R (.ok .next) s₁
      | some v => wpAny (model prog w) A (letOwnedTupleGo target it v) (fun _ s₁' => wpAny (model prog w) A (assign target env v) (fun _ s₂ =>
          wpAny (model prog w) A (forIn ifs true fun c r => if r = true then do let ok ← isTrue c env (eval c env); pure (ForInStep.yield ok) else pure (ForInStep.yield r)) (fun ok s₃ =>
            if ok = true then wpAny (model prog w) A (eval elt env) (fun x s₄ =>
              wpAny (model prog w) A (call (.builtin "list.append") [acc, x]) (fun _ s₅ => ∃ m, m < n ∧ I m s₅) (notedBy (model prog w) A env fun e s' => R (.error e) s') s₄) (notedBy (model prog w) A env fun e s' => R (.error e) s') s₃
            else ∃ m, m < n ∧ I m s₃) (notedBy (model prog w) A env fun e s' => R (.error e) s') s₂) (notedBy (model prog w) A env fun e s' => R (.error e) s') s₁') (notedBy (model prog w) A env fun e s' => R (.error e) s') s₁) (notedBy (model prog w) A env fun e s' => R (.error e) s') s)
    (n : Nat) (h : I n s) :
    codeAny (model prog w) A (.compLoop (.ListComp elt [⟨target, iter, ifs, 0⟩] scope pos) 0 it acc env) R s := by
  refine codeAny_loop rfl I (fun n s hI => ?_) n h
  show wpAny _ A ((compTurn (.ListComp elt [⟨target, iter, ifs, 0⟩] scope pos) 0 it acc env).onRaise (fun x => do noteFrame x env; theTreesLotGoes x)) _ _ s
  refine wpAny_noted ?_
  rw [compTurn_list]
  refine wpAny_bind (wpAny_standAt (wpAny_bind (wpAny_mono (turn n s hI) (fun r s₁ h₁ => ?_) fun _ _ h' => h')))
  cases r with
  | none => exact wpAny_pure h₁
  | some v =>
    refine wpAny_bind (wpAny_mono h₁ (fun _ s₁' h₁' => ?_) fun _ _ h' => h')
    refine wpAny_bind (wpAny_mono h₁' (fun _ s₂ h₂ => wpAny_bind (wpAny_mono h₂ (fun ok s₃ h₃ => ?_) fun _ _ h' => h')) fun _ _ h' => h')
    cases ok with
    | false => exact wpAny_pure ⟨rfl, h₃⟩
    | true =>
      exact wpAny_bind (wpAny_bind (wpAny_mono h₃ (fun x s₄ h₄ => wpAny_bind (wpAny_mono h₄ (fun _ s₅ h₅ => wpAny_pure (wpAny_pure ⟨rfl, h₅⟩)) fun _ _ h' => h')) fun _ _ h' => h'))
def tIfs (ifs : List Expr) (env : Env) : Sem Bool := forIn ifs true fun c r => if r = true then do let ok ← isTrue c env (eval c env); pure (ForInStep.yield ok) else pure (ForInStep.yield r)
def SIfs (X : Cx) (ifs : List Expr) (m : VM.TM) : Prop := ∃ te : TT, (∀ (pins : List (Addr × Obj)) (s : Shared) (σ : L2.St) (H : Hp) (Q : Bool → Hp → Prop), Inv X pins σ H s → te σ H Q → wpAny (model X.prog X.w) X.A (tIfs ifs X.env) (TP X pins σ Q) X.xe s) ∧
  ∀ ι M H σ τ Q, Rel X.K ι M H → RSt ι σ τ → Post rB X.K ι (m σ M) Q → te τ H Q
theorem sifs_nil {X : Cx} : SIfs X [] VM.tTrue := by
  refine ⟨fun _ H Q => Q true H, fun pins s σ H Q I h => ?_, fun ι M H σ τ Q R S h => Post.ok (b := true) h R rfl⟩
  exact wpAny_pure ⟨H, I, h⟩
theorem sifs_one {X : Cx} {c : Expr} {m : VM.TM} (h : STt X c m) : SIfs X [c] m := by
  obtain ⟨t, p, k⟩ := h
  exact ⟨t, fun pins s σ H Q I h => wpAny_tests_one (p pins s σ H Q I h), k⟩
def cxB (X : Cx) (N : List Str) (scope : Scope) (cl : List (Str × Addr)) (C : Addr) (s₂ : Shared) (H₂ : Hp) (fp : List Addr) : Cx :=
  { X with N := N, s₀ := s₂, H₀ := H₂, env := compEnvC scope cl C X.env, outer := X.stack, stack := X.stack, ex := fp, fn := fun _ => false, pn := [], xe := fun _ _ => False }
def clOf (cells : List (Str × Addr)) : List (Str × NameKind) → List (Str × Addr) → List (Str × Addr)
  | [], acc => acc
  | (n, k) :: r, acc => if k == .free then (match cells.lookup n with | some c => clOf cells r ((n, c) :: acc) | none => clOf cells r acc) else clOf cells r acc
def freeOk (env : Env) : List (Str × NameKind) → Bool
  | [] => true
  | (n, k) :: r => (!(k == .free) || ((env.cells.lookup n).isSome && (env.kindOf n == some .cell || env.kindOf n == some .free))) && freeOk env r
theorem clOf_cons (cells : List (Str × Addr)) (n : Str) (k : NameKind) (r : List (Str × NameKind)) (acc : List (Str × Addr)) : clOf cells ((n, k) :: r) acc = if k == .free then (match cells.lookup n with | some c => clOf cells r ((n, c) :: acc) | none => clOf cells r acc) else clOf cells r acc := rfl
theorem closure_of {env : Env} : ∀ (names : List (Str × NameKind)) (acc : List (Str × Addr)), freeOk env names = true →
    (forIn (m := Sem) names acc fun (x : Str × NameKind) (cs : List (Str × Addr)) => if x.2 == .free then do let a ← cellOf env x.1; pure (ForInStep.yield ((x.1, a) :: cs)) else pure (ForInStep.yield cs)) = pure (clOf env.cells names acc)
  | [], acc, _ => by simp [clOf]
  | (n, k) :: r, acc, h => by
    unfold freeOk at h
    rw [Bool.and_eq_true] at h
    rw [List.forIn_cons]
    by_cases hk : (k == NameKind.free) = true
    · have hc := h.1
      rw [hk] at hc
      simp only [Bool.not_true, Bool.false_or, Bool.and_eq_true] at hc
      cases e : env.cells.lookup n with
      | none => rw [e] at hc; exact absurd hc.1 (by simp)
      | some c =>
        have ih := closure_of r ((n, c) :: acc) h.2
        simp only [hk, if_true]
        have ec : cellOf env n = pure c := by unfold cellOf; rw [e]
        rw [ec]
        show (forIn (m := Sem) r ((n, c) :: acc) _) = _
        rw [ih]
        rw [clOf_cons, if_pos hk, e]
    · have ih := closure_of r acc h.2
      have hk' : (k == NameKind.free) = false := by simpa using hk
      simp only [hk', Bool.false_eq_true, if_false]
      show (forIn (m := Sem) r acc _) = _
      rw [ih]
      rw [clOf_cons, if_neg hk]
theorem closureFor_of {scope : Scope} {env : Env} (h : freeOk env scope.names = true) : closureFor scope env = pure (clOf env.cells scope.names []) := by
  unfold closureFor
  have e := closure_of (env := env) scope.names [] h
  simp only [bind_pure]
  exact e
theorem clOf_sub {cells : List (Str × Addr)} : ∀ (names : List (Str × NameKind)) (acc : List (Str × Addr)) {x : Str} {c : Addr}, (∀ y d, (y, d) ∈ acc → cells.lookup y = some d) → (x, c) ∈ clOf cells names acc → cells.lookup x = some c
  | [], acc, x, c, h, e => h x c e
  | (n, k) :: r, acc, x, c, h, e => by
    unfold clOf at e
    by_cases hk : (k == NameKind.free) = true
    · rw [if_pos hk] at e
      cases q : cells.lookup n with
      | none => rw [q] at e; exact clOf_sub r acc h e
      | some d =>
        rw [q] at e
        refine clOf_sub r ((n, d) :: acc) (fun y d' hy => ?_) e
        rcases List.mem_cons.mp hy with z | z
        · cases z; exact q
        · exact h y d' z
    · rw [if_neg hk] at e; exact clOf_sub r acc h e
theorem clOf_keeps {cells : List (Str × Addr)} : ∀ (names : List (Str × NameKind)) (acc : List (Str × Addr)) {p : Str × Addr}, p ∈ acc → p ∈ clOf cells names acc
  | [], acc, p, h => h
  | (n, k) :: r, acc, p, h => by
    unfold clOf
    split
    · split
      · exact clOf_keeps r _ (List.mem_cons_of_mem _ h)
      · exact clOf_keeps r _ h
    · exact clOf_keeps r _ h
theorem clOf_has {cells : List (Str × Addr)} : ∀ (names : List (Str × NameKind)) (acc : List (Str × Addr)) {x : Str} {c : Addr}, (x, NameKind.free) ∈ names → cells.lookup x = some c → (x, c) ∈ clOf cells names acc
  | [], acc, x, c, h, e => by simp at h
  | (n, k) :: r, acc, x, c, h, e => by
    unfold clOf
    rcases List.mem_cons.mp h with z | z
    · cases z
      rw [if_pos (by rfl), e]
      exact clOf_keeps r _ List.mem_cons_self
    · split
      · split
        · exact clOf_has r _ z e
        · exact clOf_has r _ z e
      · exact clOf_has r _ z e
theorem lookup_some_of_mem {α : Type} : ∀ {l : List (Str × α)} {x : Str} {c : α}, (x, c) ∈ l → ∃ d, l.lookup x = some d
  | [], x, c, h => by simp at h
  | (n, d) :: r, x, c, h => by
    rw [List.lookup_cons]
    cases hx : x == n with
    | true => exact ⟨d, rfl⟩
    | false =>
      rcases List.mem_cons.mp h with z | z
      · cases z; simp at hx
      · exact lookup_some_of_mem z
theorem relabel_free {env : Env} : ∀ {names : List (Str × NameKind)} {x : Str} {k : NameKind}, (∀ y ∈ names, y.2 ≠ .cell) →
    (names.map fun (n, k) => if (k == NameKind.free && env.scope.kind == .function && env.kindOf n == some .cell) then (n, NameKind.cell) else (n, k)).lookup x = some k → k = .cell ∨ k = .free → (x, NameKind.free) ∈ names
  | [], x, k, _, h, _ => by simp at h
  | (n, k0) :: r, x, k, hc, h, hk => by
    have ih := @relabel_free env r x k (fun y hy => hc y (List.mem_cons_of_mem _ hy))
    rw [List.map_cons] at h
    by_cases hb : (k0 == NameKind.free && env.scope.kind == .function && env.kindOf n == some .cell) = true
    · have e0 : k0 = .free := by
        rw [Bool.and_eq_true, Bool.and_eq_true] at hb
        exact beq_iff_eq.mp hb.1.1
      subst e0
      have e1 : (match ((n, NameKind.free) : Str × NameKind) with | (n, k) => if (k == NameKind.free && env.scope.kind == .function && env.kindOf n == some .cell) then (n, NameKind.cell) else (n, k)) = (n, NameKind.cell) := if_pos hb
      rw [e1, List.lookup_cons] at h
      cases hx : x == n with
      | true => rw [beq_iff_eq.mp hx]; exact List.mem_cons_self
      | false => rw [hx] at h; exact List.mem_cons_of_mem _ (ih h hk)
    · have e1 : (match ((n, k0) : Str × NameKind) with | (n, k) => if (k == NameKind.free && env.scope.kind == .function && env.kindOf n == some .cell) then (n, NameKind.cell) else (n, k)) = (n, k0) := if_neg hb
      rw [e1, List.lookup_cons] at h
      cases hx : x == n with
      | true =>
        rw [hx] at h
        have e2 : k0 = k := Option.some.inj h
        subst e2
        rcases hk with z | z
        · exact absurd z (hc (n, k0) List.mem_cons_self)
        · subst z; rw [beq_iff_eq.mp hx]; exact List.mem_cons_self
      | false => rw [hx] at h; exact List.mem_cons_of_mem _ (ih h hk)
theorem freeOk_mem {env : Env} : ∀ {names : List (Str × NameKind)} {x : Str}, freeOk env names = true → (x, NameKind.free) ∈ names → (∃ c, env.cells.lookup x = some c) ∧ (env.kindOf x = some .cell ∨ env.kindOf x = some .free)
  | [], x, _, h => by simp at h
  | (n, k) :: r, x, h, hm => by
    unfold freeOk at h
    rw [Bool.and_eq_true] at h
    rcases List.mem_cons.mp hm with z | z
    · cases z
      have h1 := h.1
      simp only [beq_self_eq_true, Bool.not_true, Bool.false_or, Bool.and_eq_true, Bool.or_eq_true] at h1
      obtain ⟨a, b⟩ := h1
      refine ⟨Option.isSome_iff_exists.mp a, ?_⟩
      rcases b with b | b
      · exact .inl (beq_iff_eq.mp b)
      · exact .inr (beq_iff_eq.mp b)
    · exact freeOk_mem h.2 z
def clrV (cl : List Nat) (τ : L2.St) : L2.St := cl.foldl (fun τ j => τ.set j none) τ
theorem clr_rst {ι : List Addr} : ∀ (cl : List Nat) {σ : VM.St} {τ : L2.St}, RSt ι σ τ → RSt ι (VM.clr cl σ) (clrV cl τ)
  | [], _, _, h => h
  | j :: r, _, _, h => clr_rst r (Paired.setP (F := RO1 ι) (x := none) (y := none) trivial j h)
theorem clrV_len : ∀ (cl : List Nat) (τ : L2.St), (clrV cl τ).length = τ.length
  | [], _ => rfl
  | j :: r, τ => by
    show (clrV r (τ.set j none)).length = _
    rw [clrV_len r, List.length_set]
theorem clrV_get : ∀ (cl : List Nat) (τ : L2.St) {i : Nat} {v : V}, (clrV cl τ)[i]? = some (some v) → i ∉ cl ∧ τ[i]? = some (some v)
  | [], _, i, v, h => ⟨by simp, h⟩
  | j :: r, τ, i, v, h => by
    obtain ⟨h1, h2⟩ := clrV_get r (τ.set j none) h
    by_cases hj : i = j
    · subst hj
      by_cases hl : i < τ.length
      · rw [List.getElem?_set_self hl] at h2; cases h2
      · rw [List.getElem?_eq_none (by rw [List.length_set]; omega)] at h2; cases h2
    · rw [List.getElem?_set_ne (Ne.symm hj)] at h2
      exact ⟨by simp [h1, hj], h2⟩
theorem rep_rst {ι : List Addr} : ∀ k : Nat, RSt ι (List.replicate k none) (List.replicate k none)
  | 0 => .nil
  | k + 1 => .cons trivial (rep_rst k)
structure Blk (X : Cx) (N : List Str) (k : Nat) (cl : List Nat) (scope : Scope) : Prop where
  len : N.length = X.N.length + k
  pre : ∀ i, i < X.N.length → N[i]? = X.N[i]?
  free : freeOk X.env scope.names = true
  cell : ∀ y ∈ scope.names, y.2 ≠ .cell
  kind : scope.kind = .function
  names : ∀ y ∈ scope.names, y.2 = .local → scope.names.lookup y.1 = some .local
  own : ∀ i x, N[i]? = some x → (relabel scope X.env).names.lookup x = some .local → i ∈ cl ∨ X.N.length ≤ i
theorem blk_start {X : Cx} {N : List Str} {k : Nat} {cl : List Nat} {scope : Scope} {pins : List (Addr × Obj)} {τ : L2.St} {H : Hp} {s s4 : Shared} {fp : List Addr} {C D : Addr} {oD : Obj} {mC : Str → Option Value} (B : Blk X N k cl scope)
    (I : Inv X pins τ H s) (hfp : ∀ b ∈ fp, FpOk X pins H b) (hfo : ∀ b ∈ fp, b < s.heap.objs.size) (old : ∀ b o, s.heap.get? b = some o → s4.heap.get? b = some o) (hos : s4.os = s.os) (hbare : AllBare s4.gens)
    (hC : s.heap.objs.size ≤ C) (hD : s.heap.objs.size ≤ D) (hDC : D ≠ C) (hn : s4.heap.Ns C mC) (hDo : s4.heap.get? D = some oD) (hDd : ∀ v, oD.data ≠ .cell v) :
    Inv (cxB X N scope (clOf X.env.cells scope.names []) C s H fp) [(D, oD)] (clrV cl (τ ++ List.replicate k none)) H s4 := by
  have sub : ∀ x c, (clOf X.env.cells scope.names []).lookup x = some c → X.env.cells.lookup x = some c := fun x c e => clOf_sub scope.names [] (fun y d hy => by simp at hy) (PySem.mem_of_lookup e)
  have hfr : ∀ x kk, (relabel scope X.env).names.lookup x = some kk → kk = .cell ∨ kk = .free → (x, NameKind.free) ∈ scope.names := fun x kk h hk => relabel_free B.cell h hk
  have stkb : ∀ b ∈ frs X.stack, b < s.heap.objs.size := fun b hb => by
    obtain ⟨_, o, ho, _⟩ := I.stack.mem hb
    exact Heap.lt_size ho
  refine ⟨⟨I.ok.mod, B.kind, I.ok.glob, I.ok.blt, hC, fun x y c h1 h2 => I.ok.inj x y c (sub x c h1) (sub y c h2), fun x hx => ?_, fun x c h _ => absurd (show false = true from h) (by decide), I.ok.hd, I.ok.frames, .inl rfl, fun b hb => ⟨?_, fun x c h => ?_⟩, I.bs, Nat.le_trans I.ok.bsz I.sz, fun b o e hb => ?_, fun b hb hb2 => ?_, I.stack, I.stkFree⟩,
    hos, hbare, Un.kept old, ⟨mC, hn, fun i x v h1 h2 h3 => ?_⟩, fun x c h => ?_, I.hok.fresh hC, fun x c h => I.freeC x c (sub x c h), fun p hp => ?_, I.hok.kept old, ?_⟩
  · have hx' : (relabel scope X.env).names.lookup x = some .cell ∨ (relabel scope X.env).names.lookup x = some .free := hx
    have hm : (x, NameKind.free) ∈ scope.names := by
      rcases hx' with z | z
      · exact hfr x _ z (.inl rfl)
      · exact hfr x _ z (.inr rfl)
    obtain ⟨⟨c, hc⟩, _⟩ := freeOk_mem B.free hm
    exact lookup_some_of_mem (clOf_has scope.names [] hm hc)
  · exact Nat.ne_of_lt (Nat.lt_of_lt_of_le (hfo b hb) hC)
  · exact (hfp b hb).2.2.2.2.1 x c (sub x c h)
  · rcases (hfp b hb).2.2.2.1 with z | z
    · exact I.ok.noex b o e z
    · exact absurd (Nat.lt_of_lt_of_le (Heap.lt_size (I.ok.bs b o e).1) z) (Nat.lt_irrefl _)
  · rcases List.mem_cons.mp (I.stkSub b hb2) with z | z
    · exact (hfp b hb).2.1 z
    · exact (hfp b hb).2.2.1 z
  · obtain ⟨hncl, h2⟩ := clrV_get cl _ h2
    have hi : i < τ.length := by
      by_cases hi : i < τ.length
      · exact hi
      · rw [List.getElem?_append_right (Nat.le_of_not_lt hi), List.getElem?_replicate] at h2
        split at h2 <;> cases h2
    rw [List.getElem?_append_left hi] at h2
    have hiN : i < X.N.length := by rw [← I.len]; exact hi
    have h1' : X.N[i]? = some x := by rw [← B.pre i hiN]; exact h1
    have h3' : (relabel scope X.env).names.lookup x = some .local ∨ (relabel scope X.env).names.lookup x = some .cell ∨ (relabel scope X.env).names.lookup x = some .free := h3
    have hkk : ∃ kk, (relabel scope X.env).names.lookup x = some kk ∧ (kk = .cell ∨ kk = .free) := by
      rcases h3' with z | z | z
      · rcases B.own i x h1 z with q | q
        · exact absurd q hncl
        · omega
      · exact ⟨_, z, .inl rfl⟩
      · exact ⟨_, z, .inr rfl⟩
    obtain ⟨kk, hk1, hk2⟩ := hkk
    have hm := hfr x kk hk1 hk2
    obtain ⟨⟨c, hc⟩, hkind⟩ := freeOk_mem B.free hm
    obtain ⟨m, _, hl⟩ := I.loc
    obtain ⟨u, ru, lk⟩ := hl i x v h1' h2 (by rcases hkind with z | z; exact .inr (.inl z); exact .inr (.inr z))
    refine ⟨u, ru, .inr ⟨by rcases hk2 with z | z <;> subst z; exact .inl hk1; exact .inr hk1, ?_⟩⟩
    obtain ⟨d, hd⟩ := lookup_some_of_mem (clOf_has scope.names [] hm hc)
    have ed := sub x d hd
    rcases lk with ⟨q, _⟩ | ⟨_, c', hc', hcell⟩
    · rcases hkind with z | z
      · rw [z] at q; cases q
      · rw [z] at q; cases q
    · rw [hc'] at ed; cases ed
      refine ⟨d, hd, ?_⟩
      obtain ⟨o, ho, hod⟩ := hcell
      exact ⟨o, old _ o ho, hod⟩
  · obtain ⟨v, o, ho, hod⟩ := I.cell x c (sub x c h)
    exact ⟨v, o, old _ o ho, hod⟩
  · have hp' : p ∈ ([] : List (Addr × Obj)) ++ [(D, oD)] := hp
    have e : p = (D, oD) := by simpa using hp'
    subst e
    refine ⟨hDo, I.hok.fresh hD, hDC, fun hb => ?_, hDd⟩
    exact absurd (Nat.lt_of_lt_of_le (stkb D hb) hD) (Nat.lt_irrefl _)
  · show (clrV cl (τ ++ List.replicate k none)).length = N.length
    rw [clrV_len, List.length_append, List.length_replicate, I.len, B.len]
theorem blk_end {X : Cx} {N : List Str} {scope : Scope} {cells : List (Str × Addr)} {pins pinsB : List (Addr × Obj)} {τ τc : L2.St} {H2 H : Hp} {s2 s' : Shared} {fp : List Addr} {C D : Addr} {oC : Obj} {its : List Value} {vs : List V} {n : Nat}
    (I2 : Inv X pins τ H2 s2) (hfp : ∀ b ∈ fp, FpOk X pins H2 b) (Ic : Inv (cxB X N scope cells C s2 H2 fp) pinsB τc H s') (hC : s2.heap.objs.size ≤ C) (hD : s2.heap.objs.size ≤ D) (hDC : D ≠ C) (hDn : H D = none)
    (hDo : s'.heap.get? D = some { cls := .type "list", data := .seq its.toArray n }) (r : Vals vs its) (hz : vs.length ≤ sizeLine) (hCo : s'.heap.get? C = some oC) (hCd : ∀ v, oC.data ≠ .cell v) :
    Inv X (pins ++ [(C, oC)]) τ (upd H D (.lst vs)) s' := by
  have neD : ∀ {b : Addr} {u : HO}, H b = some u → b ≠ D := fun e => ne_of_none e hDn
  have u0 : Un (frs X.stack) fp H2 H s2.heap s'.heap := Ic.base
  have hCn : H C = none := Ic.free
  have u : Un (frs X.stack) fp H2 (upd H D (.lst vs)) s2.heap s'.heap := ⟨u0.keep, u0.slot, fun b o e n' hx => by rw [upd_ne (Nat.ne_of_lt (Nat.lt_of_lt_of_le (Heap.lt_size e) hD))]; exact u0.free b o e n' hx, u0.there,
    fun b xs e => by have e' := u0.tups b xs e; rw [upd_ne (neD e')]; exact e', fun b o w e => by have e' := u0.frzs b o w e; rw [upd_ne (neD e')]; exact e', fun b ps e => by obtain ⟨m, e'⟩ := u0.tbls b ps e; exact ⟨m, by rw [upd_ne (neD e')]; exact e'⟩⟩
  have hok : HOk X.prog X.w (upd H D (.lst vs)) s'.heap := fun a o e => by
    by_cases ha : a = D
    · subst ha
      rw [upd_same] at e
      cases e
      exact ⟨hz, its, n, r, hDo⟩
    · rw [upd_ne ha] at e
      exact (Ic.hok a o e).stay (fun b w _ q => q) (fun b q => by rw [upd_ne (neD q)]; exact q) fun b xs q => by rw [upd_ne (neD q)]; exact q
  have I' : Inv X pins τ (upd H D (.lst vs)) s' := I2.call' (ch := fp) Ic.os u hok Ic.bare fun b hb => ⟨(hfp b hb).2.2.2.1, (hfp b hb).2.1, (hfp b hb).2.2.2.2.1, (hfp b hb).2.2.2.2.2⟩
  refine I'.pins_of fun p hp => ?_
  rcases List.mem_append.mp hp with z | z
  · exact I'.pin p (List.mem_append_right _ z)
  · have e : p = (C, oC) := by simpa using z
    subst e
    exact ⟨hCo, by rw [upd_ne (Ne.symm hDC)]; exact hCn, Nat.ne_of_gt (Nat.lt_of_lt_of_le I2.lt hC), I2.nofs hC, hCd⟩
theorem blk_drop {X : Cx} {pins : List (Addr × Obj)} {τ τ' : L2.St} {H2 H : Hp} {s2 s' : Shared} {C : Addr} {oC : Obj} {h' : Heap} (I2 : Inv X pins τ H2 s2) (hC : s2.heap.objs.size ≤ C) (I : Inv X (pins ++ [(C, oC)]) τ' H s') (hs : Heap.SameBut C s'.heap h') : Inv X pins τ' H { s' with heap := h' } := by
  obtain ⟨_, e2, e3, _, _⟩ := I.pin (C, oC) (List.mem_append_right _ (List.mem_append_right _ (by simp)))
  refine Inv.turned (t' := s'.toks) (it := C) I.unpinned (fun b o hb e => hs.extBut b o hb e) e2 e3 (.inr (Nat.le_trans I2.sz hC)) (fun x c e z => ?_) fun p hp z => ?_
  · obtain ⟨v, q⟩ := I2.cell x c e
    exact absurd (Nat.lt_of_lt_of_le q.lt (by rw [z]; exact hC)) (Nat.lt_irrefl _)
  · exact absurd (Nat.lt_of_lt_of_le (Heap.lt_size (I2.pin p hp).1) (by rw [z]; exact hC)) (Nat.lt_irrefl _)
theorem bind_assoc {α β γ : Type} (r : VM.R α) (f : α → VM.Mem → VM.R β) (h : β → VM.Mem → VM.R γ) : (r.bind f).bind h = r.bind fun a M => (f a M).bind h := by
  cases r <;> rfl
theorem comp_cons (chk : VM.Chk) (g : VM.GM) (t : VM.TM) (m : VM.EM) (x : VM.Src) (r : List VM.Src) (σ : VM.St) (M : VM.Mem) (ws : List VM.W) (h : chk.ok M = true) :
    (VM.comp chk g t m (x :: r) σ M ws).bind VM.newL = (x.get M).bind fun v M1 => (g v σ M1).bind fun σ1 M2 => (t σ1 M2).bind fun b M3 =>
      if b then (m σ1 M3).bind fun y M4 => (VM.comp chk g t m r σ1 M4 (ws ++ [y])).bind VM.newL else (VM.comp chk g t m r σ1 M3 ws).bind VM.newL := by
  rw [VM.comp, if_pos h, bind_assoc]
  congr 1; funext v M1
  rw [bind_assoc]
  congr 1; funext σ1 M2
  rw [bind_assoc]
  congr 1; funext b M3
  cases b
  · rfl
  · exact bind_assoc _ _ _
theorem comp_len {chk : VM.Chk} {g : VM.GM} {t : VM.TM} {m : VM.EM} : ∀ {srcs : List VM.Src} {σ : VM.St} {M : VM.Mem} {ws r : List VM.W} {M' : VM.Mem}, VM.comp chk g t m srcs σ M ws = .ok r M' → ws.length ≤ r.length
  | [], σ, M, ws, r, M', h => by
    rw [VM.comp] at h
    split at h
    · cases h; exact Nat.le_refl _
    · cases h
  | x :: rest, σ, M, ws, r, M', h => by
    rw [VM.comp] at h
    split at h
    · cases e1 : x.get M with
      | ok v M1 =>
        rw [e1] at h
        cases e2 : g v σ M1 with
        | ok σ1 M2 =>
          simp only [VM.R.bind, e2] at h
          cases e3 : t σ1 M2 with
          | ok b M3 =>
            simp only [e3] at h
            cases b with
            | true =>
              simp only [if_true] at h
              cases e4 : m σ1 M3 with
              | ok y M4 =>
                simp only [e4] at h
                have := comp_len h
                rw [List.length_append, List.length_singleton] at this
                omega
              | ex _ _ => simp only [e4] at h; cases h
              | bad => simp only [e4] at h; cases h
            | false => simp only [Bool.false_eq_true, if_false] at h; exact comp_len h
          | ex _ _ => simp only [e3] at h; cases h
          | bad => simp only [e3] at h; cases h
        | ex _ _ => simp only [VM.R.bind, e2] at h; cases h
        | bad => simp only [VM.R.bind, e2] at h; cases h
      | ex _ _ => rw [e1] at h; cases h
      | bad => rw [e1] at h; cases h
    · cases h
theorem comp_lim {K : Fg} {ι : List Addr} {chk : VM.Chk} {g : VM.GM} {t : VM.TM} {m : VM.EM} {srcs : List VM.Src} {σ : VM.St} {M : VM.Mem} {ws : List VM.W} {Q : VK} (h : Post RV K ι ((VM.comp chk g t m srcs σ M ws).bind VM.newL) Q) : ws.length ≤ sizeLine := by
  cases e : VM.comp chk g t m srcs σ M ws with
  | ok r M' =>
    rw [e] at h
    have h' : Post RV K ι (VM.newL r M') Q := h
    have hl := comp_len e
    unfold VM.newL at h'
    by_cases hr : r.length ≤ VM.lim
    · exact Nat.le_trans hl hr
    · rw [if_neg hr] at h'; exact (h' : False).elim
  | ex _ _ => rw [e] at h; exact (h : False).elim
  | bad => rw [e] at h; exact (h : False).elim
theorem comp_core {X : Cx} {N : List Str} {k : Nat} {cl : List Nat} {scope : Scope} {tg iter elt : Expr} {ifs : List Expr} {pos : Pos} {g : VM.GM} {t : VM.TM} {m : VM.EM} {pins : List (Addr × Obj)} {τ : L2.St} {H2 : Hp} {s2 : Shared} {J : It} {fp : List Addr} {it : Addr} {tn : Nat → Heap → Prop}
    {ι : List Addr} {M : VM.Mem} {σ : VM.St} {srcs : List VM.Src} {chk : VM.Chk} {Qv : VK} {RR : Value → Addr → Result → Shared → Prop} {E : Value → Shared → Prop} (B : Blk X N k cl scope) (calm : X.calm = true)
    (hg : ∀ C s H fp, SG (cxB X N scope (clOf X.env.cells scope.names []) C s H fp) tg g) (ht : ∀ C s H fp, SIfs (cxB X N scope (clOf X.env.cells scope.names []) C s H fp) ifs t) (hm : ∀ C s H fp, SE (cxB X N scope (clOf X.env.cells scope.names []) C s H fp) elt m)
    (I2 : Inv X pins τ H2 s2) (T : Turn X.prog X.w X.K tg J fp it tn) (st : tn 0 s2.heap) (hfp : ∀ b ∈ fp, FpOk X pins H2 b) (R2 : Rel X.K ι M H2) (S2 : RSt ι σ τ) (J2 : ItOk X.K ι J srcs chk)
    (hpost : Post RV X.K ι ((VM.comp chk g t m srcs (VM.clr cl (σ ++ List.replicate k none)) M []).bind VM.newL) Qv)
    (hRR : ∀ D C oC mC s' H', s2.heap.objs.size ≤ C → s'.heap.Ns C mC → Inv X (pins ++ [(C, oC)]) τ H' s' → Qv (.ref D) H' → RR (.ref D) C (.ok .next) s') :
    wpAny (model X.prog X.w) X.A (newList []) (fun acc s₃ => wpAny (model X.prog X.w) X.A (newFunctionEnv scope X.env.globals (clOf X.env.cells scope.names []) [] X.env.qual none .none (some X.env)) (fun cenv s₄ =>
      codeAny (model X.prog X.w) X.A (.compStart (.ListComp elt [⟨tg, iter, ifs, 0⟩] scope pos) 0 (.ref it) acc { cenv with scope := relabel scope X.env }) (RR acc cenv.locals) s₄) E s₃) E s2 := by
  refine wpAny_newObj_type (wpAny_newFunctionEnv B.cell (by intro y hy; simp at hy) (fun h₁ hns₁ hsb₁ => ?_) B.kind)
  dsimp only at hns₁ hsb₁ ⊢
  generalize hH2 : s2.heap.push { cls := .type "list", dict := none, data := .seq ([] : List Value).toArray } = HP at hns₁ hsb₁ ⊢
  generalize hCC : HP.objs.size = C at hns₁ hsb₁ ⊢
  generalize hDD : s2.heap.objs.size = D at hns₁ hsb₁ ⊢
  have hC : C = D + 1 := by rw [← hCC, ← hH2, Heap.size_push, hDD]
  have hDC : D ≠ C := by omega
  have hD' : s2.heap.objs.size ≤ D := by omega
  have hC' : s2.heap.objs.size ≤ C := by omega
  have below : ∀ b, b < s2.heap.objs.size → b ≠ C ∧ b ≠ D := fun b hb => ⟨by omega, by omega⟩
  have old : ∀ b o, s2.heap.get? b = some o → h₁.get? b = some o := fun b o e => hsb₁.extBut b o (below b (Heap.lt_size e)).1 (Heap.get?_push_of_some _ (hH2 ▸ Heap.get?_push_of_some _ e))
  have hacc : h₁.get? D = some { cls := .type "list", data := .seq ([] : List Value).toArray 0 } := hsb₁.extBut _ _ hDC (Heap.get?_push_of_some _ (by rw [← hH2, ← hDD]; exact Heap.get?_push_size _ rfl))
  have hfo : ∀ b ∈ fp, b < s2.heap.objs.size := fun b hb => by
    obtain ⟨o, e, _⟩ := T.obj 0 _ st b hb
    exact Heap.lt_size e
  have fpc : ∀ {pinsB : List (Addr × Obj)} {H : Hp}, (∀ b ∈ fp, H b = none) → (∀ p ∈ pinsB, p.1 = D) → ∀ b ∈ fp, FpOk (cxB X N scope (clOf X.env.cells scope.names []) C s2 H2 fp) pinsB H b := fun {pinsB H} hn hp b hb => by
    refine ⟨hn b hb, (below b (hfo b hb)).1, fun z => ?_, .inl hb, fun x c e => ?_, fun p hp' z => ?_⟩
    · rcases List.mem_cons.mp (I2.stkSub b z) with q | q
      · exact (hfp b hb).2.1 q
      · exact (hfp b hb).2.2.1 q
    · exact (hfp b hb).2.2.2.2.1 x c (clOf_sub scope.names [] (fun y d hy => by simp at hy) (PySem.mem_of_lookup e))
    · have hp2 : p ∈ ([] : List (Addr × Obj)) ++ pinsB := hp'
      rw [List.nil_append] at hp2
      exact (below b (hfo b hb)).2 (by rw [← z, hp p hp2])
  -- the state ahead of the loop
  have loop : ∀ s3 : Shared, s3 = { s2 with heap := h₁, toks := s2.toks + ([] : List (Str × Value)).length } →
      codeAny (model X.prog X.w) X.A (.compLoop (.ListComp elt [⟨tg, iter, ifs, 0⟩] scope pos) 0 (.ref it) (.ref D) (compEnvC scope (clOf X.env.cells scope.names []) C X.env)) (RR (.ref D) C) s3 := by
    rintro s3 rfl
    have Ib := blk_start (s4 := { s2 with heap := h₁, toks := s2.toks + ([] : List (Str × Value)).length }) B I2 hfp hfo old rfl I2.bare hC' hD' hDC hns₁ hacc (fun v z => nomatch z)
    refine compLoop_any (fun n s => ∃ i ι' M' σ' τ' H' ws vs its nn, i ≤ srcs.length ∧ n = srcs.length + 1 - i ∧ Inv (cxB X N scope (clOf X.env.cells scope.names []) C s2 H2 fp) [(D, { cls := .type "list", data := .seq (its : List Value).toArray nn })] τ' H' s ∧ tn i s.heap ∧ (∀ b ∈ fp, H' b = none) ∧
      ι <+: ι' ∧ Rel X.K ι' M' H' ∧ RSt ι' σ' τ' ∧ RVs ι' ws vs ∧ Vals vs its ∧ Post RV X.K ι' ((VM.comp chk g t m (srcs.drop i) σ' M' ws).bind VM.newL) Qv) ?_ (srcs.length + 1)
      ⟨0, ι, M, _, _, H2, [], [], [], 0, Nat.zero_le _, rfl, Ib, T.keep _ _ _ st (fun b hb o e => old b o e), fun b hb => (hfp b hb).1, pre_refl, R2, clr_rst cl (Paired.app S2 (rep_rst k)), .nil, .nil, hpost⟩
    rintro n s ⟨i, ι', M', σ', τ', H', ws, vs, its, nn, hi, rfl, I, sti, hn, pι, R, S, rw', rv, hp⟩
    by_cases hlt : i < srcs.length
    · have ex : srcs[i]? = some srcs[i] := by simp [hlt]
      rw [List.drop_eq_getElem_cons hlt] at hp
      have hck : chk.ok M' = true := by
        by_cases hck : chk.ok M' = true
        · exact hck
        · rw [VM.comp, if_neg hck] at hp; exact (hp : False).elim
      rw [comp_cons _ _ _ _ _ _ _ _ _ hck] at hp
      refine thn (T.item (cxB X N scope (clOf X.env.cells scope.names []) C s2 H2 fp) rfl rfl rfl calm i _ s τ' H' _ I (fpc hn (by simp)) sti (J2.go i ι' M' H' _ pι R hck ex)) fun r s1 ⟨u, hr, h1⟩ => ?_
      subst hr
      refine thn h1 fun _ s1' ⟨x, H1, I1, rx, y1, st1, fr1⟩ => ?_
      obtain ⟨ι2, w, M2, q2, eg, R2', rw2⟩ := J2.yld i ι' M' H' _ x H1 pι R hck ex y1
      rw [eg] at hp
      have I1' := I1.pinned (fpc fr1 (by simp)) (T.obj _ _ st1)
      obtain ⟨gt, pg, kg⟩ := hg C s2 H2 fp
      obtain ⟨tt, pt, kt⟩ := ht C s2 H2 fp
      obtain ⟨te, pe, ke⟩ := hm C s2 H2 fp
      have hp1 : Post RV X.K ι2 ((g w σ' M2).bind fun σ1 M2 => (t σ1 M2).bind fun b M3 =>
        if b then (m σ1 M3).bind fun y M4 => (VM.comp chk g t m (srcs.drop (i + 1)) σ1 M4 (ws ++ [y])).bind VM.newL else (VM.comp chk g t m (srcs.drop (i + 1)) σ1 M3 ws).bind VM.newL) Qv := Post.up q2 hp
      -- what is pinned through the turn
      have again : ∀ {n' : Nat} {τ7 : L2.St} {H7 : Hp} {s7 : Shared} {ι7 : List Addr} {M7 : VM.Mem} {σ7 : VM.St} {ws7 : List VM.W} {vs7 : List V} {its7 : List Value}, Inv (cxB X N scope (clOf X.env.cells scope.names []) C s2 H2 fp) ([(D, { cls := .type "list", data := .seq its7.toArray n' })] ++ pinsAt fp s1'.heap) τ7 H7 s7 →
          ι <+: ι7 → Rel X.K ι7 M7 H7 → RSt ι7 σ7 τ7 → RVs ι7 ws7 vs7 → Vals vs7 its7 → Post RV X.K ι7 ((VM.comp chk g t m (srcs.drop (i + 1)) σ7 M7 ws7).bind VM.newL) Qv →
          ∃ n, n < srcs.length + 1 - i ∧ ∃ i ι' M' σ' τ' H' ws vs its nn, i ≤ srcs.length ∧ n = srcs.length + 1 - i ∧ Inv (cxB X N scope (clOf X.env.cells scope.names []) C s2 H2 fp) [(D, { cls := .type "list", data := .seq (its : List Value).toArray nn })] τ' H' s7 ∧ tn i s7.heap ∧ (∀ b ∈ fp, H' b = none) ∧
            ι <+: ι' ∧ Rel X.K ι' M' H' ∧ RSt ι' σ' τ' ∧ RVs ι' ws vs ∧ Vals vs its ∧ Post RV X.K ι' ((VM.comp chk g t m (srcs.drop i) σ' M' ws).bind VM.newL) Qv := by
        intro n' τ7 H7 s7 ι7 M7 σ7 ws7 vs7 its7 I7 p7 R7 S7 rw7 rv7 hp7
        refine ⟨srcs.length + 1 - (i + 1), by omega, i + 1, ι7, M7, σ7, τ7, H7, ws7, vs7, its7, n', hlt, rfl, I7.unpinned, T.keep _ _ _ st1 fun b hb o e => (I7.pin (b, o) (List.mem_append_right _ (List.mem_append_right _ (mem_pinsAt hb e)))).1, fun b hb => ?_, p7, R7, S7, rw7, rv7, hp7⟩
        obtain ⟨o, e, d⟩ := T.obj _ _ st1 b hb
        exact (I7.pin (b, o) (List.mem_append_right _ (List.mem_append_right _ (mem_pinsAt hb e)))).2.1
      refine wpAny_mono (pg _ s1' τ' H1 x u _ I1' rx (kg ι2 M2 H1 σ' τ' w x (fun τ3 H3 => ∃ ι3 M3 σ3, ι2 <+: ι3 ∧ Rel X.K ι3 M3 H3 ∧ RSt ι3 σ3 τ3 ∧ Post RV X.K ι3 ((t σ3 M3).bind fun b M4 =>
        if b then (m σ3 M4).bind fun y M5 => (VM.comp chk g t m (srcs.drop (i + 1)) σ3 M5 (ws ++ [y])).bind VM.newL else (VM.comp chk g t m (srcs.drop (i + 1)) σ3 M4 ws).bind VM.newL) Qv) R2' (S.mono q2) rw2 (Post.seq hp1 fun ι3 H3 σ3 M3 τ3 q3 R3 S3 h3 => ⟨ι3, M3, σ3, q3, R3, S3, h3⟩))) (fun _ s3 ⟨τ3, H3, I3, ι3, M3, σ3, q3, R3, S3, h3⟩ => ?_) fun _ _ f => f.elim
      refine wpAny_mono (pt _ s3 τ3 H3 (fun b H4 => ∃ ι4 M4, ι3 <+: ι4 ∧ Rel X.K ι4 M4 H4 ∧ Post RV X.K ι4 (if b then (m σ3 M4).bind fun y M5 => (VM.comp chk g t m (srcs.drop (i + 1)) σ3 M5 (ws ++ [y])).bind VM.newL else (VM.comp chk g t m (srcs.drop (i + 1)) σ3 M4 ws).bind VM.newL) Qv)
        I3 (kt ι3 M3 H3 σ3 τ3 _ R3 S3 (Post.seq h3 fun ι4 H4 b M4 b' q4 R4 e4 h4 => by cases e4; exact ⟨ι4, M4, q4, R4, h4⟩))) (fun b s4 ⟨H4, I4, ι4, M4, q4, R4, h4⟩ => ?_) fun _ _ f => f.elim
      have q14 : ι <+: ι4 := pι.trans (q2.trans (q3.trans q4))
      have q'4 : ι' <+: ι4 := q2.trans (q3.trans q4)
      cases b with
      | false =>
        rw [if_neg Bool.false_ne_true]
        exact again I4 q14 R4 (S3.mono q4) (RVs.mono q'4 rw') rv h4
      | true =>
        rw [if_pos rfl]
        refine wpAny_mono (pe _ s4 τ3 H4 (fun v H5 => ∃ ι5 M5 y, ι4 <+: ι5 ∧ Rel X.K ι5 M5 H5 ∧ RV ι5 y v ∧ Post RV X.K ι5 ((VM.comp chk g t m (srcs.drop (i + 1)) σ3 M5 (ws ++ [y])).bind VM.newL) Qv)
          I4 (ke ι4 M4 H4 σ3 τ3 _ R4 (S3.mono q4) (Post.seq h4 fun ι5 H5 y M5 v q5 R5 r5 h5 => ⟨ι5, M5, y, q5, R5, r5, h5⟩))) (fun yv s5 ⟨v, H5, I5, rv5, ι5, M5, y, q5, R5, r5, h5⟩ => ?_) fun _ _ f => f.elim
        have hlim := comp_lim h5
        have hwl : ws.length = its.length := (Paired.len rw').trans rv.length
        obtain ⟨eD, nD, neL, nfs, _⟩ := I5.pin (D, { cls := .type "list", data := .seq its.toArray nn }) (by show _ ∈ ([] : List (Addr × Obj)) ++ _; simp)
        refine call_meets F.slot_list_append ⟨_, eD, rfl⟩ F.entry_list_append (F.args_list_append_2 _ _) (PySem.list_append D its.toArray nn yv (by rw [List.size_toArray, ← hwl]; rw [List.length_append, List.length_singleton] at hlim; omega)) ⟨eD, ?_⟩
        obtain ⟨n', eup⟩ : ∃ n' : Nat, (s5.heap.update D (Obj.mapSeq fun x_1 => x_1.push yv)).get? D = some { cls := .type "list", data := .seq (its ++ [yv]).toArray n' } := by
          have q := PySem.IsL.update eD (fun x_1 => x_1.push yv)
          have e3 : its.toArray.push yv = (its ++ [yv]).toArray := by simp
          rw [e3] at q
          exact ⟨_, q⟩
        have I6 : Inv (cxB X N scope (clOf X.env.cells scope.names []) C s2 H2 fp) (pinsAt fp s1'.heap) τ3 H5 { s5 with heap := s5.heap.update D (Obj.mapSeq fun x_1 => x_1.push yv), toks := s5.toks } := by
          refine Inv.turned (it := D) (t' := s5.toks) (I5.pins_of fun p hp => I5.pin p (List.mem_append_right _ (List.mem_append_right _ hp))) (fun b o hb e => (Heap.get?_update_other _ _ (Ne.symm hb)).trans e) nD neL (.inr hD') (fun x c e z => ?_) fun p hp z => ?_
          · obtain ⟨vv, q⟩ := I2.cell x c (clOf_sub scope.names [] (fun y d hy => by simp at hy) (PySem.mem_of_lookup e))
            exact absurd (Nat.lt_of_lt_of_le q.lt (by rw [z]; exact hD')) (Nat.lt_irrefl _)
          · have hp2 : p ∈ ([] : List (Addr × Obj)) ++ pinsAt fp s1'.heap := hp
            rw [List.nil_append] at hp2
            exact (below p.1 (hfo p.1 (of_pinsAt hp2).1)).2 z
        have I7 : Inv (cxB X N scope (clOf X.env.cells scope.names []) C s2 H2 fp) ([(D, { cls := .type "list", data := .seq (its ++ [yv]).toArray n' })] ++ pinsAt fp s1'.heap) τ3 H5 { s5 with heap := s5.heap.update D (Obj.mapSeq fun x_1 => x_1.push yv), toks := s5.toks } := by
          refine I6.pins_of fun p hp => ?_
          rcases List.mem_append.mp hp with z | z
          · have e : p = (D, { cls := .type "list", data := .seq (its ++ [yv]).toArray n' }) := by simpa using z
            subst e
            exact ⟨eup, nD, neL, nfs, fun v z => nomatch z⟩
          · exact I6.pin p (List.mem_append_right _ z)
        refine again I7 (q14.trans q5) R5 (S3.mono (q4.trans q5)) (Paired.app (RVs.mono (q'4.trans q5) rw') (.cons r5 .nil)) (rv.append (.cons rv5 .nil)) h5
    · have hz : i = srcs.length := by omega
      subst hz
      rw [List.drop_length] at hp
      have hck : chk.ok M' = true := by
        by_cases hck : chk.ok M' = true
        · exact hck
        · rw [VM.comp, if_neg hck] at hp; exact (hp : False).elim
      have hp2 : Post RV X.K ι' (VM.newL ws M') Qv := by rw [VM.comp, if_pos hck] at hp; exact hp
      refine thn (T.done (cxB X N scope (clOf X.env.cells scope.names []) C s2 H2 fp) rfl rfl rfl calm srcs.length _ s τ' H' _ I (fpc hn (by simp)) sti (J2.stop _ ι' M' H' pι R hck (Nat.le_refl _))) fun r s1 ⟨hr, I1⟩ => ?_
      subst hr
      obtain ⟨eD, nD, neL, nfs, _⟩ := I1.pin (D, { cls := .type "list", data := .seq its.toArray nn }) (by show _ ∈ ([] : List (Addr × Obj)) ++ _; simp)
      obtain ⟨mC, nsC, _⟩ := I1.loc
      have nsC : s1.heap.Ns C mC := nsC
      obtain ⟨oC, es, ep, hoC, hdC, _⟩ := id nsC
      have fin := newL_post R rw' hp2
      refine hRR D C oC mC s1 _ hC' nsC (blk_end I2 hfp I1 hC' hD' hDC nD eD rv fin.1 hoC fun v z => by rw [hdC] at z; cases z) (fin.2 D nD)
  exact codeAny_compStart_list (loop _ rfl) (T.self _ 0 _ _ _ (T.keep _ _ _ st fun b hb o e => old b o e) (loop _ rfl))
theorem relabel_local {env : Env} : ∀ {names : List (Str × NameKind)} {x : Str},
    (names.map fun (n, k) => if (k == NameKind.free && env.scope.kind == .function && env.kindOf n == some .cell) then (n, NameKind.cell) else (n, k)).lookup x = some .local → names.lookup x = some .local
  | [], x, h => by simp at h
  | (n, k0) :: r, x, h => by
    have ih := @relabel_local env r x
    rw [List.map_cons] at h
    by_cases hb : (k0 == NameKind.free && env.scope.kind == .function && env.kindOf n == some .cell) = true
    · have e1 : (match ((n, k0) : Str × NameKind) with | (n, k) => if (k == NameKind.free && env.scope.kind == .function && env.kindOf n == some .cell) then (n, NameKind.cell) else (n, k)) = (n, NameKind.cell) := if_pos hb
      rw [e1, List.lookup_cons] at h
      rw [List.lookup_cons]
      cases hx : x == n with
      | true => rw [hx] at h; cases h
      | false => rw [hx] at h; exact ih h
    · have e1 : (match ((n, k0) : Str × NameKind) with | (n, k) => if (k == NameKind.free && env.scope.kind == .function && env.kindOf n == some .cell) then (n, NameKind.cell) else (n, k)) = (n, k0) := if_neg hb
      rw [e1, List.lookup_cons] at h
      rw [List.lookup_cons]
      cases hx : x == n with
      | true => rw [hx] at h; exact h
      | false => rw [hx] at h; exact ih h
def ownOk (N : List Str) (cl : List Nat) (n : Nat) (names : List (Str × NameKind)) : Bool := (List.range N.length).all fun i => match N[i]? with
  | some x => !(names.lookup x == some NameKind.local) || cl.contains i || decide (n ≤ i)
  | none => true
theorem blk_mk {X : Cx} {ex : List Str} {cl : List Nat} {scope : Scope} (free : freeOk X.env scope.names = true) (cell : ∀ y ∈ scope.names, y.2 ≠ .cell) (kind : scope.kind = .function) (names : ∀ y ∈ scope.names, y.2 = .local → scope.names.lookup y.1 = some .local)
    (own : ownOk (X.N ++ ex) cl X.N.length scope.names = true) : Blk X (X.N ++ ex) ex.length cl scope := by
  refine ⟨by simp, fun i hi => by rw [List.getElem?_append_left hi], free, cell, kind, names, fun i x h1 h2 => ?_⟩
  have h3 : scope.names.lookup x = some .local := relabel_local h2
  have hi : i < (X.N ++ ex).length := (List.getElem?_eq_some_iff.mp h1).1
  have h4 := List.all_eq_true.mp own i (List.mem_range.mpr hi)
  rw [h1] at h4
  have h5 : (!(scope.names.lookup x == some NameKind.local) || cl.contains i || decide (X.N.length ≤ i)) = true := h4
  rw [h3] at h5
  simp only [beq_self_eq_true, Bool.not_true, Bool.false_or, Bool.or_eq_true, List.contains_eq_mem, decide_eq_true_eq] at h5
  exact h5
theorem se_comp {X : Cx} {ex : List Str} {cl : List Nat} {scope : Scope} {tg iter elt : Expr} {ifs : List Expr} {pos : Pos} {mi : VM.IM} {g : VM.GM} {t : VM.TM} {m : VM.EM} (B : Blk X (X.N ++ ex) ex.length cl scope) (calm : X.calm = true) (hi : SI X tg iter mi)
    (hg : ∀ C s H fp, SG (cxB X (X.N ++ ex) scope (clOf X.env.cells scope.names []) C s H fp) tg g) (ht : ∀ C s H fp, SIfs (cxB X (X.N ++ ex) scope (clOf X.env.cells scope.names []) C s H fp) ifs t) (hm : ∀ C s H fp, SE (cxB X (X.N ++ ex) scope (clOf X.env.cells scope.names []) C s H fp) elt m)
    (hs : ∀ x, foldedSetIterable iter X.env x = pure x := by intro _; rfl) : SE X (.ListComp elt [⟨tg, iter, ifs, 0⟩] scope pos) (VM.eComp ex.length cl mi g t m) := by
  obtain ⟨wi, pi, ki⟩ := hi
  refine ⟨fun τ H Q => ∃ ι M σ, Rel X.K ι M H ∧ RSt ι σ τ ∧ Post RV X.K ι (VM.eComp ex.length cl mi g t m σ M) Q, fun pins s τ H Q I h => ?_, fun ι M H σ τ Q R S h => ⟨ι, M, σ, R, S, h⟩⟩
  obtain ⟨ι, M, σ, R, S, h⟩ := h
  rw [eval_ListComp]
  refine wpAny_comprehension_free (use := none) rfl hs (closureFor_of B.free) B.kind B.names
    (thn (pi pins s τ H (fun J H1 => ∃ ι1 M1 srcs chk, ι <+: ι1 ∧ Rel X.K ι1 M1 H1 ∧ ItOk X.K ι1 J srcs chk ∧ Post RV X.K ι1 ((VM.comp chk g t m srcs (VM.clr cl (σ ++ List.replicate ex.length none)) M1 []).bind VM.newL) Q) I
      (ki ι M H σ τ _ R S (Post.seq h fun ι1 H1 pr M1 J p1 R1 J1 h1 => ⟨ι1, M1, pr.1, pr.2, p1, R1, J1, h1⟩))) fun v s1 h1 => thn h1 fun itv s2 h2 => ?_)
  obtain ⟨it, fp, tn, J, H2, e, I2, T, st2, f2, ι1, M1, srcs, chk, p1, R1, J1, hp⟩ := h2
  subst e
  exact comp_core (RR := fun acc C => compPost (model X.prog X.w) X.A X.xe none (EP X pins τ Q) acc C) B calm hg ht hm I2 T st2 f2 R1 (S.mono p1) J1 hp fun D C oC mC s' H' hC nsC I' q =>
    ⟨mC, nsC, fun h' hs' => ⟨.ref D, H', blk_drop I2 hC I' hs', rfl, q⟩⟩
theorem ss_setc {X : Cx} {ex : List Str} {cl : List Nat} {scope : Scope} {tg iter elt : Expr} {ifs : List Expr} {pos spos py : Pos} {y : Str} {i : Nat} {mi : VM.IM} {g : VM.GM} {t : VM.TM} {m : VM.EM} (hN : X.N.Nodup) (B : Blk X (X.N ++ ex) ex.length cl scope) (calm : X.calm = true) (hi : SI X tg iter mi)
    (hg : ∀ C s H fp, SG (cxB X (X.N ++ ex) scope (clOf X.env.cells scope.names []) C s H fp) tg g) (ht : ∀ C s H fp, SIfs (cxB X (X.N ++ ex) scope (clOf X.env.cells scope.names []) C s H fp) ifs t) (hm : ∀ C s H fp, SE (cxB X (X.N ++ ex) scope (clOf X.env.cells scope.names []) C s H fp) elt m)
    (hy : X.N[i]? = some y := by rfl) (hx : Loc X.env.scope y := by first | exact Or.inl rfl | exact Or.inr rfl) (hf : X.fn y = true ∨ X.env.scope.names.lookup y = some .local := by first | exact .inl rfl | exact .inr rfl | assumption)
    (hsw : swapsWith (.ListComp elt [⟨tg, iter, ifs, 0⟩] scope pos) (some (.Name y py)) spos.line X.env = pure true := by rfl)
    (hs : ∀ x, foldedSetIterable iter X.env x = pure x := by intro _; rfl) : SS X (.Assign [.Name y py] (.ListComp elt [⟨tg, iter, ifs, 0⟩] scope pos) spos) (VM.sAsg (VM.eComp ex.length cl mi g t m) (VM.gName i)) := by
  obtain ⟨wi, pi, ki⟩ := hi
  refine ⟨fun D τ H => ∃ ι M σ, Rel X.K ι M H ∧ RSt ι σ τ ∧ PostS X.K ι (VM.sAsg (VM.eComp ex.length cl mi g t m) (VM.gName i) σ M) D, fun pins s τ H D I h => ?_, fun ι M H σ τ D R S h => ⟨ι, M, σ, R, S, h⟩⟩
  obtain ⟨ι, M, σ, R, S, h⟩ := h
  have h0 : Post RV X.K ι (VM.eComp ex.length cl mi g t m σ M) (fun v H1 => D.nx (τ.set i (some v)) H1) := PostS.seq h fun ι1 H1 w M1 v p1 R1 r1 h1 =>
    h1 ι1 H1 _ pre_refl R1 (Paired.setP (F := RO1 ι1) (x := some w) (y := some v) ⟨v, rfl, r1⟩ i (S.mono p1))
  rw [exec_Assign_Name_used _ _ _ _ hsw]
  refine wpAny_bind (wpAny_standAt (wpAny_bind ?_))
  show wpAny _ X.A (do let _ ← comprehension (.ListComp elt [⟨tg, iter, ifs, 0⟩] scope pos) scope X.env _ (newList []) false (eval iter X.env) (some (assign (.Name y py) X.env))) _ _ s
  refine wpAny_bind (wpAny_mono (wpAny_comprehension_free (use := some (assign (.Name y py) X.env)) (Q := fun _ s' => SP X pins D .next s') rfl hs (closureFor_of B.free) B.kind B.names
    (thn (pi pins s τ H (fun J H1 => ∃ ι1 M1 srcs chk, ι <+: ι1 ∧ Rel X.K ι1 M1 H1 ∧ ItOk X.K ι1 J srcs chk ∧ Post RV X.K ι1 ((VM.comp chk g t m srcs (VM.clr cl (σ ++ List.replicate ex.length none)) M1 []).bind VM.newL) (fun v H1 => D.nx (τ.set i (some v)) H1)) I
      (ki ι M H σ τ _ R S (Post.seq h0 fun ι1 H1 pr M1 J p1 R1 J1 h1 => ⟨ι1, M1, pr.1, pr.2, p1, R1, J1, h1⟩))) fun v s1 h1 => thn h1 fun itv s2 h2 => ?_)) (fun _ s' hq => wpAny_pure (wpAny_pure hq)) fun _ _ e => e)
  obtain ⟨it, fp, tn, J, H2, e, I2, T, st2, f2, ι1, M1, srcs, chk, p1, R1, J1, hp⟩ := h2
  subst e
  refine comp_core (RR := fun acc C => compPost (model X.prog X.w) X.A X.xe (some (assign (.Name y py) X.env)) (fun _ s' => SP X pins D .next s') acc C) B calm hg ht hm I2 T st2 f2 R1 (S.mono p1) J1 hp fun A' C oC mC s' H' hC nsC I' q => ?_
  obtain ⟨eC, _⟩ := I'.pin (C, oC) (List.mem_append_right _ (List.mem_append_right _ (by simp)))
  refine thn (pg_name hN hy hx hf _ s' τ H' (.ref A') (.ref A') (fun τ' H'' => τ' = τ.set i (some (.ref A')) ∧ H'' = H') I' rfl ⟨rfl, rfl⟩) fun _ s'' ⟨τ', H'', I'', e1, e2⟩ => ?_
  subst e1 e2
  obtain ⟨eC2, _⟩ := I''.pin (C, oC) (List.mem_append_right _ (List.mem_append_right _ (by simp)))
  refine ⟨mC, ?_, fun h' hs' => ⟨_, _, blk_drop I2 hC I'' hs', q⟩⟩
  obtain ⟨o, es, ep, ho, r⟩ := nsC
  rw [eC] at ho; cases ho
  exact ⟨oC, es, ep, eC2, r⟩
end SV
end
section
set_option Elab.async false
set_option linter.all false
set_option autoImplicit false
set_option maxRecDepth 100000
set_option maxHeartbeats 4000000
namespace SV
open PySem PySem.Spec PyProof.Rows L2
theorem rst_start {ι : List Addr} {ws : List VM.W} {vs : List V} (r : RVs ι ws vs) (N : List Str) : RSt ι (ws.map some ++ List.replicate (N.length - ws.length) none) (L2.start N vs) := by
  unfold L2.start
  have hm : ∀ {ws : List VM.W} {vs : List V}, RVs ι ws vs → RSt ι (ws.map some) (vs.map some) := by
    intro ws vs r
    induction r with
    | nil => exact .nil
    | cons h _ ih => exact .cons ⟨_, rfl, h⟩ ih
  have hr : ∀ n : Nat, RSt ι (List.replicate n none) (List.replicate n none) := by
    intro n
    induction n with
    | zero => exact .nil
    | succ n ih => exact .cons trivial ih
  rw [Paired.len r]
  exact Paired.app (hm r) (hr _)
theorem fnv_mk {P : Program} {w : World} {K : Fg} {mg : Str → Option Value} {base : Heap} {k : Nat} {x qual : Str} {st : Stmt} {f : Addr} {fd : FuncData} {N ps : List Str} {np n : Nat} {body : VM.SM} (F : Fun K x qual st f fd) (S : FnScope N ps (defScope st)) (hm : mg x = some (.ref f)) (hb : Binds K fd ps [])
    (D : ∀ (cdv : Value) (A : Around) (outer : List Env) (s : Shared) (H : Hp) (E : XK), Room k (A.deeper (envOfC qual (defScope st) s.heap.objs.size f cdv)) → SSs (cxOf CX0 P w K mg base N qual (defScope st) f cdv A outer s H E).nox (defBody st) body)
    (hn : N.length = n := by rfl) (hp : ps.length = np := by rfl) : FnV P w K mg base (k + 1) x f fd ps (VM.fn np n body) := by
  subst hn hp
  refine ⟨F.ok S (fun vs H Q E h => h.1) (fun cdv A outer s H vs Q E hr h => ?_), hm, F.kp, hb, fun ws M hw => if_neg hw⟩
  obtain ⟨hl, ι, M, ws, R, r, h⟩ := h
  obtain ⟨t, pt, kt⟩ := D cdv A outer s H E hr
  refine ⟨t, pt, kt ι M H _ _ _ R (rst_start r N) ?_⟩
  have hw : ws.length = ps.length := by rw [Paired.len r]; exact hl
  have h2 : Post RV K ι (match body (ws.map some ++ List.replicate (N.length - ps.length) none) M with
    | .rt v M' => .ok v M'
    | .nx _ M' => .ok .non M'
    | .ex v M' => .ex v M'
    | _ => .bad) Q := by
    have h' : Post RV K ι (if ws.length = ps.length then (match body (ws.map some ++ List.replicate (N.length - ps.length) none) M with
      | .rt v M' => .ok v M'
      | .nx _ M' => .ok .non M'
      | .ex v M' => .ex v M'
      | _ => .bad) else .bad) Q := h
    rw [if_pos hw] at h'
    exact h'
  rw [hw]
  cases e : body (ws.map some ++ List.replicate (N.length - ps.length) none) M with
  | nx σ' M' => rw [e] at h2; exact fun ι' H' τ' p R' S' => h2 ι' H' .non p R' rfl
  | rt v M' => rw [e] at h2; exact h2
  | bk σ' M' => rw [e] at h2; exact (h2 : False).elim
  | ct σ' M' => rw [e] at h2; exact (h2 : False).elim
  | ex v M' => rw [e] at h2; exact (h2 : False).elim
  | bad => rw [e] at h2; exact (h2 : False).elim
theorem fnv_none {P : Program} {w : World} {K : Fg} {mg : Str → Option Value} {base : Heap} {x : Str} {f : Addr} {fd : FuncData} {ps : List Str} (hm : mg x = some (.ref f)) (kp : PySem.W.keepIn K (.ref f) = true) (hb : Binds K fd ps []) :
    FnV P w K mg base 0 x f fd ps (fun _ _ => .bad) := by
  have no : ∀ vs H Q E, ¬ spV K ps.length (fun _ _ => .bad) vs H Q E := fun vs H Q E h => by
    obtain ⟨_, _, _, _, _, _, h⟩ := h
    exact h
  exact ⟨⟨fun vs H Q E h => absurd h (no vs H Q E), fun A outer s H args us vs Q E _ _ _ _ h => absurd h (no vs H Q E)⟩, hm, kp, hb, fun _ _ _ => rfl⟩
def spLaw (K : Fg) : Sp := fun vs H Q _ => ∃ (a : Addr) (ns : List Int), vs = [.ref a] ∧ SqL K H a (ns.map V.int) ∧ ns.length ≤ 63 ∧ (∀ b, H b = none ∨ ∃ o xs, H b = some (.frz o (.lst xs))) ∧ ∀ H', Q (.bl true) H'
theorem law_ok {P : Program} {w : World} {K : Fg} {mg : Str → Option Value} {base : Heap} {k : Nat} {x a0 : Str} {f : Addr} {fd : FuncData} {c : VM.CM} (F : FnV P w K mg base k x f fd [a0] c)
    (math : ∀ ns : List Int, ns.length ≤ 63 → ∃ M, c [.ref 0] [.frz (ns.map .int)] = .ok (.bl true) M) : FnOk P w K mg base CX0 k f fd [a0] (spLaw K) := by
  refine F.ok.imp fun vs H Q E h => ?_
  obtain ⟨a, ns, rfl, hS, hl, hO, q⟩ := h
  obtain ⟨M', hm⟩ := math ns hl
  have rs : RVs [a] (ns.map VM.W.int) (ns.map V.int) := by
    clear hS hl q hm
    induction ns with
    | nil => exact .nil
    | cons n r ih => exact .cons rfl ih
  have fz : FzL K H a (ns.map V.int) := by
    rcases hS with (h | ⟨o, h⟩) | h
    · rcases hO a with z | ⟨o, xs, z⟩
      · rw [z] at h; cases h
      · rw [z] at h; cases h
    · exact .inl ⟨o, h⟩
    · exact .inr h
  refine ⟨rfl, [a], [.frz (ns.map .int)], [.ref 0], ⟨rfl, fun b p o h1 h2 => ?_, fun b b' p ob ob' h1 h2 h3 h4 l1 l2 => ?_⟩, .cons ⟨a, rfl, rfl⟩ .nil, ?_⟩
  · cases b with
    | zero => cases h1; cases h2; exact ⟨_, fz, rs⟩
    | succ b => cases h2
  · cases b with
    | zero => cases h3; cases l1
    | succ b => cases h3
  · rw [hm]
    intro ι' H' v _ _ rv
    cases rv
    exact q H'
end SV
end
section
set_option Elab.async false
set_option linter.all false
set_option autoImplicit false
set_option maxRecDepth 100000
set_option maxHeartbeats 4000000
namespace SV
open PySem PySem.Spec PyProof.Rows L2
def kname : VM.Kd → String
  | .int => "int"
  | .bool => "bool"
  | .str => "str"
  | .list => "list"
  | .tuple => "tuple"
inductive TyN where
  | non | bl | int | str | lst | tup
def TyN.name : TyN → String
  | .non => "NoneType"
  | .bl => "bool"
  | .int => "int"
  | .str => "str"
  | .lst => "list"
  | .tup => "tuple"
def TyN.is : TyN → VM.Kd → Bool
  | .non, _ => false
  | .bl, k => decide (k = .bool ∨ k = .int)
  | .int, k => decide (k = .int)
  | .str, k => decide (k = .str)
  | .lst, k => decide (k = .list)
  | .tup, k => decide (k = .tuple)
theorem kit_fact (K : Fg) (t : TyN) (k : VM.Kd) : PySem.W.kitOne K (.type t.name) (.type (kname k)) = some (t.is k) := by
  cases t <;> cases k <;> kernel_rfl
theorem kit_facts (K : Fg) (t : TyN) : ∀ ks : List VM.Kd, PySem.W.kitAny K (.type t.name) (ks.map fun k => .type (kname k)) = some (ks.any t.is)
  | [] => rfl
  | k :: r => by
    rw [List.map_cons, PySem.W.kitAny, kit_fact, kit_facts K t r, List.any_cons]
    cases t.is k <;> rfl
theorem ty_of {K : Fg} {ι : List Addr} {M : VM.Mem} {H : Hp} {w : VM.W} {v : V} {ks : List VM.Kd} {b : Bool} (R : Rel K ι M H) (r : RV ι w v) (e : VM.anyKd M w ks = some b) (hk : ks ≠ []) : ∃ t : TyN, TyOf K H v (.type t.name) ∧ ks.any t.is = b := by
  have key : ∃ t : TyN, TyOf K H v (.type t.name) ∧ ∀ k, VM.isKd M w k = some (t.is k) := by
    cases w with
    | non => cases r; exact ⟨.non, .non, fun k => rfl⟩
    | bl x => cases r; exact ⟨.bl, .bl x, fun k => rfl⟩
    | int i => cases r; exact ⟨.int, .int i, fun k => rfl⟩
    | str x => cases r; exact ⟨.str, .str _, fun k => rfl⟩
    | ref a =>
      obtain ⟨p, hp, rfl⟩ := r
      cases hm : M[a]? with
      | none =>
        exfalso
        cases ks with
        | nil => exact hk rfl
        | cons k rest =>
          have : VM.isKd M (.ref a) k = none := by unfold VM.isKd; simp only [hm]
          rw [VM.anyKd, this] at e
          cases e
      | some o =>
        have ro := R.obj a p o hp hm
        cases o with
        | lst xs =>
          obtain ⟨vs, h1, _⟩ := ro
          exact ⟨.lst, .lst h1, fun k => by unfold VM.isKd; simp only [hm] <;> rfl⟩
        | tup xs =>
          obtain ⟨vs, h1, _⟩ := ro
          exact ⟨.tup, .tup h1, fun k => by unfold VM.isKd; simp only [hm] <;> rfl⟩
        | frz xs =>
          exfalso
          cases ks with
          | nil => exact hk rfl
          | cons k rest =>
            have : VM.isKd M (.ref a) k = none := by unfold VM.isKd; simp only [hm]
            rw [VM.anyKd, this] at e
            cases e
        | dct xs =>
          exfalso
          cases ks with
          | nil => exact hk rfl
          | cons k rest =>
            have : VM.isKd M (.ref a) k = none := by unfold VM.isKd; simp only [hm]
            rw [VM.anyKd, this] at e
            cases e
        | ins c xs =>
          exfalso
          cases ks with
          | nil => exact hk rfl
          | cons k rest =>
            have : VM.isKd M (.ref a) k = none := by unfold VM.isKd; simp only [hm]
            rw [VM.anyKd, this] at e
            cases e
        | fnv xs =>
          exfalso
          cases ks with
          | nil => exact hk rfl
          | cons k rest =>
            have : VM.isKd M (.ref a) k = none := by unfold VM.isKd; simp only [hm]
            rw [VM.anyKd, this] at e
            cases e
  obtain ⟨t, h1, h2⟩ := key
  refine ⟨t, h1, ?_⟩
  have all : ∀ ks, VM.anyKd M w ks = some (ks.any t.is) := by
    intro ks
    induction ks with
    | nil => rfl
    | cons k r ih => rw [VM.anyKd, h2 k, ih, List.any_cons]
  rw [all ks] at e
  exact Option.some.inj e
section
variable {X : Cx} {pins : List (Addr × Obj)} {σ : L2.St} {H : Hp} {s : Shared}
theorem kx_of {x : V} {u : Value} {t : TyN} (I : Inv X pins σ H s) (rx : RelV x u) (ty : TyOf X.K H x (.type t.name)) : ∃ Hc : Heap → Prop, PySem.W.KitX X.K u (.type t.name) Hc ∧ Hc s.heap ∧ u ≠ .builtin "__main__.__loader__#opaque" := by
  generalize ht : Value.type t.name = tv at ty
  cases ty with
  | non => cases (show u = Value.none from rx); exact ⟨_, PySem.W.kitx_none, trivial, fun z => nomatch z⟩
  | bl y => cases (show u = Value.bool y from rx); exact ⟨_, PySem.W.kitx_bool, trivial, fun z => nomatch z⟩
  | int i => obtain ⟨tk, q⟩ := (show ∃ t, u = Value.int i t from rx); cases q; exact ⟨_, PySem.W.kitx_int, trivial, fun z => nomatch z⟩
  | str y => obtain ⟨tk, q⟩ := (show ∃ t, u = Value.str y t from rx); cases q; exact ⟨_, PySem.W.kitx_str, trivial, fun z => nomatch z⟩
  | flt y => obtain ⟨tk, q⟩ := (show ∃ t, u = Value.float y t from rx); cases q; exact ⟨_, PySem.W.kitx_float, trivial, fun z => nomatch z⟩
  | @lst a xs ea =>
    cases (show u = Value.ref a from rx)
    obtain ⟨_, _, n, _, h1⟩ := (show ObjOk X.prog X.w H s.heap a (.lst xs) from I.hok a _ ea)
    exact ⟨_, PySem.W.kitx_list, ⟨_, h1, rfl⟩, fun z => nomatch z⟩
  | @frz a ob xs ea =>
    cases (show u = Value.ref a from rx)
    obtain ⟨_, _, _, n, _, h1⟩ := (show ObjOk X.prog X.w H s.heap a (.frz ob (.lst xs)) from I.hok a _ ea)
    exact ⟨_, PySem.W.kitx_list, ⟨_, h1, rfl⟩, fun z => nomatch z⟩
  | @tup a xs ea =>
    cases (show u = Value.ref a from rx)
    obtain ⟨_, _, _, p⟩ := (show ObjOk X.prog X.w H s.heap a (.tup xs) from I.hok a _ ea)
    obtain ⟨o, h1, h2, _⟩ := p
    exact ⟨_, PySem.W.kitx_tuple, ⟨o, h1, h2⟩, fun z => nomatch z⟩
  | dK ea => cases t <;> (injection ht with z; exact absurd z (by decide))
  | dT ea => cases t <;> (injection ht with z; exact absurd z (by decide))
  | ins ea cl ha hn htk hm => cases ht
theorem call_isi1 : CallR X (.builtin "isinstance") (fun xs H Q => ∃ (x : V) (t : TyN) (k : VM.Kd), xs = [x, .ty (kname k)] ∧ TyOf X.K H x (.type t.name) ∧ Q (.bl (t.is k)) H) := by
  intro pins s σ H xs us Q I r h
  obtain ⟨x, t, k, rfl, ty, q⟩ := h
  cases r with
  | cons rx r2 =>
    cases r2 with
    | cons rc r3 =>
      cases r3
      rename_i u c
      have ec : c = Value.type (kname k) := rc
      subst ec
      obtain ⟨Hc, Z, hc, hne⟩ := kx_of I rx ty
      exact PySem.W.kia_one Z I.kIn hc (kit_fact X.K t k) hne fun tk => ⟨.bl (t.is k), H, I.tok _, rfl, q⟩
theorem vals_ty : ∀ {ks : List VM.Kd} {us : List Value}, Vals (ks.map fun k => V.ty (kname k)) us → us = ks.map fun k => Value.type (kname k)
  | [], _, .nil => rfl
  | k :: r, _, .cons h t => by
    have e : _ = Value.type (kname k) := h
    rw [List.map_cons, e, vals_ty t]
theorem call_isiT : CallR X (.builtin "isinstance") (fun xs H Q => ∃ (x : V) (t : TyN) (ks : List VM.Kd) (p : Addr), xs = [x, .ref p] ∧ H p = some (.tup (ks.map fun k => V.ty (kname k))) ∧ TyOf X.K H x (.type t.name) ∧ Q (.bl (ks.any t.is)) H) := by
  intro pins s σ H xs us Q I r h
  obtain ⟨x, t, ks, p, rfl, hp, ty, q⟩ := h
  cases r with
  | cons rx r2 =>
    cases r2 with
    | cons rc r3 =>
      cases r3
      rename_i u c
      have ec : c = Value.ref p := rc
      subst ec
      obtain ⟨_, its, rv, o, ho, hcls, n, hd⟩ := I.hok p _ hp
      have ei := vals_ty rv
      subst ei
      obtain ⟨cl, dd, dt, sl⟩ := o
      simp only at hcls hd
      subst hcls hd
      obtain ⟨Hc, Z, hc, hne⟩ := kx_of I rx ty
      exact PySem.W.kia_tup Z I.kIn hc ho (kit_facts X.K t ks) hne fun tk => ⟨.bl (ks.any t.is), H, I.tok _, rfl, q⟩
end
theorem Rel.other {K : Fg} {ι : List Addr} {M : VM.Mem} {H : Hp} (R : Rel K ι M H) {p : Addr} (hp : H p = none) (u : HO) : Rel K ι M (upd H p u) := by
  refine ⟨R.len, fun a q o h1 h2 => ?_, R.inj⟩
  have r := R.obj a q o h1 h2
  refine RO.other r (fun hl => ?_) fun ob vs e => by rw [hp] at e; cases e
  rintro rfl
  cases o with
  | lst xs => obtain ⟨vs, e, _⟩ := r; rw [hp] at e; cases e
  | tup xs => obtain ⟨vs, e, _⟩ := r; rw [hp] at e; cases e
  | frz xs => cases hl
  | dct xs => obtain ⟨vs, e, _⟩ := r; rw [hp] at e; cases e
  | ins c xs => obtain ⟨_, _, _, _, e, _⟩ := r; rw [hp] at e; cases e
  | fnv x => cases hl
theorem TyOf.other {K : Fg} {H : Hp} {v t : _} (h : TyOf K H v t) {p : Addr} (hp : H p = none) (u : HO) : TyOf K (upd H p u) v t := by
  cases h with
  | non => exact .non
  | bl x => exact .bl x
  | int x => exact .int x
  | str x => exact .str x
  | flt x => exact .flt x
  | lst e => exact .lst (by rw [upd_ne (ne_of_none e hp)]; exact e)
  | frz e => exact .frz (by rw [upd_ne (ne_of_none e hp)]; exact e)
  | tup e => exact .tup (by rw [upd_ne (ne_of_none e hp)]; exact e)
  | dK e => exact .dK (by rw [upd_ne (ne_of_none e hp)]; exact e)
  | dT e => exact .dT (by rw [upd_ne (ne_of_none e hp)]; exact e)
  | ins e cl ha hn htk hm => exact .ins (by rw [upd_ne (ne_of_none e hp)]; exact e) cl ha hn htk hm
section
variable {X : Cx}
theorem bb_kd (k : VM.Kd) : bootBuiltins (Str.ofString (kname k)) = some (.type (kname k)) := by cases k <;> kernel_rfl
theorem se_isi {a : Expr} {m : VM.EM} {x : Str} (k : VM.Kd) {p p2 pos : Pos} (hm : X.mg "isinstance" = none) (hmk : X.mg x = none) (ha : SE X a m) (hx : x = Str.ofString (kname k) := by rfl) (hg : Gl X "isinstance" := by rfl) (hgk : Gl X x := by rfl) (hn : x ≠ "__name__" := by decide +kernel) (hdb : (x == ("__debug__" : Str)) = false := by decide +kernel)
    (he : starEach [a, .Name x p2] X.env = (false, eval a X.env) :: starEach [.Name x p2] X.env := by rfl) (hpl : (backTo pos (starEach [.Name x p2] X.env)).any (·.1) = false := by rfl) (he2 : starEach [.Name x p2] X.env = (false, eval (.Name x p2) X.env) :: starEach [] X.env := by rfl) :
    SE X (.Call (.Name "isinstance" p) [a, .Name x p2] [] pos) (VM.eIs [k] m) := by
  obtain ⟨ta, pa, ka⟩ := ha
  have pn : PE X (.Name x p2) (tC (.ty (kname k))) := pe_bltn hgk hmk (by rw [hx]; exact bb_kd k) (show RelV (.ty (kname k)) (.type (kname k)) from rfl) hn hdb
  refine ⟨_, pe_callB call_isi1 hg hm (by kernel_rfl) (pa_cons pa (pa_cons pn pa_nil he2) he) (by decide +kernel) (by decide +kernel) he hpl, fun ι M H σ τ Q R S h => ?_⟩
  refine ka ι M H σ τ _ R S (Post.seq h fun ι1 H1 w M1 v p1 R1 r1 h1 => ?_)
  have h2 : Post RV X.K ι1 (match VM.anyKd M1 w [k] with | some b => VM.R.ok (.bl b) M1 | none => .bad) Q := h1
  cases e : VM.anyKd M1 w [k] with
  | none => rw [e] at h2; exact (h2 : False).elim
  | some b =>
    rw [e] at h2
    obtain ⟨t, ty, eb⟩ := ty_of R1 r1 e (by simp)
    refine ⟨v, t, k, rfl, ty, ?_⟩
    have eb' : t.is k = b := by simpa using eb
    rw [eb']
    exact Post.ok (b := V.bl b) h2 R1 rfl
def SCls (X : Cx) (es : List Expr) (ks : List VM.Kd) : Prop := PA X es (fun _ H Q => Q (ks.map fun k => V.ty (kname k)) H)
theorem scls_nil : SCls X [] [] := pa_nil
theorem scls_cons {x : Str} (k : VM.Kd) {p2 : Pos} {es : List Expr} {ks : List VM.Kd} (hmk : X.mg x = none) (hr : SCls X es ks) (hx : x = Str.ofString (kname k) := by rfl) (hgk : Gl X x := by rfl) (hn : x ≠ "__name__" := by decide +kernel) (hdb : (x == ("__debug__" : Str)) = false := by decide +kernel) (he : starEach (.Name x p2 :: es) X.env = (false, eval (.Name x p2) X.env) :: starEach es X.env := by rfl) :
    SCls X (.Name x p2 :: es) (k :: ks) := by
  have pn : PE X (.Name x p2) (tC (.ty (kname k))) := pe_bltn hgk hmk (by rw [hx]; exact bb_kd k) (show RelV (.ty (kname k)) (.type (kname k)) from rfl) hn hdb
  exact pa_cons pn hr he
theorem se_isiT {a : Expr} {m : VM.EM} {es : List Expr} {ks : List VM.Kd} {x1} {p p2 pos : Pos} (hm : X.mg "isinstance" = none) (ha : SE X a m) (hc : SCls X es ks) (hk : ks ≠ [] := by simp) (hl : ks.length ≤ 64 := by decide) (hg : Gl X "isinstance" := by rfl)
    (he : starEach [a, .Tuple es x1 p2] X.env = (false, eval a X.env) :: starEach [.Tuple es x1 p2] X.env := by rfl) (hpl : (backTo pos (starEach [.Tuple es x1 p2] X.env)).any (·.1) = false := by rfl) (he2 : starEach [.Tuple es x1 p2] X.env = (false, eval (.Tuple es x1 p2) X.env) :: starEach [] X.env := by rfl) :
    SE X (.Call (.Name "isinstance" p) [a, .Tuple es x1 p2] [] pos) (VM.eIs ks m) := by
  obtain ⟨ta, pa, ka⟩ := ha
  refine ⟨_, pe_callB call_isiT hg hm (by kernel_rfl) (pa_cons pa (pa_cons (pe_tup hc) pa_nil he2) he) (by decide +kernel) (by decide +kernel) he hpl, fun ι M H σ τ Q R S h => ?_⟩
  refine ka ι M H σ τ _ R S (Post.seq h fun ι1 H1 w M1 v p1 R1 r1 h1 => ?_)
  have h2 : Post RV X.K ι1 (match VM.anyKd M1 w ks with | some b => VM.R.ok (.bl b) M1 | none => .bad) Q := h1
  cases e : VM.anyKd M1 w ks with
  | none => rw [e] at h2; exact (h2 : False).elim
  | some b =>
    rw [e] at h2
    obtain ⟨t, ty, eb⟩ := ty_of R1 r1 e hk
    refine ⟨by rw [List.length_map]; exact Nat.le_trans hl (by decide), fun q hq => ?_⟩
    refine ⟨v, t, ks, q, rfl, upd_same, TyOf.other ty hq _, ?_⟩
    rw [eb]
    exact Post.ok (b := V.bl b) h2 (R1.other hq _) rfl
end
end SV
end
section
set_option Elab.async false
set_option linter.all false
set_option autoImplicit false
set_option maxRecDepth 100000
set_option maxHeartbeats 4000000
namespace SV
open PySem PySem.Spec PyProof.Rows L2
section
variable {X : Cx} {elts : List Expr} {x1 : Nat} {tpos : Pos}
theorem lstAt_rel {K : Fg} {ι : List Addr} {M : VM.Mem} {H : Hp} (R : Rel K ι M H) {w : VM.W} {v : V} {a : Nat} {o : VM.O} {xs : List VM.W} (e : VM.lstAt M w = some (a, o, xs)) (r : RV ι w v) :
    ∃ p vs, ι[a]? = some p ∧ v = .ref p ∧ SqL K H p vs ∧ (o = .lst xs ∨ o = .frz xs) := by
  cases w with
  | ref b =>
    obtain ⟨p, hp, rfl⟩ := r
    simp only [VM.lstAt] at e
    cases hm : M[b]? with
    | none => rw [hm] at e; cases e
    | some ob =>
      rw [hm] at e
      have ro := R.obj b p ob hp hm
      cases ob with
      | lst ys => cases e; obtain ⟨vs, h1, h2⟩ := ro; exact ⟨p, vs, hp, rfl, SqL.of h1, .inl rfl⟩
      | frz ys => cases e; obtain ⟨vs, h1, h2⟩ := ro; exact ⟨p, vs, hp, rfl, h1.sq, .inr rfl⟩
      | tup ys => cases e
      | dct ys => cases e
      | ins c ys => cases e
      | fnv x => cases e
  | non => cases e
  | bl _ => cases e
  | int _ => cases e
  | str _ => cases e
end
end SV
end
section
set_option Elab.async false
set_option linter.all false
set_option autoImplicit false
set_option maxRecDepth 100000
set_option maxHeartbeats 4000000
namespace SV
open PySem PySem.Spec PyProof.Rows L2
theorem ints_rel {ι : List Addr} : ∀ {ws : List VM.W} {vs : List V} {ns : List Int}, RVs ι ws vs → VM.intsOf ws = some ns → vs = ns.map V.int
  | _, _, _, .nil, e => by cases e; rfl
  | _, _, ns, .cons (a := w) r t, e => by
    cases w with
    | int i =>
      cases r
      simp only [VM.intsOf] at e
      cases e2 : VM.intsOf _ with
      | none => rw [e2] at e; cases e
      | some ms =>
        rw [e2] at e
        cases e
        rw [ints_rel t e2]; rfl
    | non => cases e
    | bl _ => cases e
    | str _ => cases e
    | ref _ => cases e
theorem intsAre_of : ∀ {ns : List Int} {its : List Value}, Vals (ns.map V.int) its → IntsAre its ns
  | [], _, .nil => .nil
  | n :: r, _, .cons h t => by
    obtain ⟨tk, rfl⟩ := (show ∃ t, _ = Value.int n t from h)
    exact .cons n tk (intsAre_of t)
section
variable {X : Cx}
theorem call_sum1 (hh : X.A.handled = none) : CallR X (.builtin "sum") (fun xs H Q => ∃ (p : Addr) (ns : List Int), xs = [.ref p] ∧ SqL X.K H p (ns.map V.int) ∧ Q (.int ns.sum) H) := by
  intro pins s σ H xs us Q I r h
  obtain ⟨p, ns, rfl, hs, q⟩ := h
  obtain ⟨u, rfl, rx⟩ := vals1 r
  cases rx
  obtain ⟨its, rv, pl, _⟩ := I.list hs
  have ia := intsAre_of rv
  obtain ⟨zs, ez⟩ := ia.allInts.items
  have hn : numsOf its.toArray.toList = ns := by rw [show its.toArray.toList = its from rfl]; exact ia.numsOf
  have hn2 : (zs.toList.map (·.1)) = ns := by rw [← nums_intItems, ← ez]; exact hn
  have hl : s.heap.IsList p (intItems zs) := by rw [← ez]; exact pl.isList
  refine sum_intListG hh hl fun h' tk t' hk => ?_
  refine ⟨.int ns.sum, H, I.kept (t' := tk) hk, ⟨t', ?_⟩, q⟩
  rw [preSum_eq, List.take_of_length_le (by simp), hn2]
theorem sc_sum (hh : X.A.handled = none) : SC X (.builtin "sum") VM.fSum := by
  refine ⟨_, call_sum1 hh, fun ι M H ws vs Q R r h => ?_⟩
  cases r with
  | nil => exact (h : False).elim
  | cons r1 t =>
    cases t with
    | cons _ _ => exact (h : False).elim
    | nil =>
      rename_i x v
      have q : Post RV X.K ι (match (VM.lstOf M x).bind VM.intsOf with | some ns => VM.R.ok (.int ns.sum) M | none => .bad) Q := h
      cases e : VM.lstOf M x with
      | none => rw [e] at q; exact (q : False).elim
      | some xs =>
        rw [e] at q
        obtain ⟨p, us, rfl, hs, r2⟩ := R.lstOf e r1
        have q2 : Post RV X.K ι (match VM.intsOf xs with | some ns => VM.R.ok (.int ns.sum) M | none => .bad) Q := q
        cases e2 : VM.intsOf xs with
        | none => rw [e2] at q2; exact (q2 : False).elim
        | some ns =>
          rw [e2] at q2
          have := ints_rel r2 e2
          subst this
          exact ⟨p, ns, rfl, hs, Post.ok (b := V.int _) q2 R rfl⟩
end
end SV
end
section
set_option Elab.async false
set_option linter.all false
set_option autoImplicit false
set_option maxRecDepth 100000
set_option maxHeartbeats 4000000
namespace SV
open PySem PySem.Spec PyProof.Rows L2
section
variable {X : Cx}
theorem so_pow : SOp X (binaryOp .Pow) VM.oPow := so_intC op_pow (gw := fun i j => .int (i ^ j.toNat)) (fun _ _ _ => rfl) fun x y M => by
  cases x <;> cases y <;> first
    | exact .inr rfl
    | (rename_i i j
       by_cases c : 0 ≤ j ∧ j.natAbs ≤ 1000000 ∧ i.natAbs < VM.two64
       · exact .inl ⟨i, j, rfl, rfl, by unfold CPow; unfold VM.two64 at c; omega, if_pos c⟩
       · exact .inr (if_neg c))
theorem se_neg {a : Expr} {m : VM.EM} {pos} (ha : SE X a m) : SE X (.UnaryOp .USub a pos) (VM.eNeg m) := by
  obtain ⟨ta, pa, ka⟩ := ha
  refine ⟨_, pe_un un_neg pa, fun ι M H σ τ Q R S h => ?_⟩
  refine ka ι M H σ τ _ R S (Post.seq h fun ι1 H1 x M1 u p1 R1 r1 h1 => ?_)
  cases x with
  | int i => cases r1; exact ⟨i, rfl, Post.ok (b := V.int (-i)) h1 R1 rfl⟩
  | _ => exact (h1 : False).elim
theorem chain_core {a b c : Expr} {f g : VM.OpM} {m n o : VM.EM} {op op' : CmpOp} {r r' : R2} {ta tb tc : TE}
    (ko : ∀ ι M H x y v u Q, Rel X.K ι M H → RV ι x v → RV ι y u → Post RV X.K ι (f x y M) Q → r v u H Q)
    (ko' : ∀ ι M H x y v u Q, Rel X.K ι M H → RV ι x v → RV ι y u → Post RV X.K ι (g x y M) Q → r' v u H Q)
    (ka : ∀ ι M H σ τ Q, Rel X.K ι M H → RSt ι σ τ → Post RV X.K ι (m σ M) Q → ta τ H Q)
    (kb : ∀ ι M H σ τ Q, Rel X.K ι M H → RSt ι σ τ → Post RV X.K ι (n σ M) Q → tb τ H Q)
    (kc : ∀ ι M H σ τ Q, Rel X.K ι M H → RSt ι σ τ → Post RV X.K ι (o σ M) Q → tc τ H Q) :
    ∀ ι M H σ τ Q, Rel X.K ι M H → RSt ι σ τ → Post RV X.K ι (VM.eChain f g m n o σ M) Q → tChain r r' ta tb tc τ H Q := by
  intro ι M H σ τ Q R S h
  refine ka ι M H σ τ _ R S (Post.seq h fun ι1 H1 x M1 u p1 R1 r1 h1 => ?_)
  refine kb ι1 M1 H1 σ τ _ R1 (S.mono p1) (Post.seq h1 fun ι2 H2 y M2 v p2 R2 r2 h2 => ?_)
  refine ko ι2 M2 H2 x y u v _ R2 (r1.mono p2) r2 (Post.seq h2 fun ι3 H3 z M3 t p3 R3 r3 h3 => ?_)
  cases z with
  | bl k =>
    cases r3
    refine ⟨k, rfl, ?_⟩
    cases k with
    | false => exact Post.ok (b := V.bl false) h3 R3 rfl
    | true =>
      have h4 : Post RV X.K ι3 ((o σ M3).bind fun w M4 => g y w M4) Q := h3
      refine kc ι3 M3 H3 σ τ _ R3 (S.mono (List.IsPrefix.trans p1 (List.IsPrefix.trans p2 p3))) (Post.seq h4 fun ι4 H4 w M4 q p4 R4 r4 h5 => ?_)
      exact ko' ι4 M4 H4 y w v q Q R4 ((r2.mono p3).mono p4) r4 h5
  | non => exact (h3 : False).elim
  | int _ => exact (h3 : False).elim
  | str _ => exact (h3 : False).elim
  | ref _ => exact (h3 : False).elim
theorem se_chain {a b c : Expr} {f g : VM.OpM} {m n o : VM.EM} {op op' : CmpOp} {pos} (ho : SOp X (compareOp op) f) (ho' : SOp X (compareOp op') g) (ha : SE X a m) (hb : SE X b n) (hc : SE X c o)
    (hm : lastMarks [op, op'] [b, c] = false := by with_unfolding_all rfl) : SE X (.Compare a [op, op'] [b, c] pos) (VM.eChain f g m n o) := by
  obtain ⟨r, po, ko⟩ := ho
  obtain ⟨r', po', ko'⟩ := ho'
  obtain ⟨ta, pa, ka⟩ := ha
  obtain ⟨tb, pb, kb⟩ := hb
  obtain ⟨tc, pc, kc⟩ := hc
  exact ⟨_, pe_chain po po' pa pb pc hm, chain_core (a := a) (b := b) (c := c) (op := op) (op' := op') ko ko' ka kb kc⟩
end
end SV
end
section
set_option Elab.async false
set_option linter.all false
set_option autoImplicit false
set_option maxRecDepth 100000
set_option maxHeartbeats 4000000
namespace SV
open PySem PySem.Spec PyProof.Rows L2
theorem RKV.val {ι : List Addr} {kvs : List (Int × VM.W)} {ks : List (Key × V)} (r : RKV ι kvs ks) (k : Int) :
    (VM.dval kvs k = none ∧ valV ks (Sum.inl k) = none) ∨ ∃ w v, VM.dval kvs k = some w ∧ valV ks (Sum.inl k) = some v ∧ RV ι w v := by
  induction r with
  | nil => exact .inl ⟨rfl, rfl⟩
  | @cons p q ps qs h t ih =>
    obtain ⟨h1, h2⟩ := h
    by_cases e : p.1 = k
    · refine .inr ⟨p.2, q.2, by simp [VM.dval, List.find?_cons, e], valV_pos (by rw [h1, e]), h2⟩
    · have e1 : VM.dval (p :: ps) k = VM.dval ps k := by simp [VM.dval, List.find?_cons, e]
      have e2 : valV (q :: qs) (Sum.inl k : Key) = valV qs (Sum.inl k) := valV_neg (by rw [h1]; intro z; exact e (Sum.inl.inj z))
      rw [e1, e2]; exact ih
theorem RKV.repl {ι : List Addr} {kvs : List (Int × VM.W)} {ks : List (Key × V)} (r : RKV ι kvs ks) (k : Int) {w : VM.W} {v : V} (rv : RV ι w v) :
    RKV ι (kvs.map fun kv => if kv.1 = k then (kv.1, w) else kv) (ks.map fun kv => if kv.1 = (Sum.inl k : Key) then (kv.1, v) else kv) := by
  induction r with
  | nil => exact .nil
  | @cons p q ps qs h t ih =>
    obtain ⟨h1, h2⟩ := h
    rw [List.map_cons, List.map_cons]
    refine .cons ?_ ih
    by_cases e : p.1 = k
    · rw [if_pos e, if_pos (by rw [h1, e])]; exact ⟨h1, rv⟩
    · rw [if_neg e, if_neg (by rw [h1]; intro z; exact e (Sum.inl.inj z))]; exact ⟨h1, h2⟩
theorem dval_any (k : Int) (kvs : List (Int × VM.W)) : (kvs.any fun kv => decide (kv.1 = k)) = (VM.dval kvs k).isSome := by
  unfold VM.dval
  rw [Option.isSome_map, List.isSome_find?]
theorem RKV.put {ι : List Addr} {kvs : List (Int × VM.W)} {ks : List (Key × V)} (r : RKV ι kvs ks) (k : Int) {w : VM.W} {v : V} (rv : RV ι w v) : RKV ι (VM.dput kvs k w) (putK ks (Sum.inl k) v) := by
  unfold VM.dput putK
  rw [dval_any, valV_any]
  rcases r.val k with ⟨e1, e2⟩ | ⟨_, _, e1, e2, _⟩
  · rw [e1, e2]
    exact Paired.app r (.cons ⟨rfl, rv⟩ .nil)
  · rw [e1, e2]
    exact r.repl k rv
section
variable {K : Fg} {ι : List Addr} {M : VM.Mem} {H : Hp}
theorem Rel.dctOf (R : Rel K ι M H) {w : VM.W} {a : Nat} {kvs : List (Int × VM.W)} {v : V} (e : VM.dctOf M w = some (a, kvs)) (r : RV ι w v) : ∃ p ks, w = .ref a ∧ ι[a]? = some p ∧ M[a]? = some (.dct kvs) ∧ v = .ref p ∧ H p = some (.dK ks) ∧ RKV ι kvs ks := by
  cases w with
  | ref b =>
    obtain ⟨p, hp, rfl⟩ := r
    simp only [VM.dctOf] at e
    cases hm : M[b]? with
    | none => rw [hm] at e; cases e
    | some o =>
      rw [hm] at e
      have ro := R.obj b p o hp hm
      cases o with
      | dct ys =>
        cases e
        obtain ⟨vs, h1, h2⟩ := ro
        exact ⟨p, vs, rfl, hp, hm, rfl, h1, h2⟩
      | lst ys => cases e
      | frz ys => cases e
      | tup ys => cases e
      | ins c ys => cases e
      | fnv x => cases e
  | non => cases e
  | bl _ => cases e
  | int _ => cases e
  | str _ => cases e
theorem Rel.insOf (R : Rel K ι M H) {w : VM.W} {a : Nat} {c : List Nat} {fs : List (List Nat × VM.W)} {v : V} (e : VM.insOf M w = some (a, c, fs)) (r : RV ι w v) :
    ∃ p C dx gs, w = .ref a ∧ ι[a]? = some p ∧ M[a]? = some (.ins c fs) ∧ v = .ref p ∧ PySem.W.nsIn K mainGlobals (txt c) = some (some (.ref C)) ∧ H p = some (.ins C dx gs) ∧ RFs ι fs gs := by
  cases w with
  | ref b =>
    obtain ⟨p, hp, rfl⟩ := r
    simp only [VM.insOf] at e
    cases hm : M[b]? with
    | none => rw [hm] at e; cases e
    | some o =>
      rw [hm] at e
      have ro := R.obj b p o hp hm
      cases o with
      | ins c' ys =>
        cases e
        obtain ⟨C, dx, gs, n, h1, h2⟩ := ro
        exact ⟨p, C, dx, gs, rfl, hp, hm, rfl, n, h1, h2⟩
      | lst ys => cases e
      | frz ys => cases e
      | tup ys => cases e
      | dct ys => cases e
      | fnv x => cases e
  | non => cases e
  | bl _ => cases e
  | int _ => cases e
  | str _ => cases e
theorem isD_of (R : Rel K ι M H) {w : VM.W} {v : V} (e : VM.isDct M w = true) (r : RV ι w v) : ∃ p, v = .ref p ∧ IsD H p := by
  unfold VM.isDct at e
  cases h : VM.dctOf M w with
  | none => rw [h] at e; cases e
  | some z =>
    obtain ⟨a, kvs⟩ := z
    obtain ⟨p, ks, _, _, _, rfl, h1, _⟩ := R.dctOf h r
    exact ⟨p, rfl, .inl ⟨ks, .inl h1⟩⟩
end
theorem dGet_cases (x y : VM.W) (M : VM.Mem)  : (VM.dGet x y M = .bad) ∨ ∃ (i : Int) (a : Nat) (kvs : List (Int × VM.W)), y = .int i ∧ VM.dctOf M x = some (a, kvs) ∧ VM.dGet x y M = (match VM.dval kvs i with | some v => .ok v M | none => .bad) := by
  unfold VM.dGet
  cases y with
  | int i => cases e : VM.dctOf M x with
    | none => exact .inl rfl
    | some q => exact .inr ⟨i, q.1, q.2, rfl, rfl, rfl⟩
  | non => exact .inl rfl
  | bl _ => exact .inl rfl
  | str _ => exact .inl rfl
  | ref _ => exact .inl rfl
theorem dGetD_cases (x y : VM.W) (M : VM.Mem) (z : VM.W) : (VM.dGetD x y z M = .bad) ∨ ∃ (i : Int) (a : Nat) (kvs : List (Int × VM.W)), y = .int i ∧ VM.dctOf M x = some (a, kvs) ∧ VM.dGetD x y z M = .ok ((VM.dval kvs i).getD z) M := by
  unfold VM.dGetD
  cases y with
  | int i => cases e : VM.dctOf M x with
    | none => exact .inl rfl
    | some q => exact .inr ⟨i, q.1, q.2, rfl, rfl, rfl⟩
  | non => exact .inl rfl
  | bl _ => exact .inl rfl
  | str _ => exact .inl rfl
  | ref _ => exact .inl rfl
theorem dSetD_cases (x y : VM.W) (M : VM.Mem) (z : VM.W) : (VM.dSetD x y z M = .bad) ∨ ∃ (i : Int) (a : Nat) (kvs : List (Int × VM.W)), y = .int i ∧ VM.dctOf M x = some (a, kvs) ∧ VM.dSetD x y z M = (match VM.dval kvs i with | some v => .ok v M | none => if kvs.length < VM.lim then .ok z (M.set a (.dct (VM.dput kvs i z))) else .bad) := by
  unfold VM.dSetD
  cases y with
  | int i => cases e : VM.dctOf M x with
    | none => exact .inl rfl
    | some q => exact .inr ⟨i, q.1, q.2, rfl, rfl, rfl⟩
  | non => exact .inl rfl
  | bl _ => exact .inl rfl
  | str _ => exact .inl rfl
  | ref _ => exact .inl rfl
theorem dIn_cases (x y : VM.W) (M : VM.Mem) (neg : Bool) : (VM.dIn neg y x M = .bad) ∨ ∃ (i : Int) (a : Nat) (kvs : List (Int × VM.W)), y = .int i ∧ VM.dctOf M x = some (a, kvs) ∧ VM.dIn neg y x M = .ok (.bl ((VM.dval kvs i).isSome != neg)) M := by
  unfold VM.dIn
  cases y with
  | int i => cases e : VM.dctOf M x with
    | none => exact .inl rfl
    | some q => exact .inr ⟨i, q.1, q.2, rfl, rfl, rfl⟩
  | non => exact .inl rfl
  | bl _ => exact .inl rfl
  | str _ => exact .inl rfl
  | ref _ => exact .inl rfl
theorem dPut_cases (x y : VM.W) (M : VM.Mem) (v : VM.W) (σ : VM.St) : (VM.dPut x y v σ M = .bad) ∨ ∃ (i : Int) (a : Nat) (kvs : List (Int × VM.W)), y = .int i ∧ VM.dctOf M x = some (a, kvs) ∧ VM.dPut x y v σ M = (if kvs.length < VM.lim then .nx σ (M.set a (.dct (VM.dput kvs i v))) else .bad) := by
  unfold VM.dPut
  cases y with
  | int i => cases e : VM.dctOf M x with
    | none => exact .inl rfl
    | some q => exact .inr ⟨i, q.1, q.2, rfl, rfl, rfl⟩
  | non => exact .inl rfl
  | bl _ => exact .inl rfl
  | str _ => exact .inl rfl
  | ref _ => exact .inl rfl
section
variable {X : Cx}
theorem se_dnew {pos} : SE X (.Dict [] [] pos) VM.eDNew := by
  refine ⟨_, pe_dnewK, fun ι M H σ τ Q R S h p hp => ?_⟩
  refine h (ι ++ [p]) _ _ ⟨[p], rfl⟩ (R.new hp fun ι' pre => ⟨[], upd_same, .nil⟩) ⟨p, ?_, rfl⟩
  rw [← R.len]; simp
theorem dGetD_post {ι : List Addr} {M : VM.Mem} {H : Hp} {x y z : VM.W} {p : Addr} {v u : V} {Q : VK} (R : Rel X.K ι M H) (rx : RV ι x (.ref p)) (ry : RV ι y v) (rz : RV ι z u) (h : Post RV X.K ι (VM.dGetD x y z M) Q) : ∃ o, DGet H p v o ∧ Q (o.getD u) H := by
  rcases dGetD_cases x y M z with zz | ⟨n, a, kvs, rfl, e, zz⟩
  · rw [zz] at h; exact (h : False).elim
  rw [zz] at h
  have h3 := h
  obtain ⟨p', ks, _, _, _, ep, hp, rk⟩ := R.dctOf e rx
  cases ep
  cases ry
  refine ⟨valV ks (Sum.inl n), DGet.k (k := (Sum.inl n : Key)) hp, ?_⟩
  rcases rk.val n with ⟨e1, e2⟩ | ⟨w', v', e1, e2, rv⟩
  · rw [e1] at h3; rw [e2]; exact Post.ok h3 R rz
  · rw [e1] at h3; rw [e2]; exact Post.ok h3 R rv
theorem dif_post {α β : Type} {rel : List Addr → α → β → Prop} {K : Fg} {ι : List Addr} {c : Bool} {r : VM.R α} {Q : β → Hp → Prop} (h : Post rel K ι (if c = true then r else .bad) Q) : c = true ∧ Post rel K ι r Q := by
  cases c with
  | true => rw [if_pos rfl] at h; exact ⟨rfl, h⟩
  | false => rw [if_neg Bool.false_ne_true] at h; exact (h : False).elim
theorem se_dget1 {o e : Expr} {d k : VM.EM} {apos cpos} (hu : X.A.units + 1 < cLine) (ho : SE X o d) (he : SE X e k) (m : M1 X o "get" apos e cpos) : SE X (.Call (.Attribute o "get" apos) [e] [] cpos) (VM.eD1 (fun x y => VM.dGetD x y .non) d k) := by
  obtain ⟨td, pd, kd⟩ := ho
  obtain ⟨tk, pk, kk⟩ := he
  refine ⟨_, pe_dget1 hu pd pk m, fun ι M H σ τ Q R S h => ?_⟩
  refine kd ι M H σ τ _ R S (Post.seq h fun ι1 H1 x M1 u p1 R1 r1 h1 => ?_)
  obtain ⟨hd, h1⟩ := dif_post h1
  obtain ⟨p, rfl, hp⟩ := isD_of R1 hd r1
  refine ⟨p, rfl, hp, kk ι1 M1 H1 σ τ _ R1 (S.mono p1) (Post.seq h1 fun ι2 H2 y M2 v p2 R2 r2 h2 => ?_)⟩
  exact dGetD_post (z := .non) (u := .non) R2 (r1.mono p2) r2 rfl h2
theorem se_dget2 {o e f : Expr} {d k z : VM.EM} {apos cpos} (hu : X.A.units + 1 < cLine) (ho : SE X o d) (he : SE X e k) (hf : SE X f z) (m : M2 X o "get" apos e f cpos) : SE X (.Call (.Attribute o "get" apos) [e, f] [] cpos) (VM.eD2 VM.dGetD d k z) := by
  obtain ⟨td, pd, kd⟩ := ho
  obtain ⟨tk, pk, kk⟩ := he
  obtain ⟨tz, pz, kz⟩ := hf
  refine ⟨_, pe_dget2 hu pd pk pz m, fun ι M H σ τ Q R S h => ?_⟩
  refine kd ι M H σ τ _ R S (Post.seq h fun ι1 H1 x M1 u p1 R1 r1 h1 => ?_)
  obtain ⟨hd, h1⟩ := dif_post h1
  obtain ⟨p, rfl, hp⟩ := isD_of R1 hd r1
  refine ⟨p, rfl, hp, kk ι1 M1 H1 σ τ _ R1 (S.mono p1) (Post.seq h1 fun ι2 H2 y M2 v p2 R2 r2 h2 => ?_)⟩
  refine kz ι2 M2 H2 σ τ _ R2 ((S.mono p1).mono p2) (Post.seq h2 fun ι3 H3 w M3 t p3 R3 r3 h3 => ?_)
  exact dGetD_post R3 ((r1.mono p2).mono p3) (r2.mono p3) r3 h3
def tDSet2 (td ty tx : TE) : TE := fun σ H Q => td σ H fun x H1 => ∃ a, x = .ref a ∧ IsD H1 a ∧ ty σ H1 fun y H2 => tx σ H2 fun z H3 => ∃ kvs k, H3 a = some (.dK kvs) ∧ y = kV k ∧
  (∀ v, valV kvs k = some v → Q v H3) ∧ (valV kvs k = none → kvs.length < sizeLine ∧ Q z (upd H3 a (.dK (putK kvs k z))))
theorem d_setDef {pins : List (Addr × Obj)} {σ : L2.St} {H : Hp} {s : Shared} {a : Addr} {kvs : List (Key × V)} {k : Key} {u r : Value} {z : V} {A : Around} {E : Value → Shared → Prop} {Q : Value → Shared → Prop} (I : Inv X pins σ H s) (e : H a = some (.dK kvs)) (ry : RelV (kV k) u) (rz : RelV z r)
    (h1 : ∀ v w' s', valV kvs k = some v → Inv X pins σ H s' → RelV v w' → Q w' s')
    (h2 : valV kvs k = none → kvs.length < sizeLine ∧ ∀ s', Inv X pins σ (upd H a (.dK (putK kvs k z))) s' → Q r s') : wpAny (model X.prog X.w) A (call (.builtin "dict.setdefault") [.ref a, u, r]) Q E s := by
  obtain ⟨hz, hd, vs, rel, dd⟩ := dk_of I.hok e
  refine call_meetsIn PySem.F.slot_dict_setdefault dd.typeIs PySem.F.entry_dict_setdefault (PySem.F.args_dict_setdefault_3 _ _ _) (kt_meets_setdefault (mixKind X.prog X.w) a (kV_is ry) hd r)
    ⟨vs, dd, by rw [← rel.length]; exact hz, fun w' hw => ?_, fun hn h' dd' hs => ?_⟩
  · have rl := rel.val k
    rw [hw] at rl
    cases q : valV kvs k with
    | none => rw [q] at rl; exact (rl : False).elim
    | some v => rw [q] at rl; exact h1 v w' _ q (I.tok _) rl
  · have rl := rel.val k
    rw [hn] at rl
    cases q : valV kvs k with
    | some v => rw [q] at rl; exact (rl : False).elim
    | none =>
      obtain ⟨hl, hQ⟩ := h2 q
      have he : ∃ q, h'.get? a = some q := let ⟨q, _, _, hq, _⟩ := dd'; ⟨q, hq⟩
      refine hQ _ (d_write I (by rw [e]; exact True.intro) hs he (dk_new ?_ hd (rel.put k rz) dd'))
      have := length_putK kvs k z
      omega
theorem pe_dset2 {o e f : Expr} {apos cpos : Pos} {td ty tx : TE} (ho : PE X o td) (he : PE X e ty) (hf : PE X f tx) (m : M2 X o "setdefault" apos e f cpos) : PE X (.Call (.Attribute o "setdefault" apos) [e, f] [] cpos) (tDSet2 td ty tx) := by
  intro pins s σ H Q I h
  refine wpAny_Call_method m.base m.few m.line PySem.F.plainAttrs_dict PySem.F.slot_dict_setdefault PySem.F.type_dict_setdefault (thn (ho pins s σ H _ I h) fun u s1 ⟨x, H1, I1, rx, a, ex, d, q1⟩ => ?_)
  subst ex
  obtain rfl : u = Value.ref a := rx
  obtain ⟨t1, t2, _⟩ := isD_at I1 d
  refine ⟨t1, t2, ?_⟩
  rw [m.trees]
  refine Calls.callWith_builtin rfl (Calls.evalArgs_plain (Calls.spliced_cons (thn (he pins s1 σ H1 _ I1 q1) fun iv s2 ⟨y, H2, I2, ry, q2⟩ =>
    Calls.spliced_cons (thn (hf pins s2 σ H2 _ I2 q2) fun fv s3 ⟨z, H3, I3, rz, kvs, k, ea, ey, q3, q4⟩ => Calls.spliced_nil ?_))))
  subst ey
  exact d_setDef I3 ea ry rz (fun v w' s4 l I4 rw' => ⟨v, H3, I4, rw', q3 v l⟩) fun l => ⟨(q4 l).1, fun s4 I4 => ⟨z, _, I4, rz, (q4 l).2⟩⟩
theorem se_dset2 {o e f : Expr} {d k z : VM.EM} {apos cpos} (ho : SE X o d) (he : SE X e k) (hf : SE X f z) (m : M2 X o "setdefault" apos e f cpos) : SE X (.Call (.Attribute o "setdefault" apos) [e, f] [] cpos) (VM.eD2 VM.dSetD d k z) := by
  obtain ⟨td, pd, kd⟩ := ho
  obtain ⟨tk, pk, kk⟩ := he
  obtain ⟨tz, pz, kz⟩ := hf
  refine ⟨_, pe_dset2 pd pk pz m, fun ι M H σ τ Q R S h => ?_⟩
  refine kd ι M H σ τ _ R S (Post.seq h fun ι1 H1 x M1 u p1 R1 r1 h1 => ?_)
  obtain ⟨hd, h1⟩ := dif_post h1
  obtain ⟨p, rfl, hp⟩ := isD_of R1 hd r1
  refine ⟨p, rfl, hp, kk ι1 M1 H1 σ τ _ R1 (S.mono p1) (Post.seq h1 fun ι2 H2 y M2 v p2 R2 r2 h2 => ?_)⟩
  refine kz ι2 M2 H2 σ τ _ R2 ((S.mono p1).mono p2) (Post.seq h2 fun ι3 H3 w M3 t p3 R3 r3 h3 => ?_)
  rcases dSetD_cases x y M3 w with zz | ⟨n, a, kvs, rfl, e, zz⟩
  · rw [zz] at h3; exact (h3 : False).elim
  rw [zz] at h3
  have h4 := h3
  obtain ⟨p', ks, _, ha, hm, ep, hp', rk⟩ := R3.dctOf e ((r1.mono p2).mono p3)
  cases ep
  cases r2
  refine ⟨ks, Sum.inl n, hp', rfl, fun v' l => ?_, fun l => ?_⟩
  · rcases rk.val n with ⟨_, e2⟩ | ⟨w', v2, e1, e2, rv⟩
    · rw [e2] at l; cases l
    · rw [e2] at l; cases l
      rw [e1] at h4
      exact Post.ok h4 R3 rv
  · rcases rk.val n with ⟨e1, _⟩ | ⟨w', v2, e1, e2, rv⟩
    · rw [e1] at h4
      have h5 : Post RV X.K ι3 (if kvs.length < VM.lim then .ok w (M3.set a (.dct (VM.dput kvs n w))) else .bad) Q := h4
      by_cases hl : kvs.length < VM.lim
      · rw [if_pos hl] at h5
        refine ⟨by rw [← Paired.len rk]; exact hl, ?_⟩
        exact h5 ι3 _ _ pre_refl (R3.setO ha hm rfl rfl ⟨_, upd_same, rk.put n r3⟩) r3
      · rw [if_neg hl] at h5; exact (h5 : False).elim
    · rw [e2] at l; cases l
theorem dIn_post {ι : List Addr} {M : VM.Mem} {H : Hp} {neg : Bool} {x y : VM.W} {u v : V} {Q : VK} (R : Rel X.K ι M H) (rx : RV ι x u) (ry : RV ι y v) (h : Post RV X.K ι (VM.dIn neg y x M) Q) : ∃ a o, u = .ref a ∧ DGet H a v o ∧ Q (.bl (o.isSome != neg)) H := by
  rcases dIn_cases x y M neg with zz | ⟨n, a, kvs, rfl, e, zz⟩
  · rw [zz] at h; exact (h : False).elim
  rw [zz] at h
  have h3 := h
  obtain ⟨p, ks, _, _, _, rfl, hp, rk⟩ := R.dctOf e rx
  cases ry
  refine ⟨p, valV ks (Sum.inl n), rfl, DGet.k (k := (Sum.inl n : Key)) hp, ?_⟩
  have es : (VM.dval kvs n).isSome = (valV ks (Sum.inl n : Key)).isSome := by
    rcases rk.val n with ⟨e1, e2⟩ | ⟨w', v', e1, e2, rv⟩ <;> rw [e1, e2] <;> rfl
  rw [es] at h3
  exact Post.ok (b := V.bl _) h3 R rfl
theorem so_dnotin (hu : X.A.units + 1 < cLine) : SOp X (compareOp .NotIn) (VM.dIn true) := by
  refine ⟨fun x y H Q => ∃ a o, y = .ref a ∧ DGet H a x o ∧ Q (.bl (!o.isSome)) H, fun pins s σ H x y v u Q I rx ry h => ?_, fun ι M H x y v u Q R rx ry h => ?_⟩
  · obtain ⟨a, o, rfl, g, q⟩ := h
    obtain rfl : u = Value.ref a := ry
    exact d_notIn hu I g rx fun s3 I3 => ⟨.bl (!o.isSome), H, I3, rfl, q⟩
  · obtain ⟨a, o, e, g, q⟩ := dIn_post R ry rx h
    exact ⟨a, o, e, g, by simpa using q⟩
theorem ss_dput {o i value : Expr} {d k e : VM.EM} {pos pos'} (hu : X.A.units + 1 < cLine) (ho : SE X o d) (hi : SE X i k) (hv : SE X value e) (hs : swapsWith value (some (.Subscript o i pos')) pos.line X.env = pure false := by rfl) :
    SS X (.Assign [.Subscript o i pos'] value pos) (VM.sDPut d k e) := by
  obtain ⟨td, pd, kd⟩ := ho
  obtain ⟨tk, pk, kk⟩ := hi
  obtain ⟨tv, pv, kv⟩ := hv
  refine ⟨_, ps_dput hu pd pk pv hs, fun ι M H σ τ D R S h => ?_⟩
  refine kv ι M H σ τ _ R S (PostS.seq h fun ι1 H1 v M1 t p1 R1 r1 h1 => ?_)
  refine kd ι1 M1 H1 σ τ _ R1 (S.mono p1) (PostS.seq h1 fun ι2 H2 x M2 u p2 R2 r2 h2 => ?_)
  refine kk ι2 M2 H2 σ τ _ R2 ((S.mono p1).mono p2) (PostS.seq h2 fun ι3 H3 y M3 z p3 R3 r3 h3 => ?_)
  rcases dPut_cases x y M3 v σ with zz | ⟨n, a, kvs, rfl, e, zz⟩
  · rw [zz] at h3; exact (h3 : False).elim
  rw [zz] at h3
  have h4 := h3
  obtain ⟨p, ks, _, ha, hm, rfl, hp, rk⟩ := R3.dctOf e (r2.mono p3)
  cases r3
  have h5 : PostS X.K ι3 (if kvs.length < VM.lim then .nx σ (M3.set a (.dct (VM.dput kvs n v))) else .bad) D := h4
  by_cases hl : kvs.length < VM.lim
  · rw [if_pos hl] at h5
    refine ⟨p, _, rfl, DPut.k (k := (Sum.inl n : Key)) hp (by rw [← Paired.len rk]; exact hl), ?_⟩
    exact h5 ι3 _ _ pre_refl (R3.setO ha hm rfl rfl ⟨_, upd_same, rk.put n ((r1.mono p2).mono p3)⟩) (((S.mono p1).mono p2).mono p3)
  · rw [if_neg hl] at h5; exact (h5 : False).elim
theorem RFs.get {ι : List Addr} {fs : List (List Nat × VM.W)} {gs : List (Str × V)} (r : RFs ι fs gs) (f : List Nat) : (VM.getF f fs = none ∧ gs.lookup (txt f) = none) ∨ ∃ w v, VM.getF f fs = some w ∧ gs.lookup (txt f) = some v ∧ RV ι w v := by
  induction r with
  | nil => exact .inl ⟨rfl, rfl⟩
  | @cons p q ps qs h t ih =>
    obtain ⟨g, x⟩ := p
    obtain ⟨g', y⟩ := q
    obtain ⟨h1, h2⟩ := h
    have h1 : g' = txt g := h1
    subst h1
    by_cases e : g = f
    · subst e
      refine .inr ⟨x, y, if_pos rfl, ?_, h2⟩
      simp [List.lookup]
    · have e1 : VM.getF f ((g, x) :: ps) = VM.getF f ps := if_neg e
      have e2 : List.lookup (txt f) ((txt g, y) :: qs) = List.lookup (txt f) qs := by
        have : (txt f == txt g) = false := by
          rw [beq_eq_false_iff_ne]
          exact fun z => e (txt_inj z).symm
        simp only [List.lookup, this]
      rw [e1, e2]; exact ih
theorem RFs.putF {ι : List Addr} {fs : List (List Nat × VM.W)} {gs : List (Str × V)} (r : RFs ι fs gs) (f : List Nat) {w : VM.W} {v : V} (rv : RV ι w v) : RFs ι (VM.putF f w fs) (L2.putF (txt f) v gs) := by
  induction r with
  | nil => exact .cons ⟨rfl, rv⟩ .nil
  | @cons p q ps qs h t ih =>
    obtain ⟨g, x⟩ := p
    obtain ⟨g', y⟩ := q
    obtain ⟨h1, h2⟩ := h
    have h1 : g' = txt g := h1
    subst h1
    by_cases e : g = f
    · subst e
      have e1 : VM.putF g w ((g, x) :: ps) = (g, w) :: ps := if_pos rfl
      have e2 : L2.putF (txt g) v ((txt g, y) :: qs) = (txt g, v) :: qs := if_pos rfl
      rw [e1, e2]; exact .cons ⟨rfl, rv⟩ t
    · have e1 : VM.putF f w ((g, x) :: ps) = (g, x) :: VM.putF f w ps := if_neg e
      have e2 : L2.putF (txt f) v ((txt g, y) :: qs) = (txt g, y) :: L2.putF (txt f) v qs := if_neg fun z => e (txt_inj z)
      rw [e1, e2]; exact .cons ⟨rfl, h2⟩ ih
structure ClsN (K : Fg) (c : List Nat) (C : Addr) : Prop where
  at_ : PySem.W.nsIn K mainGlobals (txt c) = some (some (.ref C))
  cl : Cls K C
theorem se_fld {o : Expr} {m : VM.EM} {c f : List Nat} {g : Str} {C : Addr} {pos} (T : ClsN X.K c C) (hn : NoAttr X.K C g) (ho : SE X o m) (hg : g = txt f := by first | rfl | decide +kernel) (hb : attributeBase o g X.env (eval o X.env) = eval o X.env := by rfl) : SE X (.Attribute o g pos) (VM.eFld c f m) := by
  subst hg
  obtain ⟨to, po, ko⟩ := ho
  refine ⟨_, pe_fld po hb, fun ι M H σ τ Q R S h => ?_⟩
  refine ko ι M H σ τ _ R S (Post.seq h fun ι1 H1 x M1 u p1 R1 r1 h1 => ?_)
  have h2 : Post RV X.K ι1 (match VM.insOf M1 x with | some (_, c', fs) => if c' = c then (match VM.getF f fs with | some v => .ok v M1 | none => .bad) else .bad | none => .bad) Q := h1
  cases e : VM.insOf M1 x with
  | none => rw [e] at h2; exact (h2 : False).elim
  | some z =>
    obtain ⟨a, c', fs⟩ := z
    rw [e] at h2
    obtain ⟨p, C', dx, gs, _, ha, hm, rfl, hC, hp, rf⟩ := R1.insOf e r1
    have h3 : Post RV X.K ι1 (if c' = c then (match VM.getF f fs with | some v => .ok v M1 | none => .bad) else .bad) Q := h2
    by_cases hc : c' = c
    · subst hc
      rw [if_pos rfl] at h3
      rw [T.at_] at hC
      cases hC
      rcases rf.get f with ⟨e1, _⟩ | ⟨w, v, e1, e2, rv⟩
      · rw [e1] at h3; exact (h3 : False).elim
      · rw [e1] at h3
        exact ⟨p, C, dx, gs, v, rfl, hp, T.cl, hn, e2, Post.ok h3 R1 rv⟩
    · rw [if_neg hc] at h3; exact (h3 : False).elim
theorem ss_fld {o value : Expr} {m e : VM.EM} {c f : List Nat} {g : Str} {C : Addr} {pos pos'} (T : ClsN X.K c C) (hn : NoAttr X.K C g) (ho : SE X o m) (hv : SE X value e) (hg : g = txt f := by first | rfl | decide +kernel) (hs : swapsWith value (some (.Attribute o g pos')) pos.line X.env = pure false := by rfl) :
    SS X (.Assign [.Attribute o g pos'] value pos) (VM.sFld c f m e) := by
  subst hg
  obtain ⟨to, po, ko⟩ := ho
  obtain ⟨tv, pv, kv⟩ := hv
  refine ⟨_, ps_fld po pv hs, fun ι M H σ τ D R S h => ?_⟩
  refine kv ι M H σ τ _ R S (PostS.seq h fun ι1 H1 v M1 t p1 R1 r1 h1 => ?_)
  refine ko ι1 M1 H1 σ τ _ R1 (S.mono p1) (PostS.seq h1 fun ι2 H2 x M2 u p2 R2 r2 h2 => ?_)
  have h2' : PostS X.K ι2 (match VM.insOf M2 x with | some (a, c', fs) => if c' = c ∧ fs.length < 1000 then .nx σ (M2.set a (.ins c (VM.putF f v fs))) else .bad | none => .bad) D := h2
  cases e : VM.insOf M2 x with
  | none => rw [e] at h2'; exact (h2' : False).elim
  | some z =>
    obtain ⟨a, c', fs⟩ := z
    rw [e] at h2'
    obtain ⟨p, C', dx, gs, _, ha, hm, rfl, hC, hp, rf⟩ := R2.insOf e r2
    have h3 : PostS X.K ι2 (if c' = c ∧ fs.length < 1000 then .nx σ (M2.set a (.ins c (VM.putF f v fs))) else .bad) D := h2'
    by_cases hc : c' = c ∧ fs.length < 1000
    · rw [if_pos hc] at h3
      obtain ⟨rfl, hl⟩ := hc
      have hC2 := hC
      rw [T.at_] at hC2
      cases hC2
      refine ⟨p, C, dx, gs, rfl, hp, T.cl, hn, by rw [← Paired.len rf]; exact hl, ?_⟩
      exact h3 ι2 _ _ pre_refl (R2.setO ha hm rfl rfl ⟨C, dx, _, hC, upd_same, rf.putF f (r1.mono p2)⟩) ((S.mono p1).mono p2)
    · rw [if_neg hc] at h3; exact (h3 : False).elim
structure FnM (P : Program) (w : World) (K : Fg) (mg : Str → Option Value) (base : Heap) (k : Nat) (f : Addr) (fd : FuncData) (ps : List Str) (c : VM.CM) : Prop where
  ok : FnOk P w K mg base CX0 k f fd ps (spV K ps.length c)
  bi : Binds K fd ps []
  ln : ∀ ws M, ws.length ≠ ps.length → c ws M = .bad
theorem fnm_mk {P : Program} {w : World} {K : Fg} {mg : Str → Option Value} {base : Heap} {k : Nat} {x qual : Str} {st : Stmt} {f : Addr} {fd : FuncData} {N ps : List Str} {np n : Nat} {body : VM.SM} (F : Fun K x qual st f fd) (S : FnScope N ps (defScope st)) (hb : Binds K fd ps [])
    (D : ∀ (cdv : Value) (A : Around) (outer : List Env) (s : Shared) (H : Hp) (E : XK), Room k (A.deeper (envOfC qual (defScope st) s.heap.objs.size f cdv)) → SSs (cxOf CX0 P w K mg base N qual (defScope st) f cdv A outer s H E).nox (defBody st) body)
    (hn : N.length = n := by rfl) (hp : ps.length = np := by rfl) : FnM P w K mg base (k + 1) f fd ps (VM.fn np n body) := by
  subst hn hp
  refine ⟨F.ok S (fun vs H Q E h => h.1) (fun cdv A outer s H vs Q E hr h => ?_), hb, fun ws M hw => if_neg hw⟩
  obtain ⟨hl, ι, M, ws, R, r, h⟩ := h
  obtain ⟨t, pt, kt⟩ := D cdv A outer s H E hr
  refine ⟨t, pt, kt ι M H _ _ _ R (rst_start r N) ?_⟩
  have hw : ws.length = ps.length := by rw [Paired.len r]; exact hl
  have h2 : Post RV K ι (match body (ws.map some ++ List.replicate (N.length - ps.length) none) M with
    | .rt v M' => .ok v M'
    | .nx _ M' => .ok .non M'
    | .ex v M' => .ex v M'
    | _ => .bad) Q := by
    have h' : Post RV K ι (if ws.length = ps.length then (match body (ws.map some ++ List.replicate (N.length - ps.length) none) M with
      | .rt v M' => .ok v M'
      | .nx _ M' => .ok .non M'
      | .ex v M' => .ex v M'
      | _ => .bad) else .bad) Q := h
    rw [if_pos hw] at h'
    exact h'
  rw [hw]
  cases e : body (ws.map some ++ List.replicate (N.length - ps.length) none) M with
  | nx σ' M' => rw [e] at h2; exact fun ι' H' τ' p R' S' => h2 ι' H' .non p R' rfl
  | rt v M' => rw [e] at h2; exact h2
  | bk σ' M' => rw [e] at h2; exact (h2 : False).elim
  | ct σ' M' => rw [e] at h2; exact (h2 : False).elim
  | ex v M' => rw [e] at h2; exact (h2 : False).elim
  | bad => rw [e] at h2; exact (h2 : False).elim
theorem fnm_none {P : Program} {w : World} {K : Fg} {mg : Str → Option Value} {base : Heap} {f : Addr} {fd : FuncData} {ps : List Str} (hb : Binds K fd ps []) : FnM P w K mg base 0 f fd ps (fun _ _ => .bad) := by
  have no : ∀ vs H Q E, ¬ spV K ps.length (fun _ _ => .bad) vs H Q E := fun vs H Q E h => by
    obtain ⟨_, _, _, _, _, _, h⟩ := h
    exact h
  exact ⟨⟨fun vs H Q E h => absurd h (no vs H Q E), fun A outer s H args us vs Q E _ _ _ _ h => absurd h (no vs H Q E)⟩, hb, fun _ _ _ => rfl⟩
theorem isIns_of {K : Fg} {ι : List Addr} {M : VM.Mem} {H : Hp} {c m : List Nat} {C : Addr} {w : VM.W} {v : V} (T : ClsN K c C) (R : Rel K ι M H) (e : VM.isIns c m M w = true) (r : RV ι w v) : ∃ p dx gs, v = .ref p ∧ H p = some (.ins C dx gs) ∧ gs.lookup (txt m) = none := by
  unfold VM.isIns at e
  cases h : VM.insOf M w with
  | none => rw [h] at e; cases e
  | some z =>
    obtain ⟨a, c', fs⟩ := z
    rw [h] at e
    have e : (decide (c' = c) && (VM.getF m fs).isNone) = true := e
    rw [Bool.and_eq_true, decide_eq_true_eq] at e
    obtain ⟨rfl, e2⟩ := e
    obtain ⟨p, C', dx, gs, _, ha, hm, rfl, hC, hp, rf⟩ := R.insOf h r
    rw [T.at_] at hC
    cases hC
    refine ⟨p, dx, gs, rfl, hp, ?_⟩
    rcases rf.get m with ⟨_, q⟩ | ⟨w', v', q, _⟩
    · exact q
    · rw [q] at e2; cases e2
theorem sp_of {K : Fg} {ι : List Addr} {M : VM.Mem} {H : Hp} {ws : List VM.W} {vs : List V} {ps : List Str} {c : VM.CM} {Q : VK} (ln : ∀ ws M, ws.length ≠ ps.length → c ws M = .bad) (R : Rel K ι M H) (r : RVs ι ws vs) (h : Post RV K ι (c ws M) Q) (E : XK) : spV K ps.length c vs H Q E := by
  by_cases hw : ws.length = ps.length
  · exact ⟨by rw [← Paired.len r]; exact hw, ι, M, ws, R, r, h⟩
  · rw [ln ws M hw] at h; exact (h : False).elim
theorem se_methO {k : Nat} {c mt : List Nat} {m : Str} {C f : Addr} {fd : FuncData} {ps : List Str} {cm : VM.CM} {o e : Expr} {es : List Expr} {mo : VM.EM} {a : VM.AM} {apos pos : Pos} {pl : Sem Bool} (T : ClsN X.K c C) (hm : Meth X.K C m f) (F : FnM X.prog X.w X.K X.mg X.base k f fd ps cm) (hr : Room k X.A)
    (ho : SE X o mo) (ha : SA X (e :: es) a) (hg : m = txt mt := by first | rfl | decide +kernel)
    (hst : starEach (e :: es) X.env = (false, eval e X.env) :: starEach es X.env := by rfl) (hpl : (backTo pos (starEach es X.env)).any (·.1) = false := by rfl)
    (ht : eval (.Call (.Attribute o m apos) (e :: es) [] pos) X.env = (do
      let ov ← eval o X.env
      standAt apos.atName
      let (f, first) ← holding [ov] (getMethod ov m pl)
      callWith pos f first (backTo pos (starEach (e :: es) X.env)) (backToKw pos (keywordEach [] X.env))) := by rfl) :
    SE X (.Call (.Attribute o m apos) (e :: es) [] pos) (VM.eMethO c mt cm mo a) := by
  subst hg
  obtain ⟨to, po, ko⟩ := ho
  obtain ⟨ta, pa, ka⟩ := ha
  refine ⟨_, pe_meth po T.cl hm F.ok hr F.bi .nil pass0 pa hst hpl ht, fun ι M H σ τ Q R S h => ?_⟩
  refine ko ι M H σ τ _ R S (Post.seq h fun ι1 H1 x M1 u p1 R1 r1 h1 => ?_)
  obtain ⟨hi, h1⟩ := dif_post h1
  obtain ⟨p, dx, gs, rfl, hp, hl⟩ := isIns_of T R1 hi r1
  refine ⟨p, dx, gs, rfl, hp, hl, ka ι1 M1 H1 σ τ _ R1 (S.mono p1) (Post.seq h1 fun ι2 H2 ws M2 vs p2 R2 r2 h2 => ?_)⟩
  rw [List.append_nil]
  exact sp_of F.ln R2 (.cons (r1.mono p2) r2) h2 _
structure MkV (P : Program) (w : World) (K : Fg) (mg : Str → Option Value) (base : Heap) (k : Nat) (x : Str) (np : Nat) (c : VM.CM) : Prop where
  run : ∀ (X : Cx), X.prog = P → X.w = w → X.K = K → X.mg = mg → X.base = base → Room k X.A → ∀ (e : Expr) (es : List Expr) (a : VM.AM) (p pos : Pos), SA X (e :: es) a → Gl X x → (x == ("__debug__" : Str)) = false →
    starEach (e :: es) X.env = (false, eval e X.env) :: starEach es X.env → (backTo pos (starEach es X.env)).any (·.1) = false → SE X (.Call (.Name x p) (e :: es) [] pos) (VM.eCall c a)
theorem se_never {e : Expr} {m : VM.EM} (h : ∀ σ M, m σ M = .bad ∨ ∃ v M', m σ M = .ex v M') : SE X e m := by
  refine ⟨fun _ _ _ => False, fun pins s σ H Q I h => (h : False).elim, fun ι M H σ τ Q R S q => ?_⟩
  rcases h σ M with z | ⟨v, M', z⟩
  · rw [z] at q; exact q
  · rw [z] at q; exact q
theorem mkv_none {P : Program} {w : World} {K : Fg} {mg : Str → Option Value} {base : Heap} {x : Str} {np : Nat} : MkV P w K mg base 0 x np (fun _ _ => .bad) :=
  ⟨fun X _ _ _ _ _ _ e es a p pos _ _ _ _ _ => se_never fun σ M => by
    unfold VM.eCall
    cases a σ M with
    | ok v M' => exact .inl rfl
    | ex v M' => exact .inr ⟨v, M', rfl⟩
    | bad => exact .inl rfl⟩
theorem mkv_mk {P : Program} {w : World} {K : Fg} {mg : Str → Option Value} {base : Heap} {k : Nat} {x : Str} {cn : List Nat} {C f : Addr} {fd : FuncData} {ps : List Str} {c : VM.CM} (M : Mk K C f) (T : ClsN K cn C) (hm : mg x = some (.ref C)) (F : FnM P w K mg base k f fd ps c) : MkV P w K mg base (k + 1) x (ps.length - 1) (VM.mkO cn c) := by
  refine ⟨fun X hP hw hK hmg hb hr e es a p pos ha hg hdb hst hpl => ?_⟩
  subst hP hw hK hmg hb
  obtain ⟨ta, pa, ka⟩ := ha
  refine ⟨_, pe_make M F.ok hr hg hm F.bi .nil pass0 pa hdb hst hpl, fun ι M H σ τ Q R S h => ?_⟩
  refine ka ι M H σ τ _ R S (Post.seq h fun ι1 H1 ws M1 vs p1 R1 r1 h1 => ?_)
  intro q dq hq hdq hne
  rw [List.append_nil]
  have hq' : upd H1 dq (.own q) q = none := by rw [upd_ne (Ne.symm hne)]; exact hq
  have R2 : Rel X.K ι1 M1 (upd H1 dq (.own q)) := R1.other hdq _
  have R3 : Rel X.K (ι1 ++ [q]) (M1 ++ [.ins cn []]) (upd (upd H1 dq (.own q)) q (.ins C dq [])) := R2.new hq' fun ι' pre => ⟨C, dq, [], T.at_, upd_same, .nil⟩
  have rq : RV (ι1 ++ [q]) (.ref M1.length) (.ref q) := ⟨q, by rw [← R1.len]; simp, rfl⟩
  refine sp_of F.ln R3 (.cons rq (r1.mono ⟨[q], rfl⟩)) ?_ _
  have h2 : Post RV X.K ι1 ((c (.ref M1.length :: ws) (M1 ++ [.ins cn []])).bind fun v M2 => match v with | .non => .ok (.ref M1.length) M2 | _ => .bad) Q := h1
  refine Post.seq (h2.up ⟨[q], rfl⟩) fun ι2 H2 v M2 t p2 R4 r4 h4 => ?_
  cases v with
  | non => cases r4; exact ⟨rfl, Post.ok h4 R4 (rq.mono p2)⟩
  | bl _ => exact (h4 : False).elim
  | int _ => exact (h4 : False).elim
  | str _ => exact (h4 : False).elim
  | ref _ => exact (h4 : False).elim
theorem se_make {k : Nat} {x : Str} {np : Nat} {c : VM.CM} {e : Expr} {es : List Expr} {a : VM.AM} {p pos : Pos} (F : MkV X.prog X.w X.K X.mg X.base k x np c) (hr : Room k X.A) (ha : SA X (e :: es) a) (hg : Gl X x := by rfl) (hdb : (x == ("__debug__" : Str)) = false := by decide +kernel)
    (he : starEach (e :: es) X.env = (false, eval e X.env) :: starEach es X.env := by rfl) (hpl : (backTo pos (starEach es X.env)).any (·.1) = false := by rfl) : SE X (.Call (.Name x p) (e :: es) [] pos) (VM.eCall c a) :=
  F.run X rfl rfl rfl rfl rfl hr e es a p pos ha hg hdb he hpl
end
end SV
end
section
set_option Elab.async false
set_option linter.all false
set_option autoImplicit false
set_option maxRecDepth 100000
set_option maxHeartbeats 4000000
namespace SV
open PySem PySem.Spec PyProof.Rows L2
def Ite (K : Fg) (l : Addr) : It :=
  ⟨fun i H => ∃ xs x, SqL K H l xs ∧ xs[i]? = some x,
   fun i H v H' => ∃ p x, H p = none ∧ v = .ref p ∧ H' = upd H p (.tup [.int i, x]) ∧ ∀ xs, SqL K H l xs → xs[i]? = some x,
   fun i H => ∃ xs, SqL K H l xs ∧ xs.length ≤ i⟩
theorem turn_enum {P : Program} {w : World} {K : Fg} {elts : List Expr} {x1 : Nat} {pos : Pos} (l e it : Addr) (hne : e ≠ it) :
    Turn P w K (.Tuple elts x1 pos) (Ite K l) [e, it] e (fun i h => (∃ old, IsEnum h e it i old) ∧ h.IsListIter it l i) where
  mem := by simp
  obj := fun i h st c hc => by
    obtain ⟨⟨old, he⟩, h1⟩ := st
    simp only [List.mem_cons, List.not_mem_nil, or_false] at hc
    rcases hc with rfl | rfl
    · exact ⟨_, he, fun v z => nomatch z⟩
    · obtain ⟨o, e, c, d⟩ := h1
      exact ⟨o, e, fun v z => by rw [d] at z; cases z⟩
  keep := fun i h h' st k => by
    obtain ⟨⟨old, he⟩, h1⟩ := st
    exact ⟨⟨old, k e (by simp) _ he⟩, h1.at fun o q => k it (by simp) o q⟩
  item := by
    intro X hP hw hK hc i pins s σ H E I hf st hg
    subst hP hw hK
    obtain ⟨⟨old, he⟩, h1⟩ := st
    obtain ⟨xs, x, hq, hx⟩ := hg
    obtain ⟨its, rv, p, _⟩ := I.list hq
    obtain ⟨ux, hux, rux⟩ := rv.get hx
    refine wpAny_pyNext_enum_item he h1 p.isList (x := ux) (by simpa using hux) hne fun h' a1 a2 a3 a4 kk => ?_
    refine ⟨_, rfl, wpAny_letOwnedTupleGo_enum a1 fun h'' he' hs' => ?_⟩
    have fr : H s.heap.objs.size = none := I.hok.fresh (Nat.le_refl _)
    have lt : ∀ {c : Addr} {o : Obj}, s.heap.get? c = some o → c ≠ s.heap.objs.size := fun e => Nat.ne_of_lt (Heap.lt_size e)
    have elt : e ≠ s.heap.objs.size := lt he
    have kp : ∀ c o, c ∉ ([e, it] : List Addr) → s.heap.get? c = some o → h''.get? c = some o := fun c o hc' q => by
      simp only [List.mem_cons, List.not_mem_nil, or_false, not_or] at hc'
      exact hs'.extBut c o hc'.1 (kk c o hc'.1 hc'.2 q)
    have nch : ∀ {c : Addr} {o : HO}, H c = some o → c ∉ ([e, it] : List Addr) := fun {c o} q hc' => by
      rw [(hf c hc').1] at q; cases q
    have neT : ∀ {c : Addr} {o : HO}, H c = some o → c ≠ s.heap.objs.size := fun q => ne_of_none q fr
    have hok : HOk X.prog X.w (upd H s.heap.objs.size (.tup [.int i, x])) h'' := fun c o q => by
      by_cases hcs : c = s.heap.objs.size
      · subst hcs
        rw [upd_same] at q
        cases q
        exact ⟨by show 2 ≤ sizeLine; decide, [.int i s.toks, ux], .cons ⟨_, rfl⟩ (.cons rux .nil), ⟨_, hs'.extBut _ _ (Ne.symm elt) a3, rfl, _, rfl⟩⟩
      · rw [upd_ne hcs] at q
        refine (I.hok c o q).stay (fun d v hd z => ?_) (fun d z => by rw [upd_ne (neT z)]; exact z) fun d zs z => by rw [upd_ne (neT z)]; exact z
        rcases hd with rfl | hd
        · exact kp _ v (nch q) z
        · exact kp _ v (nch hd) z
    have I' : Inv X pins σ (upd H s.heap.objs.size (.tup [.int i, x])) { s with heap := h'', toks := s.toks + 1 } := by
      refine I.step (g' := s.gens) (d' := s.drawn) (t' := s.toks + 1) (ch := [e, it]) (fun c hc' => ⟨(hf c hc').2.2.2.1, (hf c hc').2.1, (hf c hc').2.2.2.2.1, (hf c hc').2.2.2.2.2⟩)
        (fun c o _ _ hc' q _ => kp c o hc' q) (fun c o _ _ hc' q _ => ⟨o.slots, kp c o hc' q⟩) (fun c o _ q n => by rw [upd_ne (lt q)]; exact n) (fun c o hc' q => ⟨o, kp c o hc' q⟩)
        (fun c zs q => by rw [upd_ne (neT q)]; exact q) (fun c o u q => by rw [upd_ne (neT q)]; exact q) (fun c ps q => ⟨#[], by rw [upd_ne (neT q), q]; simp⟩) (fun m hm => ?_) hok I.bare
      obtain ⟨o, es, ep, ho, r⟩ := hm
      refine ⟨o, es, ep, kp _ o (fun hc' => ?_) ho, r⟩
      exact (hf _ hc').2.1 rfl
    refine ⟨.ref s.heap.objs.size, _, I', rfl, ⟨s.heap.objs.size, x, fr, rfl, rfl, fun zs hz2 => by rw [I.list_inj hz2 hq]; exact hx⟩, ?_, fun c hc' => ?_⟩
    · exact ⟨⟨_, he'⟩, a2.extBut hs'.extBut (Ne.symm hne)⟩
    · have hcn := (hf c hc').1
      by_cases hcs : c = s.heap.objs.size
      · exfalso
        simp only [List.mem_cons, List.not_mem_nil, or_false] at hc'
        obtain ⟨o1, e1, _⟩ := h1
        rcases hc' with q | q
        · exact lt he (q ▸ hcs)
        · exact lt e1 (q ▸ hcs)
      · rw [upd_ne hcs]; exact hcn
  done := by
    intro X hP hw hK hc i pins s σ H E I hf st hg
    subst hP hw hK
    obtain ⟨⟨old, he⟩, h1⟩ := st
    obtain ⟨xs, hq, hl⟩ := hg
    obtain ⟨its, rv, p, _⟩ := I.list hq
    have l1 := rv.length
    refine wpAny_pyNext_enum_end (I.ok.hd hc) he h1 p.isList (by simp; omega) fun h' kk => ⟨rfl, ?_⟩
    have kp : ∀ c o, c ∉ ([it] : List Addr) → s.heap.get? c = some o → h'.get? c = some o := fun c o hc' q => by
      simp only [List.mem_cons, List.not_mem_nil, or_false] at hc'
      exact kk c o hc' q
    have sub : ∀ c ∈ ([it] : List Addr), c ∈ ([e, it] : List Addr) := fun c hc' => List.mem_cons_of_mem _ hc'
    have nch : ∀ {c : Addr} {o : HO}, H c = some o → c ∉ ([it] : List Addr) := fun {c o} q hc' => by
      rw [(hf c (sub c hc')).1] at q; cases q
    refine I.step (g' := s.gens) (d' := s.drawn) (t' := s.toks) (ch := [it]) (fun c hc' => ⟨(hf c (sub c hc')).2.2.2.1, (hf c (sub c hc')).2.1, (hf c (sub c hc')).2.2.2.2.1, (hf c (sub c hc')).2.2.2.2.2⟩)
      (fun c o _ _ hc' q _ => kp c o hc' q) (fun c o _ _ hc' q _ => ⟨o.slots, kp c o hc' q⟩) (fun c o _ q n => n) (fun c o hc' q => ⟨o, kp c o hc' q⟩)
      (fun c zs q => q) (fun c o u q => q) (fun c ps q => ⟨#[], by rw [q]; simp⟩) (fun m hm => ?_) (fun c o q => ?_) I.bare
    · obtain ⟨o, es, ep, ho, r⟩ := hm
      refine ⟨o, es, ep, kp _ o (fun hc' => ?_) ho, r⟩
      exact (hf _ (sub _ hc')).2.1 rfl
    · refine (I.hok c o q).stay (fun d v hd z => ?_) (fun d z => z) fun d zs z => z
      rcases hd with rfl | hd
      · exact kp _ v (nch q) z
      · exact kp _ v (nch hd) z
  self := fun _ _ _ _ _ st h => let ⟨⟨_, he⟩, _⟩ := st; wpAny_pyIter_enum he h
section
variable {X : Cx} {elts : List Expr} {x1 : Nat} {tpos : Pos}
def iEnum1 (K : Fg) (ta : TA) : TI := fun σ H R => ta σ H fun vs H1 => ∃ l, vs = [.ref l] ∧ (∃ xs, SqL K H1 l xs) ∧ R (Ite K l) H1
theorem boot_enum : bootBuiltins "enumerate" = some (.type "enumerate") := by kernel_rfl
theorem pi_enum {a : Expr} {ta : TA} {p pos : Pos} (hg : Gl X "enumerate") (hm : X.mg "enumerate" = none) (ha : PA X [a] ta) (hs : starEach [a] X.env = [(false, eval a X.env)] := by rfl) :
    PI X (.Tuple elts x1 tpos) (.Call (.Name "enumerate" p) [a] [] pos) (iEnum1 X.K ta) := by
  intro pins s σ H R I h
  refine Call_ (ld_blt I hg hm boot_enum (PyProof.Rows.callWith_type1 (thn (ha pos pins s σ H _ I h) fun us s1 ⟨vs, H1, I1, r1, q1⟩ => ?_) (by rw [hs]; rfl) (by rfl)) (by decide +kernel) (by decide +kernel))
  obtain ⟨l1, e, ⟨xs, hx⟩, q⟩ := q1
  subst e
  cases r1 with
  | cons r rr =>
    cases rr
    have e1 : _ = Value.ref l1 := r
    subst e1
    obtain ⟨its, rv, p1, _⟩ := I1.list hx
    refine call_enumerate_list p1.isList fun h' he hi hsz kp => ?_
    have I2 : Inv X pins σ H1 { s1 with heap := h' } := I1.kept (t' := s1.toks) fun c o e => kp c o e
    refine wpAny_pyIter_enum he ?_
    refine ⟨s1.heap.objs.size + 1, [s1.heap.objs.size + 1, s1.heap.objs.size], _, _, H1, rfl, I2,
      turn_enum l1 (s1.heap.objs.size + 1) s1.heap.objs.size (Nat.succ_ne_self _), ⟨⟨_, he⟩, hi⟩, fun c hc => ?_, q⟩
    have hc' : s1.heap.objs.size ≤ c := by
      simp only [List.mem_cons, List.not_mem_nil, or_false] at hc
      rcases hc with q | q <;> rw [q] <;> first | exact Nat.le_refl _ | exact Nat.le_add_right _ _
    exact I1.fpOk hc' (I1.hok.fresh hc')
theorem enumS_get : ∀ (xs : List VM.W) (i j : Nat) (x : VM.Src), (VM.enumS i xs)[j]? = some x → ∃ w, xs[j]? = some w ∧ x = .pair (.int ((i + j : Nat) : Int)) w
  | [], _, _, _, h => by simp [VM.enumS] at h
  | y :: r, i, 0, x, h => by
    simp only [VM.enumS, List.getElem?_cons_zero] at h
    exact ⟨y, rfl, (Option.some.inj h).symm⟩
  | y :: r, i, j + 1, x, h => by
    simp only [VM.enumS, List.getElem?_cons_succ] at h
    obtain ⟨w, h1, h2⟩ := enumS_get r (i + 1) j x h
    exact ⟨w, by simpa using h1, by rw [h2, show i + 1 + j = i + (j + 1) by omega]⟩
theorem enumS_len : ∀ (xs : List VM.W) (i : Nat), (VM.enumS i xs).length = xs.length
  | [], _ => rfl
  | _ :: r, i => by simp [VM.enumS, enumS_len r]
theorem ite_ok {K : Fg} {ι : List Addr} {a : Nat} {p : Addr} {o : VM.O} {xs : List VM.W} (hp : ι[a]? = some p) (ho : o = .lst xs ∨ o = .frz xs) : ItOk K ι (Ite K p) (VM.enumS 0 xs) [(a, o)] := by
  have look : ∀ {ι' M H}, ι <+: ι' → Rel K ι' M H → VM.Chk.ok [(a, o)] M = true → ∃ vs, SqL K H p vs ∧ RVs ι' xs vs := fun {ι' M H} q R hc => by
    have hm := chk1 hc
    have ro := R.obj a p o (get_pre q hp) hm
    rcases ho with rfl | rfl
    · obtain ⟨vs, h1, h2⟩ := ro; exact ⟨vs, SqL.of h1, h2⟩
    · obtain ⟨vs, h1, h2⟩ := ro; exact ⟨vs, h1.sq, h2⟩
  refine ⟨fun i ι' M H x q R hc hx => ?_, fun i ι' M H x v H' q R hc hx y => ?_, fun i ι' M H q R hc hi => ?_⟩
  · obtain ⟨vs, h1, h2⟩ := look q R hc
    obtain ⟨w, hw, rfl⟩ := enumS_get _ _ _ _ hx
    obtain ⟨v, hv, _⟩ := Paired.at h2 hw
    exact ⟨vs, v, h1, hv⟩
  · obtain ⟨vs, h1, h2⟩ := look q R hc
    obtain ⟨w, hw, rfl⟩ := enumS_get _ _ _ _ hx
    obtain ⟨T, x', hT, rfl, rfl, k1⟩ := y
    obtain ⟨v', hv, rv⟩ := Paired.at h2 hw
    have e := k1 vs h1
    rw [hv] at e
    cases e
    rw [Nat.zero_add]
    refine ⟨ι' ++ [T], .ref M.length, M ++ [.tup [.int (i : Int), w]], ⟨[T], rfl⟩, rfl, R.new (o := .tup [.int (i : Int), w]) hT fun ι2 pre2 => ⟨_, upd_same, .cons rfl (.cons (rv.mono pre2) .nil)⟩, T, ?_, rfl⟩
    rw [← R.len]; simp
  · obtain ⟨vs, h1, h2⟩ := look q R hc
    rw [enumS_len] at hi
    exact ⟨vs, h1, by rw [← Paired.len h2]; exact hi⟩
theorem si_enum {a : Expr} {m : VM.EM} {p pos : Pos} (hm : X.mg "enumerate" = none) (ha : SE X a m) (hg : Gl X "enumerate" := by rfl) (hs : starEach [a] X.env = [(false, eval a X.env)] := by rfl) :
    SI X (.Tuple elts x1 tpos) (.Call (.Name "enumerate" p) [a] [] pos) (VM.iEnum m) := by
  obtain ⟨ta, pa, ka⟩ := ha
  refine ⟨_, pi_enum hg hm (pa_cons pa pa_nil hs) hs, fun ι M H σ τ Q R S h => ?_⟩
  refine ka ι M H σ τ _ R S (Post.seq h fun ι1 H1 x M1 u p1 R1 r1 h1 => ?_)
  have h3 : Post (rI X.K) X.K ι1 (match VM.lstAt M1 x with | some (a, o, xs) => .ok (VM.enumS 0 xs, [(a, o)]) M1 | none => .bad) Q := h1
  cases ex : VM.lstAt M1 x with
  | none => rw [ex] at h3; exact (h3 : False).elim
  | some z1 =>
    obtain ⟨a1, o1, xs⟩ := z1
    rw [ex] at h3
    obtain ⟨q1, vs, hq1, rfl, s1, d1⟩ := lstAt_rel R1 ex r1
    exact ⟨q1, rfl, ⟨vs, s1⟩, Post.ok h3 R1 (ite_ok hq1 d1)⟩
end
end SV
end
set_option Elab.async false
set_option linter.all false
set_option autoImplicit false
set_option maxRecDepth 100000
set_option maxHeartbeats 4000000
namespace D_K3
open PySem PySem.Spec PyProof.Rows L2 SV
def top (i : Nat) : Stmt := PySem.Challenge.pw_bedsheet_k03_follows.main.body.getD i (.Pass ⟨0, 0, 0, 0⟩)
abbrev s_row_fields : Stmt := top 5
abbrev s_column_fields : Stmt := top 6
abbrev s_box_fields : Stmt := top 7
abbrev s_groups_of : Stmt := top 8
abbrev s_refuse_no_sheet : Stmt := top 9
abbrev s_groups_at : Stmt := top 11
abbrev s_State_init : Stmt := inClass (top 12) 0
abbrev s_State_numbers_for : Stmt := inClass (top 12) 1
abbrev s_State_put : Stmt := inClass (top 12) 2
abbrev s_State_behind : Stmt := inClass (top 12) 3
abbrev s_is_group : Stmt := top 14
abbrev s_homes_in : Stmt := top 15
abbrev s_step_follows : Stmt := top 16
abbrev s_follows : Stmt := top 17
abbrev s_L_whole : Stmt := top 19
abbrev s_L_at : Stmt := top 20
abbrev s_L_same : Stmt := top 21
abbrev s_L_shape_of : Stmt := top 22
abbrev s_L_all_groups : Stmt := top 23
abbrev s_L_full_sheet : Stmt := top 24
abbrev s_L_sheet_by : Stmt := top 25
abbrev s_L_barred : Stmt := top 26
abbrev s_L_can_have : Stmt := top 27
abbrev s_L_spots : Stmt := top 28
abbrev s_L_lacks : Stmt := top 29
abbrev s_L_step_right : Stmt := top 30
abbrev s_L_step_by : Stmt := top 31
abbrev s_L_shape_for : Stmt := top 32
abbrev s_law : Stmt := top 33
structure CT (K : Fg) (C : Addr) : Prop where
  cl : ClsN K [83, 116, 97, 116, 101] C
  n_high : NoAttr K C "high"
  n_wide : NoAttr K C "wide"
  n_groups : NoAttr K C "groups"
  n_numbers : NoAttr K C "numbers"
  n_can : NoAttr K C "can"
section
variable {P : Program} {w : World} {K : Fg} {mg : Str → Option Value} {base : Heap} {k : Nat} {c : VM.CE}
theorem sc_row_fields : FnScope ["size", "row"] ["size", "row"] (defScope s_row_fields) := ⟨rfl, rfl, rfl, by decide +kernel, rfl, by decide +kernel, by decide +kernel⟩
theorem ok_row_fields {f : Addr} {fd : FuncData} (F : Fun K "row_fields" "row_fields" s_row_fields f fd) (hm : mg "row_fields" = some (.ref f)) (hb : Binds K fd ["size", "row"] []) (m_range : mg "range" = none) :
    FnV P w K mg base (k + 1) "row_fields" f fd ["size", "row"] (K3.d_row_fields) :=
  fnv_mk F sc_row_fields hm hb fun cdv A outer s H E hr => by
    have hu := hr.units0
    have hv := hu_of hr
    exact (sss_one (ss_ret (se_comp (ex := ["column"]) (cl := []) (blk_mk (by kernel_rfl) (by decide +kernel) rfl (by decide +kernel) (by kernel_rfl)) rfl (si_rng1 m_range (se_var 0)) (fun C' s' H' fp' => (sg_name (i := 2) (show List.Nodup (α := Str) ["size", "row", "column"] by decide +kernel))) (fun C' s' H' fp' => sifs_nil) (fun C' s' H' fp' => (se_op so_add (se_op so_mul (se_var 1) (se_var 0)) (se_var 2))))))
theorem sc_column_fields : FnScope ["size", "column"] ["size", "column"] (defScope s_column_fields) := ⟨rfl, rfl, rfl, by decide +kernel, rfl, by decide +kernel, by decide +kernel⟩
theorem ok_column_fields {f : Addr} {fd : FuncData} (F : Fun K "column_fields" "column_fields" s_column_fields f fd) (hm : mg "column_fields" = some (.ref f)) (hb : Binds K fd ["size", "column"] []) (m_range : mg "range" = none) :
    FnV P w K mg base (k + 1) "column_fields" f fd ["size", "column"] (K3.d_column_fields) :=
  fnv_mk F sc_column_fields hm hb fun cdv A outer s H E hr => by
    have hu := hr.units0
    have hv := hu_of hr
    exact (sss_one (ss_ret (se_comp (ex := ["row"]) (cl := []) (blk_mk (by kernel_rfl) (by decide +kernel) rfl (by decide +kernel) (by kernel_rfl)) rfl (si_rng1 m_range (se_var 0)) (fun C' s' H' fp' => (sg_name (i := 2) (show List.Nodup (α := Str) ["size", "column", "row"] by decide +kernel))) (fun C' s' H' fp' => sifs_nil) (fun C' s' H' fp' => (se_op so_add (se_op so_mul (se_var 2) (se_var 0)) (se_var 1))))))
theorem sc_box_fields : FnScope ["high", "wide", "box", "size", "top", "left", "fields", "row", "column"] ["high", "wide", "box"] (defScope s_box_fields) := ⟨rfl, rfl, rfl, by decide +kernel, rfl, by decide +kernel, by decide +kernel⟩
theorem ok_box_fields {f : Addr} {fd : FuncData} (F : Fun K "box_fields" "box_fields" s_box_fields f fd) (hm : mg "box_fields" = some (.ref f)) (hb : Binds K fd ["high", "wide", "box"] []) (m_range : mg "range" = none) :
    FnV P w K mg base (k + 1) "box_fields" f fd ["high", "wide", "box"] (K3.d_box_fields) :=
  fnv_mk F sc_box_fields hm hb fun cdv A outer s H E hr => by
    have hu := hr.units0
    have hv := hu_of hr
    exact (sss_cons (ss_set (i := 3) sc_box_fields.nd (se_op so_mul (se_var 0) (se_var 1)))
      (sss_cons (ss_set (i := 4) sc_box_fields.nd (se_op so_mul (se_op so_div (se_var 2) (se_var 0)) (se_var 0)))
      (sss_cons (ss_set (i := 5) sc_box_fields.nd (se_op so_mul (se_op so_mod (se_var 2) (se_var 0)) (se_var 1)))
      (sss_cons (ss_set (i := 6) sc_box_fields.nd (se_lst sa_nil))
      (sss_cons (ss_for PassesOwn.never rfl (si_rng2 m_range (se_var 4) (se_op so_add (se_var 4) (se_var 0))) (sg_name (i := 7) sc_box_fields.nd) (sss_one (ss_for PassesOwn.never rfl (si_rng2 m_range (se_var 5) (se_op so_add (se_var 5) (se_var 1))) (sg_name (i := 8) sc_box_fields.nd) (sss_one (ss_expr (se_meth PySem.F.slot_list_append PySem.F.type_list_append sm_append (se_var 6) (sa_cons (se_op so_add (se_op so_mul (se_var 7) (se_var 3)) (se_var 8)) sa_nil)))))))
      (sss_one (ss_ret (se_var 6))))))))
theorem sc_groups_of : FnScope ["high", "wide", "size", "rows", "columns", "boxes"] ["high", "wide"] (defScope s_groups_of) := ⟨rfl, rfl, rfl, by decide +kernel, rfl, by decide +kernel, by decide +kernel⟩
theorem ok_groups_of {f : Addr} {fd : FuncData} (F : Fun K "groups_of" "groups_of" s_groups_of f fd) (hm : mg "groups_of" = some (.ref f)) (hb : Binds K fd ["high", "wide"] []) {f_box_fields : Addr} {fd_box_fields : FuncData} (G_box_fields : FnV P w K mg base k "box_fields" f_box_fields fd_box_fields ["high", "wide", "box"] (c 2)) {f_column_fields : Addr} {fd_column_fields : FuncData} (G_column_fields : FnV P w K mg base k "column_fields" f_column_fields fd_column_fields ["size", "column"] (c 1)) {f_row_fields : Addr} {fd_row_fields : FuncData} (G_row_fields : FnV P w K mg base k "row_fields" f_row_fields fd_row_fields ["size", "row"] (c 0)) (m_range : mg "range" = none) :
    FnV P w K mg base (k + 1) "groups_of" f fd ["high", "wide"] (K3.d_groups_of (c 0) (c 1) (c 2)) :=
  fnv_mk F sc_groups_of hm hb fun cdv A outer s H E hr => by
    have hu := hr.units0
    have hv := hu_of hr
    exact (sss_cons (ss_set (i := 2) sc_groups_of.nd (se_op so_mul (se_var 0) (se_var 1)))
      (sss_cons (ss_setc (i := 3) (ex := ["row"]) (cl := []) sc_groups_of.nd (blk_mk (by kernel_rfl) (by decide +kernel) rfl (by decide +kernel) (by kernel_rfl)) rfl (si_rng1 m_range (se_var 2)) (fun C' s' H' fp' => (sg_name (i := 6) (show List.Nodup (α := Str) ["high", "wide", "size", "rows", "columns", "boxes", "row"] by decide +kernel))) (fun C' s' H' fp' => sifs_nil) (fun C' s' H' fp' => (se_call G_row_fields hr (sa_cons (se_var 2) (sa_cons (se_var 6) sa_nil)))))
      (sss_cons (ss_setc (i := 4) (ex := ["column"]) (cl := []) sc_groups_of.nd (blk_mk (by kernel_rfl) (by decide +kernel) rfl (by decide +kernel) (by kernel_rfl)) rfl (si_rng1 m_range (se_var 2)) (fun C' s' H' fp' => (sg_name (i := 6) (show List.Nodup (α := Str) ["high", "wide", "size", "rows", "columns", "boxes", "column"] by decide +kernel))) (fun C' s' H' fp' => sifs_nil) (fun C' s' H' fp' => (se_call G_column_fields hr (sa_cons (se_var 2) (sa_cons (se_var 6) sa_nil)))))
      (sss_cons (ss_setc (i := 5) (ex := ["box"]) (cl := []) sc_groups_of.nd (blk_mk (by kernel_rfl) (by decide +kernel) rfl (by decide +kernel) (by kernel_rfl)) rfl (si_rng1 m_range (se_var 2)) (fun C' s' H' fp' => (sg_name (i := 6) (show List.Nodup (α := Str) ["high", "wide", "size", "rows", "columns", "boxes", "box"] by decide +kernel))) (fun C' s' H' fp' => sifs_nil) (fun C' s' H' fp' => (se_call G_box_fields hr (sa_cons (se_var 0) (sa_cons (se_var 1) (sa_cons (se_var 6) sa_nil))))))
      (sss_one (ss_ret (se_op so_add (se_op so_add (se_var 3) (se_var 4)) (se_var 5))))))))
theorem sc_refuse_no_sheet : FnScope ["high", "wide", "sheet", "size", "number"] ["high", "wide", "sheet"] (defScope s_refuse_no_sheet) := ⟨rfl, rfl, rfl, by decide +kernel, rfl, by decide +kernel, by decide +kernel⟩
theorem ok_refuse_no_sheet {f : Addr} {fd : FuncData} (F : Fun K "refuse_no_sheet" "refuse_no_sheet" s_refuse_no_sheet f fd) (hm : mg "refuse_no_sheet" = some (.ref f)) (hb : Binds K fd ["high", "wide", "sheet"] []) (m_len : mg "len" = none) :
    FnV P w K mg base (k + 1) "refuse_no_sheet" f fd ["high", "wide", "sheet"] (K3.d_refuse_no_sheet) :=
  fnv_mk F sc_refuse_no_sheet hm hb fun cdv A outer s H E hr => by
    have hu := hr.units0
    have hv := hu_of hr
    exact (sss_cons (ss_set (i := 3) sc_refuse_no_sheet.nd (se_op so_mul (se_var 0) (se_var 1)))
      (sss_cons (ss_if (st_cmp (so_ne hu) (se_callB sc_len m_len (sa_cons (se_var 2) sa_nil)) (se_op so_mul (se_var 3) (se_var 3)) rfl) (sss_one ss_never) sss_nil)
      (sss_one (ss_for PassesOwn.never rfl (si_seq (se_var 2)) (sg_name (i := 4) sc_refuse_no_sheet.nd) (sss_one (ss_if (st_bool (sw_or (st_cmp so_lt (se_var 4) se_int rfl) (sw_or1 (st_cmp so_gt (se_var 4) (se_var 3) rfl)))) (sss_one ss_never) sss_nil))))))
theorem sc_groups_at : FnScope ["high", "wide", "place", "size", "row", "column", "box"] ["high", "wide", "place"] (defScope s_groups_at) := ⟨rfl, rfl, rfl, by decide +kernel, rfl, by decide +kernel, by decide +kernel⟩
theorem ok_groups_at {f : Addr} {fd : FuncData} (F : Fun K "groups_at" "groups_at" s_groups_at f fd) (hm : mg "groups_at" = some (.ref f)) (hb : Binds K fd ["high", "wide", "place"] []) :
    FnV P w K mg base (k + 1) "groups_at" f fd ["high", "wide", "place"] (K3.d_groups_at) :=
  fnv_mk F sc_groups_at hm hb fun cdv A outer s H E hr => by
    have hu := hr.units0
    have hv := hu_of hr
    exact (sss_cons (ss_set (i := 3) sc_groups_at.nd (se_op so_mul (se_var 0) (se_var 1)))
      (sss_cons (ss_set (i := 4) sc_groups_at.nd (se_op so_div (se_var 2) (se_var 3)))
      (sss_cons (ss_set (i := 5) sc_groups_at.nd (se_op so_mod (se_var 2) (se_var 3)))
      (sss_cons (ss_set (i := 6) sc_groups_at.nd (se_op so_add (se_op so_mul (se_op so_div (se_var 4) (se_var 0)) (se_var 0)) (se_op so_div (se_var 5) (se_var 1))))
      (sss_one (ss_ret (se_lst (sa_cons (se_var 4) (sa_cons (se_op so_add (se_var 3) (se_var 5)) (sa_cons (se_op so_add (se_op so_mul se_int (se_var 3)) (se_var 6)) sa_nil))))))))))
theorem sc_State_init : FnScope ["self", "high", "wide", "sheet", "place", "number"] ["self", "high", "wide", "sheet"] (defScope s_State_init) := ⟨rfl, rfl, rfl, by decide +kernel, rfl, by decide +kernel, by decide +kernel⟩
theorem ok_State_init {f : Addr} {fd : FuncData} (F : Fun K "__init__" "State.__init__" s_State_init f fd) (hb : Binds K fd ["self", "high", "wide", "sheet"] []) {C : Addr} (T : CT K C) {f_State_numbers_for : Addr} {fd_State_numbers_for : FuncData} (M_State_numbers_for : Meth K C "numbers_for" f_State_numbers_for) (G_State_numbers_for : FnM P w K mg base k f_State_numbers_for fd_State_numbers_for ["self", "place"] (c 7)) {f_groups_of : Addr} {fd_groups_of : FuncData} (G_groups_of : FnV P w K mg base k "groups_of" f_groups_of fd_groups_of ["high", "wide"] (c 3)) {f_refuse_no_sheet : Addr} {fd_refuse_no_sheet : FuncData} (G_refuse_no_sheet : FnV P w K mg base k "refuse_no_sheet" f_refuse_no_sheet fd_refuse_no_sheet ["high", "wide", "sheet"] (c 4)) (m_enumerate : mg "enumerate" = none) (m_list : mg "list" = none) :
    FnM P w K mg base (k + 1) f fd ["self", "high", "wide", "sheet"] (K3.d_State_init (c 3) (c 4) (c 7)) :=
  fnm_mk F sc_State_init hb fun cdv A outer s H E hr => by
    have hu := hr.units0
    have hv := hu_of hr
    exact (sss_cons (ss_expr (se_call G_refuse_no_sheet hr (sa_cons (se_var 1) (sa_cons (se_var 2) (sa_cons (se_var 3) sa_nil)))))
      (sss_cons (ss_fld (c := [83, 116, 97, 116, 101]) (f := [104, 105, 103, 104]) T.cl T.n_high (se_var 0) (se_var 1))
      (sss_cons (ss_fld (c := [83, 116, 97, 116, 101]) (f := [119, 105, 100, 101]) T.cl T.n_wide (se_var 0) (se_var 2))
      (sss_cons (ss_fld (c := [83, 116, 97, 116, 101]) (f := [103, 114, 111, 117, 112, 115]) T.cl T.n_groups (se_var 0) (se_call G_groups_of hr (sa_cons (se_var 1) (sa_cons (se_var 2) sa_nil))))
      (sss_cons (ss_fld (c := [83, 116, 97, 116, 101]) (f := [110, 117, 109, 98, 101, 114, 115]) T.cl T.n_numbers (se_var 0) (se_callTy sc_list m_list (sa_cons (se_var 3) sa_nil)))
      (sss_cons (ss_fld (c := [83, 116, 97, 116, 101]) (f := [99, 97, 110]) T.cl T.n_can (se_var 0) se_dnew)
      (sss_one (ss_for PassesOwn.never rfl (si_enum m_enumerate (se_var 3)) (sg_tup rfl (sgs_cons (sg_name (i := 4) sc_State_init.nd) (sgs_cons (sg_name (i := 5) sc_State_init.nd) sgs_nil))) (sss_one (ss_if (st_cmp (so_eq hu) (se_var 5) se_int rfl) (sss_one (ss_dput hv (se_fld (c := [83, 116, 97, 116, 101]) (f := [99, 97, 110]) T.cl T.n_can (se_var 0)) (se_var 4) (se_methO T.cl M_State_numbers_for G_State_numbers_for hr (se_var 0) (sa_cons (se_var 4) sa_nil)))) sss_nil))))))))))
theorem sc_State_numbers_for : FnScope ["self", "place", "seen", "group", "field"] ["self", "place"] (defScope s_State_numbers_for) := ⟨rfl, rfl, rfl, by decide +kernel, rfl, by decide +kernel, by decide +kernel⟩
theorem ok_State_numbers_for {f : Addr} {fd : FuncData} (F : Fun K "numbers_for" "State.numbers_for" s_State_numbers_for f fd) (hb : Binds K fd ["self", "place"] []) {C : Addr} (T : CT K C) {f_groups_at : Addr} {fd_groups_at : FuncData} (G_groups_at : FnV P w K mg base k "groups_at" f_groups_at fd_groups_at ["high", "wide", "place"] (c 5)) (m_range : mg "range" = none) :
    FnM P w K mg base (k + 1) f fd ["self", "place"] (K3.d_State_numbers_for (c 5)) :=
  fnm_mk F sc_State_numbers_for hb fun cdv A outer s H E hr => by
    have hu := hr.units0
    have hv := hu_of hr
    exact (sss_cons (ss_set (i := 2) sc_State_numbers_for.nd se_dnew)
      (sss_cons (ss_for PassesOwn.never rfl (si_seq (se_call G_groups_at hr (sa_cons (se_fld (c := [83, 116, 97, 116, 101]) (f := [104, 105, 103, 104]) T.cl T.n_high (se_var 0)) (sa_cons (se_fld (c := [83, 116, 97, 116, 101]) (f := [119, 105, 100, 101]) T.cl T.n_wide (se_var 0)) (sa_cons (se_var 1) sa_nil))))) (sg_name (i := 3) sc_State_numbers_for.nd) (sss_one (ss_for PassesOwn.never rfl (si_seq (se_ix (se_fld (c := [83, 116, 97, 116, 101]) (f := [103, 114, 111, 117, 112, 115]) T.cl T.n_groups (se_var 0)) (se_var 3))) (sg_name (i := 4) sc_State_numbers_for.nd) (sss_one (ss_dput hv (se_var 2) (se_ix (se_fld (c := [83, 116, 97, 116, 101]) (f := [110, 117, 109, 98, 101, 114, 115]) T.cl T.n_numbers (se_var 0)) (se_var 4)) se_bl)))))
      (sss_one (ss_ret (se_comp (ex := ["number"]) (cl := []) (blk_mk (by kernel_rfl) (by decide +kernel) rfl (by decide +kernel) (by kernel_rfl)) rfl (si_rng2 m_range se_int (se_op so_add (se_op so_mul (se_fld (c := [83, 116, 97, 116, 101]) (f := [104, 105, 103, 104]) T.cl T.n_high (se_var 0)) (se_fld (c := [83, 116, 97, 116, 101]) (f := [119, 105, 100, 101]) T.cl T.n_wide (se_var 0))) se_int)) (fun C' s' H' fp' => (sg_name (i := 5) (show List.Nodup (α := Str) ["self", "place", "seen", "group", "field", "number"] by decide +kernel))) (fun C' s' H' fp' => (sifs_one (st_cmp (so_dnotin hv) (se_var 5) (se_var 2) rfl))) (fun C' s' H' fp' => (se_var 5)))))))
theorem sc_State_put : FnScope ["self", "place", "number"] ["self", "place", "number"] (defScope s_State_put) := ⟨rfl, rfl, rfl, by decide +kernel, rfl, by decide +kernel, by decide +kernel⟩
theorem ok_State_put {f : Addr} {fd : FuncData} (F : Fun K "put" "State.put" s_State_put f fd) (hb : Binds K fd ["self", "place", "number"] []) :
    FnM P w K mg base (k + 1) f fd ["self", "place", "number"] (K3.d_State_put) :=
  fnm_mk F sc_State_put hb fun cdv A outer s H E hr => by
    have hu := hr.units0
    have hv := hu_of hr
    exact (sss_one ss_never)
theorem sc_State_behind : FnScope ["self", "place", "number"] ["self", "place", "number"] (defScope s_State_behind) := ⟨rfl, rfl, rfl, by decide +kernel, rfl, by decide +kernel, by decide +kernel⟩
theorem ok_State_behind {f : Addr} {fd : FuncData} (F : Fun K "behind" "State.behind" s_State_behind f fd) (hb : Binds K fd ["self", "place", "number"] []) :
    FnM P w K mg base (k + 1) f fd ["self", "place", "number"] (K3.d_State_behind) :=
  fnm_mk F sc_State_behind hb fun cdv A outer s H E hr => by
    have hu := hr.units0
    have hv := hu_of hr
    exact (sss_one ss_never)
theorem sc_is_group : FnScope ["state", "group"] ["state", "group"] (defScope s_is_group) := ⟨rfl, rfl, rfl, by decide +kernel, rfl, by decide +kernel, by decide +kernel⟩
theorem ok_is_group {f : Addr} {fd : FuncData} (F : Fun K "is_group" "is_group" s_is_group f fd) (hm : mg "is_group" = some (.ref f)) (hb : Binds K fd ["state", "group"] []) {C : Addr} (T : CT K C) (m_len : mg "len" = none) :
    FnV P w K mg base (k + 1) "is_group" f fd ["state", "group"] (K3.d_is_group) :=
  fnv_mk F sc_is_group hm hb fun cdv A outer s H E hr => by
    have hu := hr.units0
    have hv := hu_of hr
    exact (sss_one (ss_ret (se_chain so_le so_lt se_int (se_var 1) (se_callB sc_len m_len (sa_cons (se_fld (c := [83, 116, 97, 116, 101]) (f := [103, 114, 111, 117, 112, 115]) T.cl T.n_groups (se_var 0)) sa_nil)))))
theorem sc_homes_in : FnScope ["state", "group", "homes", "field", "number"] ["state", "group"] (defScope s_homes_in) := ⟨rfl, rfl, rfl, by decide +kernel, rfl, by decide +kernel, by decide +kernel⟩
theorem ok_homes_in {f : Addr} {fd : FuncData} (F : Fun K "homes_in" "homes_in" s_homes_in f fd) (hm : mg "homes_in" = some (.ref f)) (hb : Binds K fd ["state", "group"] []) {C : Addr} (T : CT K C) :
    FnV P w K mg base (k + 1) "homes_in" f fd ["state", "group"] (K3.d_homes_in) :=
  fnv_mk F sc_homes_in hm hb fun cdv A outer s H E hr => by
    have hu := hr.units0
    have hv := hu_of hr
    exact (sss_cons (ss_set (i := 2) sc_homes_in.nd se_dnew)
      (sss_cons (ss_for PassesOwn.never rfl (si_seq (se_ix (se_fld (c := [83, 116, 97, 116, 101]) (f := [103, 114, 111, 117, 112, 115]) T.cl T.n_groups (se_var 0)) (se_var 1))) (sg_name (i := 3) sc_homes_in.nd) (sss_one (ss_for PassesOwn.never rfl (si_seq (se_dget2 hv (se_fld (c := [83, 116, 97, 116, 101]) (f := [99, 97, 110]) T.cl T.n_can (se_var 0)) (se_var 3) (se_lst sa_nil) ⟨by rfl, by rfl, by rfl, by rfl⟩)) (sg_name (i := 4) sc_homes_in.nd) (sss_one (ss_expr (se_meth PySem.F.slot_list_append PySem.F.type_list_append sm_append (se_dset2 (se_var 2) (se_var 4) (se_lst sa_nil) ⟨by rfl, by rfl, by rfl, by rfl⟩) (sa_cons (se_var 3) sa_nil)))))))
      (sss_one (ss_ret (se_var 2)))))
theorem sc_step_follows : FnScope ["state", "step"] ["state", "step"] (defScope s_step_follows) := ⟨rfl, rfl, rfl, by decide +kernel, rfl, by decide +kernel, by decide +kernel⟩
theorem ok_step_follows {f : Addr} {fd : FuncData} (F : Fun K "step_follows" "step_follows" s_step_follows f fd) (hm : mg "step_follows" = some (.ref f)) (hb : Binds K fd ["state", "step"] []) {C : Addr} (T : CT K C) {f_homes_in : Addr} {fd_homes_in : FuncData} (G_homes_in : FnV P w K mg base k "homes_in" f_homes_in fd_homes_in ["state", "group"] (c 12)) {f_is_group : Addr} {fd_is_group : FuncData} (G_is_group : FnV P w K mg base k "is_group" f_is_group fd_is_group ["state", "group"] (c 11)) :
    FnV P w K mg base (k + 1) "step_follows" f fd ["state", "step"] (K3.d_step_follows (c 11) (c 12)) :=
  fnv_mk F sc_step_follows hm hb fun cdv A outer s H E hr => by
    have hu := hr.units0
    have hv := hu_of hr
    exact (sss_cons (ss_if (st_cmp (so_eq hu) (se_ix (se_var 1) se_int) (se_str [102, 105, 101, 108, 100]) rfl) (sss_one (ss_ret (se_cmp (so_eq hu) (se_dget1 hv (se_fld (c := [83, 116, 97, 116, 101]) (f := [99, 97, 110]) T.cl T.n_can (se_var 0)) (se_ix (se_var 1) se_int) ⟨by rfl, by rfl, by rfl, by rfl⟩) (se_lst (sa_cons (se_ix (se_var 1) se_int) sa_nil)) rfl))) sss_nil)
      (sss_one (ss_ret (se_and (se_call G_is_group hr (sa_cons (se_var 0) (sa_cons (se_ix (se_var 1) se_int) sa_nil))) (se_one (se_cmp (so_eq hu) (se_dget1 hv (se_call G_homes_in hr (sa_cons (se_var 0) (sa_cons (se_ix (se_var 1) se_int) sa_nil))) (se_ix (se_var 1) se_int) ⟨by rfl, by rfl, by rfl, by rfl⟩) (se_lst (sa_cons (se_ix (se_var 1) se_int) sa_nil)) rfl))))))
theorem sc_follows : FnScope ["high", "wide", "sheet", "step"] ["high", "wide", "sheet", "step"] (defScope s_follows) := ⟨rfl, rfl, rfl, by decide +kernel, rfl, by decide +kernel, by decide +kernel⟩
theorem ok_follows {f : Addr} {fd : FuncData} (F : Fun K "follows" "follows" s_follows f fd) (hm : mg "follows" = some (.ref f)) (hb : Binds K fd ["high", "wide", "sheet", "step"] []) {f_step_follows : Addr} {fd_step_follows : FuncData} (G_step_follows : FnV P w K mg base k "step_follows" f_step_follows fd_step_follows ["state", "step"] (c 13)) (G_State : MkV P w K mg base k "State" 3 (c 10)) :
    FnV P w K mg base (k + 1) "follows" f fd ["high", "wide", "sheet", "step"] (K3.d_follows (c 10) (c 13)) :=
  fnv_mk F sc_follows hm hb fun cdv A outer s H E hr => by
    have hu := hr.units0
    have hv := hu_of hr
    exact (sss_one (ss_ret (se_call G_step_follows hr (sa_cons (se_make G_State hr (sa_cons (se_var 0) (sa_cons (se_var 1) (sa_cons (se_var 2) sa_nil)))) (sa_cons (se_var 3) sa_nil)))))
theorem sc_L_whole : FnScope ["_law_found"] ["_law_found"] (defScope s_L_whole) := ⟨rfl, rfl, rfl, by decide +kernel, rfl, by decide +kernel, by decide +kernel⟩
theorem ok_L_whole {f : Addr} {fd : FuncData} (F : Fun K "_law_whole" "_law_whole" s_L_whole f fd) (hm : mg "_law_whole" = some (.ref f)) (hb : Binds K fd ["_law_found"] []) (m_isinstance : mg "isinstance" = none) (m_bool : mg "bool" = none) (m_int : mg "int" = none) :
    FnV P w K mg base (k + 1) "_law_whole" f fd ["_law_found"] (K3.d_L_whole) :=
  fnv_mk F sc_L_whole hm hb fun cdv A outer s H E hr => by
    have hu := hr.units0
    have hv := hu_of hr
    exact (sss_one (ss_ret (se_and (se_isi .int m_isinstance m_int (se_var 0)) (se_one (se_not (se_isi .bool m_isinstance m_bool (se_var 0)))))))
theorem sc_L_at : FnScope ["_law_script", "_law_k"] ["_law_script", "_law_k"] (defScope s_L_at) := ⟨rfl, rfl, rfl, by decide +kernel, rfl, by decide +kernel, by decide +kernel⟩
theorem ok_L_at {f : Addr} {fd : FuncData} (F : Fun K "_law_at" "_law_at" s_L_at f fd) (hm : mg "_law_at" = some (.ref f)) (hb : Binds K fd ["_law_script", "_law_k"] []) (m_len : mg "len" = none) :
    FnV P w K mg base (k + 1) "_law_at" f fd ["_law_script", "_law_k"] (K3.d_L_at) :=
  fnv_mk F sc_L_at hm hb fun cdv A outer s H E hr => by
    have hu := hr.units0
    have hv := hu_of hr
    exact (sss_cons (ss_if (st_cmp (so_eq hu) (se_var 0) (se_lst sa_nil) rfl) (sss_one (ss_ret se_int)) sss_nil)
      (sss_one (ss_ret (se_op so_add (se_ix (se_var 0) (se_op so_mod (se_var 1) (se_callB sc_len m_len (sa_cons (se_var 0) sa_nil)))) (se_op so_mul se_int (se_op so_div (se_var 1) (se_callB sc_len m_len (sa_cons (se_var 0) sa_nil))))))))
theorem sc_L_same : FnScope ["_law_found", "_law_due", "_law_left", "_law_right", "_law_one", "_law_two"] ["_law_found", "_law_due"] (defScope s_L_same) := ⟨rfl, rfl, rfl, by decide +kernel, rfl, by decide +kernel, by decide +kernel⟩
theorem ok_L_same {f : Addr} {fd : FuncData} (F : Fun K "_law_same" "_law_same" s_L_same f fd) (hm : mg "_law_same" = some (.ref f)) (hb : Binds K fd ["_law_found", "_law_due"] []) {f_L_whole : Addr} {fd_L_whole : FuncData} (G_L_whole : FnV P w K mg base k "_law_whole" f_L_whole fd_L_whole ["_law_found"] (c 15)) (m_tuple : mg "tuple" = none) (m_list : mg "list" = none) (m_isinstance : mg "isinstance" = none) (m_len : mg "len" = none) (m_bool : mg "bool" = none) (m_str : mg "str" = none) :
    FnV P w K mg base (k + 1) "_law_same" f fd ["_law_found", "_law_due"] (K3.d_L_same (c 15)) :=
  fnv_mk F sc_L_same hm hb fun cdv A outer s H E hr => by
    have hu := hr.units0
    have hv := hu_of hr
    exact (sss_cons (ss_set (i := 2) sc_L_same.nd (se_lst (sa_cons (se_var 0) sa_nil)))
      (sss_cons (ss_set (i := 3) sc_L_same.nd (se_lst (sa_cons (se_var 1) sa_nil)))
      (sss_cons (ss_while (n := 1000000000) PassesOwn.never (st_cmp (so_ne hu) (se_var 3) (se_lst sa_nil) rfl) (sss_cons (ss_set (i := 4) sc_L_same.nd (se_meth0 PySem.F.slot_list_pop PySem.F.type_list_pop sm_pop (se_var 2)))
      (sss_cons (ss_set (i := 5) sc_L_same.nd (se_meth0 PySem.F.slot_list_pop PySem.F.type_list_pop sm_pop (se_var 3)))
      (sss_one (ss_if (st_val (se_isiT m_isinstance (se_var 5) (scls_cons .list m_list (scls_cons .tuple m_tuple scls_nil)))) (sss_cons (ss_if (st_cmp (so_ne hu) (se_isi .list m_isinstance m_list (se_var 4)) (se_isi .list m_isinstance m_list (se_var 5)) rfl) (sss_one (ss_ret se_bl)) sss_nil)
      (sss_cons (ss_if (st_bool (sw_or (st_cmp (so_ne hu) (se_isi .tuple m_isinstance m_tuple (se_var 4)) (se_isi .tuple m_isinstance m_tuple (se_var 5)) rfl) (sw_or1 (st_cmp (so_ne hu) (se_callB sc_len m_len (sa_cons (se_var 4) sa_nil)) (se_callB sc_len m_len (sa_cons (se_var 5) sa_nil)) rfl)))) (sss_one (ss_ret se_bl)) sss_nil)
      (sss_cons (ss_expr (se_meth PySem.F.slot_list_extend PySem.F.type_list_extend sm_extend (se_var 2) (sa_cons (se_var 4) sa_nil)))
      (sss_one (ss_expr (se_meth PySem.F.slot_list_extend PySem.F.type_list_extend sm_extend (se_var 3) (sa_cons (se_var 5) sa_nil))))))) (sss_one (ss_if (st_isN (se_var 5)) (sss_one (ss_if (st_notN (se_var 4)) (sss_one (ss_ret se_bl)) sss_nil)) (sss_one (ss_if (st_val (se_isi .bool m_isinstance m_bool (se_var 5))) (sss_one (ss_if (st_bool (sw_or (st_not (st_val (se_isi .bool m_isinstance m_bool (se_var 4)))) (sw_or1 (st_cmp (so_ne hu) (se_var 4) (se_var 5) rfl)))) (sss_one (ss_ret se_bl)) sss_nil)) (sss_one (ss_if (st_val (se_isi .str m_isinstance m_str (se_var 5))) (sss_one (ss_if (st_bool (sw_or (st_not (st_val (se_isi .str m_isinstance m_str (se_var 4)))) (sw_or1 (st_cmp (so_ne hu) (se_var 4) (se_var 5) rfl)))) (sss_one (ss_ret se_bl)) sss_nil)) (sss_one (ss_if (st_bool (sw_or (st_not (st_val (se_call G_L_whole hr (sa_cons (se_var 4) sa_nil)))) (sw_or1 (st_cmp (so_ne hu) (se_var 4) (se_var 5) rfl)))) (sss_one (ss_ret se_bl)) sss_nil)))))))))))))
      (sss_one (ss_ret se_bl)))))
theorem sc_L_shape_of : FnScope ["_law_cell"] ["_law_cell"] (defScope s_L_shape_of) := ⟨rfl, rfl, rfl, by decide +kernel, rfl, by decide +kernel, by decide +kernel⟩
theorem ok_L_shape_of {f : Addr} {fd : FuncData} (F : Fun K "_law_shape_of" "_law_shape_of" s_L_shape_of f fd) (hm : mg "_law_shape_of" = some (.ref f)) (hb : Binds K fd ["_law_cell"] []) :
    FnV P w K mg base (k + 1) "_law_shape_of" f fd ["_law_cell"] (K3.d_L_shape_of) :=
  fnv_mk F sc_L_shape_of hm hb fun cdv A outer s H E hr => by
    have hu := hr.units0
    have hv := hu_of hr
    exact (sss_one (ss_ret (se_ix (se_lst (sa_cons (se_tup (sa_cons se_int (sa_cons se_int sa_nil))) (sa_cons (se_tup (sa_cons se_int (sa_cons se_int sa_nil))) (sa_cons (se_tup (sa_cons se_int (sa_cons se_int sa_nil))) (sa_cons (se_tup (sa_cons se_int (sa_cons se_int sa_nil))) (sa_cons (se_tup (sa_cons se_int (sa_cons se_int sa_nil))) (sa_cons (se_tup (sa_cons se_int (sa_cons se_int sa_nil))) (sa_cons (se_tup (sa_cons se_int (sa_cons se_int sa_nil))) (sa_cons (se_tup (sa_cons se_int (sa_cons se_int sa_nil))) sa_nil))))))))) (se_op so_mod (se_var 0) se_int))))
theorem sc_L_all_groups : FnScope ["_law_high", "_law_wide", "_law_size", "_law_groups", "_law_place", "_law_row", "_law_column", "_law_box", "_law_group"] ["_law_high", "_law_wide"] (defScope s_L_all_groups) := ⟨rfl, rfl, rfl, by decide +kernel, rfl, by decide +kernel, by decide +kernel⟩
theorem ok_L_all_groups {f : Addr} {fd : FuncData} (F : Fun K "_law_all_groups" "_law_all_groups" s_L_all_groups f fd) (hm : mg "_law_all_groups" = some (.ref f)) (hb : Binds K fd ["_law_high", "_law_wide"] []) (m_range : mg "range" = none) :
    FnV P w K mg base (k + 1) "_law_all_groups" f fd ["_law_high", "_law_wide"] (K3.d_L_all_groups) :=
  fnv_mk F sc_L_all_groups hm hb fun cdv A outer s H E hr => by
    have hu := hr.units0
    have hv := hu_of hr
    exact (sss_cons (ss_set (i := 2) sc_L_all_groups.nd (se_op so_mul (se_var 0) (se_var 1)))
      (sss_cons (ss_setc (i := 3) (ex := ["_law_k"]) (cl := []) sc_L_all_groups.nd (blk_mk (by kernel_rfl) (by decide +kernel) rfl (by decide +kernel) (by kernel_rfl)) rfl (si_rng1 m_range (se_op so_mul se_int (se_var 2))) (fun C' s' H' fp' => (sg_name (i := 9) (show List.Nodup (α := Str) ["_law_high", "_law_wide", "_law_size", "_law_groups", "_law_place", "_law_row", "_law_column", "_law_box", "_law_group", "_law_k"] by decide +kernel))) (fun C' s' H' fp' => sifs_nil) (fun C' s' H' fp' => (se_lst sa_nil)))
      (sss_cons (ss_for PassesOwn.never rfl (si_rng1 m_range (se_op so_mul (se_var 2) (se_var 2))) (sg_name (i := 4) sc_L_all_groups.nd) (sss_cons (ss_set (i := 5) sc_L_all_groups.nd (se_op so_div (se_var 4) (se_var 2)))
      (sss_cons (ss_set (i := 6) sc_L_all_groups.nd (se_op so_mod (se_var 4) (se_var 2)))
      (sss_cons (ss_set (i := 7) sc_L_all_groups.nd (se_op so_add (se_op so_mul (se_op so_div (se_var 5) (se_var 0)) (se_var 0)) (se_op so_div (se_var 6) (se_var 1))))
      (sss_one (ss_for PassesOwn.never rfl (si_seq (se_lst (sa_cons (se_var 5) (sa_cons (se_op so_add (se_var 2) (se_var 6)) (sa_cons (se_op so_add (se_op so_mul se_int (se_var 2)) (se_var 7)) sa_nil))))) (sg_name (i := 8) sc_L_all_groups.nd) (sss_one (ss_expr (se_meth PySem.F.slot_list_append PySem.F.type_list_append sm_append (se_ix (se_var 3) (se_var 8)) (sa_cons (se_var 4) sa_nil))))))))))
      (sss_one (ss_ret (se_var 3))))))
theorem sc_L_full_sheet : FnScope ["_law_high", "_law_wide", "_law_cell", "_law_size", "_law_turn", "_law_filled", "_law_row", "_law_column", "_law_number", "_law_told", "_law_place"] ["_law_high", "_law_wide", "_law_cell"] (defScope s_L_full_sheet) := ⟨rfl, rfl, rfl, by decide +kernel, rfl, by decide +kernel, by decide +kernel⟩
theorem ok_L_full_sheet {f : Addr} {fd : FuncData} (F : Fun K "_law_full_sheet" "_law_full_sheet" s_L_full_sheet f fd) (hm : mg "_law_full_sheet" = some (.ref f)) (hb : Binds K fd ["_law_high", "_law_wide", "_law_cell"] []) (m_range : mg "range" = none) :
    FnV P w K mg base (k + 1) "_law_full_sheet" f fd ["_law_high", "_law_wide", "_law_cell"] (K3.d_L_full_sheet) :=
  fnv_mk F sc_L_full_sheet hm hb fun cdv A outer s H E hr => by
    have hu := hr.units0
    have hv := hu_of hr
    exact (sss_cons (ss_set (i := 3) sc_L_full_sheet.nd (se_op so_mul (se_var 0) (se_var 1)))
      (sss_cons (ss_set (i := 4) sc_L_full_sheet.nd (se_op so_mod (se_var 2) (se_var 3)))
      (sss_cons (ss_set (i := 5) sc_L_full_sheet.nd (se_lst sa_nil))
      (sss_cons (ss_for PassesOwn.never rfl (si_rng1 m_range (se_var 3)) (sg_name (i := 6) sc_L_full_sheet.nd) (sss_one (ss_for PassesOwn.never rfl (si_rng1 m_range (se_var 3)) (sg_name (i := 7) sc_L_full_sheet.nd) (sss_cons (ss_set (i := 8) sc_L_full_sheet.nd (se_op so_mod (se_op so_add (se_op so_add (se_op so_mul (se_var 1) (se_op so_mod (se_var 6) (se_var 0))) (se_op so_div (se_var 6) (se_var 0))) (se_var 7)) (se_var 3)))
      (sss_one (ss_expr (se_meth PySem.F.slot_list_append PySem.F.type_list_append sm_append (se_var 5) (sa_cons (se_op so_add (se_op so_mod (se_op so_add (se_op so_mul (se_var 8) (se_ix (se_lst (sa_cons se_int (sa_cons (se_op so_sub (se_var 3) se_int) sa_nil))) (se_op so_mod (se_op so_div (se_var 2) se_int) se_int))) (se_var 4)) (se_var 3)) se_int) sa_nil))))))))
      (sss_cons (ss_if (st_bool (sw_and (st_cmp (so_eq hu) (se_op so_mod (se_op so_div (se_var 2) se_int) se_int) se_int rfl) (sw_and1 (st_cmp (so_eq hu) (se_var 0) (se_var 1) rfl)))) (sss_cons (ss_set (i := 9) sc_L_full_sheet.nd (se_lst sa_nil))
      (sss_cons (ss_for PassesOwn.never rfl (si_rng1 m_range (se_op so_mul (se_var 3) (se_var 3))) (sg_name (i := 10) sc_L_full_sheet.nd) (sss_one (ss_expr (se_meth PySem.F.slot_list_append PySem.F.type_list_append sm_append (se_var 9) (sa_cons (se_ix (se_var 5) (se_op so_add (se_op so_mul (se_op so_mod (se_var 10) (se_var 3)) (se_var 3)) (se_op so_div (se_var 10) (se_var 3)))) sa_nil)))))
      (sss_one (ss_set (i := 5) sc_L_full_sheet.nd (se_var 9))))) sss_nil)
      (sss_one (ss_ret (se_var 5))))))))
theorem sc_L_sheet_by : FnScope ["_law_filled", "_law_cells", "_law_share", "_law_sheet", "_law_place", "_law_cell"] ["_law_filled", "_law_cells", "_law_share"] (defScope s_L_sheet_by) := ⟨rfl, rfl, rfl, by decide +kernel, rfl, by decide +kernel, by decide +kernel⟩
theorem ok_L_sheet_by {f : Addr} {fd : FuncData} (F : Fun K "_law_sheet_by" "_law_sheet_by" s_L_sheet_by f fd) (hm : mg "_law_sheet_by" = some (.ref f)) (hb : Binds K fd ["_law_filled", "_law_cells", "_law_share"] []) (m_range : mg "range" = none) (m_len : mg "len" = none) (m_int : mg "int" = none) :
    FnV P w K mg base (k + 1) "_law_sheet_by" f fd ["_law_filled", "_law_cells", "_law_share"] (K3.d_L_sheet_by) :=
  fnv_mk F sc_L_sheet_by hm hb fun cdv A outer s H E hr => by
    have hu := hr.units0
    have hv := hu_of hr
    exact (sss_cons (ss_set (i := 3) sc_L_sheet_by.nd (se_lst sa_nil))
      (sss_cons (ss_for PassesOwn.never rfl (si_rng1 m_range (se_callB sc_len m_len (sa_cons (se_var 0) sa_nil))) (sg_name (i := 4) sc_L_sheet_by.nd) (sss_cons (ss_set (i := 5) sc_L_sheet_by.nd se_int)
      (sss_cons (ss_if (st_cmp so_lt (se_var 4) (se_callB sc_len m_len (sa_cons (se_var 1) sa_nil)) rfl) (sss_one (ss_set (i := 5) sc_L_sheet_by.nd (se_ix (se_var 1) (se_var 4)))) sss_nil)
      (sss_one (ss_expr (se_meth PySem.F.slot_list_append PySem.F.type_list_append sm_append (se_var 3) (sa_cons (se_op so_mul (se_ix (se_var 0) (se_var 4)) (se_callTy sc_int m_int (sa_cons (se_cmp so_ge (se_op so_mod (se_op so_add (se_var 5) (se_var 4)) se_int) (se_var 2) rfl) sa_nil))) sa_nil)))))))
      (sss_one (ss_ret (se_var 3)))))
theorem sc_L_barred : FnScope ["_law_groups", "_law_sheet", "_law_place", "_law_number", "_law_group", "_law_one"] ["_law_groups", "_law_sheet", "_law_place", "_law_number"] (defScope s_L_barred) := ⟨rfl, rfl, rfl, by decide +kernel, rfl, by decide +kernel, by decide +kernel⟩
theorem ok_L_barred {f : Addr} {fd : FuncData} (F : Fun K "_law_barred" "_law_barred" s_L_barred f fd) (hm : mg "_law_barred" = some (.ref f)) (hb : Binds K fd ["_law_groups", "_law_sheet", "_law_place", "_law_number"] []) :
    FnV P w K mg base (k + 1) "_law_barred" f fd ["_law_groups", "_law_sheet", "_law_place", "_law_number"] (K3.d_L_barred) :=
  fnv_mk F sc_L_barred hm hb fun cdv A outer s H E hr => by
    have hu := hr.units0
    have hv := hu_of hr
    exact (sss_cons (ss_for PassesOwn.never rfl (si_seq (se_var 0)) (sg_name (i := 4) sc_L_barred.nd) (sss_one (ss_if (st_cmp so_in (se_var 2) (se_var 4) rfl) (sss_one (ss_for PassesOwn.never rfl (si_seq (se_var 4)) (sg_name (i := 5) sc_L_barred.nd) (sss_one (ss_if (st_bool (sw_and (st_cmp (so_ne hu) (se_var 5) (se_var 2) rfl) (sw_and1 (st_cmp (so_eq hu) (se_ix (se_var 1) (se_var 5)) (se_var 3) rfl)))) (sss_one (ss_ret se_bl)) sss_nil)))) sss_nil)))
      (sss_one (ss_ret se_bl)))
theorem sc_L_can_have : FnScope ["_law_groups", "_law_sheet", "_law_size", "_law_table", "_law_place", "_law_row", "_law_number"] ["_law_groups", "_law_sheet", "_law_size"] (defScope s_L_can_have) := ⟨rfl, rfl, rfl, by decide +kernel, rfl, by decide +kernel, by decide +kernel⟩
theorem ok_L_can_have {f : Addr} {fd : FuncData} (F : Fun K "_law_can_have" "_law_can_have" s_L_can_have f fd) (hm : mg "_law_can_have" = some (.ref f)) (hb : Binds K fd ["_law_groups", "_law_sheet", "_law_size"] []) {f_L_barred : Addr} {fd_L_barred : FuncData} (G_L_barred : FnV P w K mg base k "_law_barred" f_L_barred fd_L_barred ["_law_groups", "_law_sheet", "_law_place", "_law_number"] (c 22)) (m_range : mg "range" = none) (m_len : mg "len" = none) :
    FnV P w K mg base (k + 1) "_law_can_have" f fd ["_law_groups", "_law_sheet", "_law_size"] (K3.d_L_can_have (c 22)) :=
  fnv_mk F sc_L_can_have hm hb fun cdv A outer s H E hr => by
    have hu := hr.units0
    have hv := hu_of hr
    exact (sss_cons (ss_set (i := 3) sc_L_can_have.nd (se_lst sa_nil))
      (sss_cons (ss_for PassesOwn.never rfl (si_rng1 m_range (se_callB sc_len m_len (sa_cons (se_var 1) sa_nil))) (sg_name (i := 4) sc_L_can_have.nd) (sss_cons (ss_set (i := 5) sc_L_can_have.nd (se_lst sa_nil))
      (sss_cons (ss_for PassesOwn.never rfl (si_rng2 m_range se_int (se_op so_add (se_var 2) se_int)) (sg_name (i := 6) sc_L_can_have.nd) (sss_one (ss_if (st_bool (sw_and (st_cmp (so_eq hu) (se_ix (se_var 1) (se_var 4)) se_int rfl) (sw_and1 (st_not (st_val (se_call G_L_barred hr (sa_cons (se_var 0) (sa_cons (se_var 1) (sa_cons (se_var 4) (sa_cons (se_var 6) sa_nil)))))))))) (sss_one (ss_expr (se_meth PySem.F.slot_list_append PySem.F.type_list_append sm_append (se_var 5) (sa_cons (se_var 6) sa_nil)))) sss_nil)))
      (sss_one (ss_expr (se_meth PySem.F.slot_list_append PySem.F.type_list_append sm_append (se_var 3) (sa_cons (se_var 5) sa_nil)))))))
      (sss_one (ss_ret (se_var 3)))))
theorem sc_L_spots : FnScope ["_law_groups", "_law_table", "_law_group", "_law_number"] ["_law_groups", "_law_table", "_law_group", "_law_number"] (defScope s_L_spots) := ⟨rfl, rfl, rfl, by decide +kernel, rfl, by decide +kernel, by decide +kernel⟩
theorem ok_L_spots {f : Addr} {fd : FuncData} (F : Fun K "_law_spots" "_law_spots" s_L_spots f fd) (hm : mg "_law_spots" = some (.ref f)) (hb : Binds K fd ["_law_groups", "_law_table", "_law_group", "_law_number"] []) :
    FnV P w K mg base (k + 1) "_law_spots" f fd ["_law_groups", "_law_table", "_law_group", "_law_number"] (K3.d_L_spots) :=
  fnv_mk F sc_L_spots hm hb fun cdv A outer s H E hr => by
    have hu := hr.units0
    have hv := hu_of hr
    exact (sss_one (ss_ret (se_comp (ex := ["_law_place"]) (cl := []) (blk_mk (by kernel_rfl) (by decide +kernel) rfl (by decide +kernel) (by kernel_rfl)) rfl (si_seq (se_ix (se_var 0) (se_var 2))) (fun C' s' H' fp' => (sg_name (i := 4) (show List.Nodup (α := Str) ["_law_groups", "_law_table", "_law_group", "_law_number", "_law_place"] by decide +kernel))) (fun C' s' H' fp' => (sifs_one (st_cmp so_in (se_var 3) (se_ix (se_var 1) (se_var 4)) rfl))) (fun C' s' H' fp' => (se_var 4)))))
theorem sc_L_lacks : FnScope ["_law_groups", "_law_sheet", "_law_group", "_law_number", "_law_size"] ["_law_groups", "_law_sheet", "_law_group", "_law_number", "_law_size"] (defScope s_L_lacks) := ⟨rfl, rfl, rfl, by decide +kernel, rfl, by decide +kernel, by decide +kernel⟩
theorem ok_L_lacks {f : Addr} {fd : FuncData} (F : Fun K "_law_lacks" "_law_lacks" s_L_lacks f fd) (hm : mg "_law_lacks" = some (.ref f)) (hb : Binds K fd ["_law_groups", "_law_sheet", "_law_group", "_law_number", "_law_size"] []) (m_len : mg "len" = none) :
    FnV P w K mg base (k + 1) "_law_lacks" f fd ["_law_groups", "_law_sheet", "_law_group", "_law_number", "_law_size"] (K3.d_L_lacks) :=
  fnv_mk F sc_L_lacks hm hb fun cdv A outer s H E hr => by
    have hu := hr.units0
    have hv := hu_of hr
    exact (sss_cons (ss_if (st_bool (sw_or (st_cmp so_lt (se_var 2) se_int rfl) (sw_or (st_cmp so_ge (se_var 2) (se_callB sc_len m_len (sa_cons (se_var 0) sa_nil)) rfl) (sw_or (st_cmp so_lt (se_var 3) se_int rfl) (sw_or1 (st_cmp so_gt (se_var 3) (se_var 4) rfl)))))) (sss_one (ss_ret se_bl)) sss_nil)
      (sss_one (ss_ret (se_cmp so_notin (se_var 3) (se_comp (ex := ["_law_place"]) (cl := []) (blk_mk (by kernel_rfl) (by decide +kernel) rfl (by decide +kernel) (by kernel_rfl)) rfl (si_seq (se_ix (se_var 0) (se_var 2))) (fun C' s' H' fp' => (sg_name (i := 5) (show List.Nodup (α := Str) ["_law_groups", "_law_sheet", "_law_group", "_law_number", "_law_size", "_law_place"] by decide +kernel))) (fun C' s' H' fp' => sifs_nil) (fun C' s' H' fp' => (se_ix (se_var 1) (se_var 5)))) rfl))))
theorem sc_L_step_right : FnScope ["_law_groups", "_law_sheet", "_law_table", "_law_step", "_law_size", "_law_place"] ["_law_groups", "_law_sheet", "_law_table", "_law_step", "_law_size"] (defScope s_L_step_right) := ⟨rfl, rfl, rfl, by decide +kernel, rfl, by decide +kernel, by decide +kernel⟩
theorem ok_L_step_right {f : Addr} {fd : FuncData} (F : Fun K "_law_step_right" "_law_step_right" s_L_step_right f fd) (hm : mg "_law_step_right" = some (.ref f)) (hb : Binds K fd ["_law_groups", "_law_sheet", "_law_table", "_law_step", "_law_size"] []) {f_L_spots : Addr} {fd_L_spots : FuncData} (G_L_spots : FnV P w K mg base k "_law_spots" f_L_spots fd_L_spots ["_law_groups", "_law_table", "_law_group", "_law_number"] (c 24)) {f_L_lacks : Addr} {fd_L_lacks : FuncData} (G_L_lacks : FnV P w K mg base k "_law_lacks" f_L_lacks fd_L_lacks ["_law_groups", "_law_sheet", "_law_group", "_law_number", "_law_size"] (c 25)) (m_len : mg "len" = none) :
    FnV P w K mg base (k + 1) "_law_step_right" f fd ["_law_groups", "_law_sheet", "_law_table", "_law_step", "_law_size"] (K3.d_L_step_right (c 24) (c 25)) :=
  fnv_mk F sc_L_step_right hm hb fun cdv A outer s H E hr => by
    have hu := hr.units0
    have hv := hu_of hr
    exact (sss_cons (ss_set (i := 5) sc_L_step_right.nd (se_ix (se_var 3) se_int))
      (sss_cons (ss_if (st_bool (sw_or (st_cmp so_lt (se_var 5) se_int rfl) (sw_or (st_cmp so_ge (se_var 5) (se_callB sc_len m_len (sa_cons (se_var 1) sa_nil)) rfl) (sw_or1 (st_cmp (so_ne hu) (se_ix (se_var 1) (se_var 5)) se_int rfl))))) (sss_one (ss_ret se_bl)) sss_nil)
      (sss_cons (ss_if (st_cmp (so_eq hu) (se_ix (se_var 3) se_int) (se_str [102, 105, 101, 108, 100]) rfl) (sss_one (ss_ret (se_cmp (so_eq hu) (se_ix (se_var 2) (se_var 5)) (se_lst (sa_cons (se_ix (se_var 3) se_int) sa_nil)) rfl))) sss_nil)
      (sss_cons (ss_if (st_not (st_val (se_call G_L_lacks hr (sa_cons (se_var 0) (sa_cons (se_var 1) (sa_cons (se_ix (se_var 3) se_int) (sa_cons (se_ix (se_var 3) se_int) (sa_cons (se_var 4) sa_nil)))))))) (sss_one (ss_ret se_bl)) sss_nil)
      (sss_one (ss_ret (se_cmp (so_eq hu) (se_call G_L_spots hr (sa_cons (se_var 0) (sa_cons (se_var 2) (sa_cons (se_ix (se_var 3) se_int) (sa_cons (se_ix (se_var 3) se_int) sa_nil))))) (se_lst (sa_cons (se_var 5) sa_nil)) rfl)))))))
theorem sc_L_step_by : FnScope ["_law_groups", "_law_sheet", "_law_table", "_law_cell", "_law_more", "_law_size", "_law_way", "_law_spot", "_law_place", "_law_k", "_law_numbers", "_law_number", "_law_near", "_law_group", "_law_far", "_law_odd"] ["_law_groups", "_law_sheet", "_law_table", "_law_cell", "_law_more", "_law_size"] (defScope s_L_step_by) := ⟨rfl, rfl, rfl, by decide +kernel, rfl, by decide +kernel, by decide +kernel⟩
theorem ok_L_step_by {f : Addr} {fd : FuncData} (F : Fun K "_law_step_by" "_law_step_by" s_L_step_by f fd) (hm : mg "_law_step_by" = some (.ref f)) (hb : Binds K fd ["_law_groups", "_law_sheet", "_law_table", "_law_cell", "_law_more", "_law_size"] []) (m_len : mg "len" = none) (m_range : mg "range" = none) :
    FnV P w K mg base (k + 1) "_law_step_by" f fd ["_law_groups", "_law_sheet", "_law_table", "_law_cell", "_law_more", "_law_size"] (K3.d_L_step_by) :=
  fnv_mk F sc_L_step_by hm hb fun cdv A outer s H E hr => by
    have hu := hr.units0
    have hv := hu_of hr
    exact (sss_cons (ss_set (i := 6) sc_L_step_by.nd (se_op so_mod (se_var 4) se_int))
      (sss_cons (ss_set (i := 7) sc_L_step_by.nd (se_op so_mod (se_op so_div (se_var 3) se_int) (se_callB sc_len m_len (sa_cons (se_var 1) sa_nil))))
      (sss_cons (ss_set (i := 8) sc_L_step_by.nd (se_var 7))
      (sss_cons (ss_if (st_cmp (so_eq hu) (se_ix (se_var 2) (se_var 8)) (se_lst sa_nil) rfl) (sss_one (ss_for PassesOwn.never rfl (si_rng1 m_range (se_callB sc_len m_len (sa_cons (se_var 1) sa_nil))) (sg_name (i := 9) sc_L_step_by.nd) (sss_one (ss_if (st_cmp (so_ne hu) (se_ix (se_var 2) (se_op so_mod (se_op so_add (se_var 7) (se_var 9)) (se_callB sc_len m_len (sa_cons (se_var 1) sa_nil)))) (se_lst sa_nil) rfl) (sss_cons (ss_set (i := 8) sc_L_step_by.nd (se_op so_mod (se_op so_add (se_var 7) (se_var 9)) (se_callB sc_len m_len (sa_cons (se_var 1) sa_nil))))
      (sss_one ss_break)) sss_nil)))) sss_nil)
      (sss_cons (ss_set (i := 10) sc_L_step_by.nd (se_op so_add (se_ix (se_var 2) (se_var 8)) (se_lst (sa_cons (se_op so_add se_int (se_op so_mod (se_var 3) (se_var 5))) sa_nil))))
      (sss_cons (ss_set (i := 11) sc_L_step_by.nd (se_ix (se_var 10) (se_op so_mod (se_op so_add (se_op so_div (se_var 4) se_int) (se_var 3)) (se_callB sc_len m_len (sa_cons (se_var 10) sa_nil)))))
      (sss_cons (ss_setc (i := 12) (ex := []) (cl := [9]) sc_L_step_by.nd (blk_mk (by kernel_rfl) (by decide +kernel) rfl (by decide +kernel) (by kernel_rfl)) rfl (si_rng1 m_range (se_callB sc_len m_len (sa_cons (se_var 0) sa_nil))) (fun C' s' H' fp' => (sg_name (i := 9) (show List.Nodup (α := Str) ["_law_groups", "_law_sheet", "_law_table", "_law_cell", "_law_more", "_law_size", "_law_way", "_law_spot", "_law_place", "_law_k", "_law_numbers", "_law_number", "_law_near", "_law_group", "_law_far", "_law_odd"] by decide +kernel))) (fun C' s' H' fp' => (sifs_one (st_cmp so_in (se_var 8) (se_ix (se_var 0) (se_var 9)) rfl))) (fun C' s' H' fp' => (se_var 9)))
      (sss_cons (ss_set (i := 13) sc_L_step_by.nd (se_ix (se_var 12) (se_op so_mod (se_op so_add (se_var 3) (se_var 4)) (se_callB sc_len m_len (sa_cons (se_var 12) sa_nil)))))
      (sss_cons (ss_set (i := 14) sc_L_step_by.nd (se_op so_mod (se_op so_mul (se_var 4) se_int) (se_op so_pow se_int se_int)))
      (sss_cons (ss_set (i := 15) sc_L_step_by.nd (se_lst (sa_cons (se_neg se_int) (sa_cons se_int (sa_cons se_int (sa_cons (se_var 14) (sa_cons (se_op so_sub (se_neg se_int) (se_var 14)) sa_nil)))))))
      (sss_cons (ss_if (st_cmp (so_eq hu) (se_var 6) se_int rfl) (sss_one (ss_set (i := 8) sc_L_step_by.nd (se_ix (se_op so_add (se_var 15) (se_lst (sa_cons (se_callB sc_len m_len (sa_cons (se_var 1) sa_nil)) sa_nil))) (se_op so_mod (se_op so_div (se_var 4) se_int) se_int)))) sss_nil)
      (sss_cons (ss_if (st_cmp (so_eq hu) (se_var 6) se_int rfl) (sss_one (ss_set (i := 11) sc_L_step_by.nd (se_ix (se_op so_add (se_var 15) (se_lst (sa_cons (se_op so_add (se_var 5) se_int) sa_nil))) (se_op so_mod (se_op so_div (se_var 4) se_int) se_int)))) sss_nil)
      (sss_cons (ss_if (st_cmp (so_eq hu) (se_var 6) se_int rfl) (sss_one (ss_set (i := 13) sc_L_step_by.nd (se_ix (se_op so_add (se_var 15) (se_lst (sa_cons (se_callB sc_len m_len (sa_cons (se_var 0) sa_nil)) sa_nil))) (se_op so_mod (se_op so_div (se_var 4) se_int) se_int)))) sss_nil)
      (sss_cons (ss_if (st_cmp (so_eq hu) (se_var 6) se_int rfl) (sss_one (ss_set (i := 13) sc_L_step_by.nd (se_op so_mod (se_op so_div (se_var 4) se_int) (se_callB sc_len m_len (sa_cons (se_var 0) sa_nil))))) sss_nil)
      (sss_cons (ss_if (st_cmp (so_eq hu) (se_op so_mod (se_var 3) se_int) se_int rfl) (sss_one (ss_ret (se_tup (sa_cons (se_str [102, 105, 101, 108, 100]) (sa_cons (se_var 8) (sa_cons (se_var 11) sa_nil)))))) sss_nil)
      (sss_one (ss_ret (se_tup (sa_cons (se_str [103, 114, 111, 117, 112]) (sa_cons (se_var 8) (sa_cons (se_var 11) (sa_cons (se_var 13) sa_nil))))))))))))))))))))))
theorem sc_L_shape_for : FnScope ["_law_script"] ["_law_script"] (defScope s_L_shape_for) := ⟨rfl, rfl, rfl, by decide +kernel, rfl, by decide +kernel, by decide +kernel⟩
theorem ok_L_shape_for {f : Addr} {fd : FuncData} (F : Fun K "_law_shape_for" "_law_shape_for" s_L_shape_for f fd) (hm : mg "_law_shape_for" = some (.ref f)) (hb : Binds K fd ["_law_script"] []) {f_L_shape_of : Addr} {fd_L_shape_of : FuncData} (G_L_shape_of : FnV P w K mg base k "_law_shape_of" f_L_shape_of fd_L_shape_of ["_law_cell"] (c 18)) {f_L_at : Addr} {fd_L_at : FuncData} (G_L_at : FnV P w K mg base k "_law_at" f_L_at fd_L_at ["_law_script", "_law_k"] (c 16)) (m_sum : mg "sum" = none) (m_len : mg "len" = none) :
    FnV P w K mg base (k + 1) "_law_shape_for" f fd ["_law_script"] (K3.d_L_shape_for (c 16) (c 18)) :=
  fnv_mk F sc_L_shape_for hm hb fun cdv A outer s H E hr => by
    have hu := hr.units0
    have hv := hu_of hr
    exact (sss_cons (ss_if (st_cmp so_gt (se_callB sc_len m_len (sa_cons (se_var 0) sa_nil)) se_int rfl) (sss_one (ss_ret (se_ix (se_lst (sa_cons (se_tup (sa_cons se_int (sa_cons se_int sa_nil))) (sa_cons (se_tup (sa_cons se_int (sa_cons se_int sa_nil))) (sa_cons (se_tup (sa_cons se_int (sa_cons se_int sa_nil))) (sa_cons (se_tup (sa_cons se_int (sa_cons se_int sa_nil))) sa_nil))))) (se_op so_mod (se_call G_L_at hr (sa_cons (se_var 0) (sa_cons se_int sa_nil))) se_int)))) sss_nil)
      (sss_cons (ss_if (st_cmp (so_eq hu) (se_op so_mod (se_callB (sc_sum hr.hd) m_sum (sa_cons (se_sl (se_var 0) so_none (so_some se_int)) sa_nil)) se_int) se_int rfl) (sss_one (ss_ret (se_tup (sa_cons se_int (sa_cons se_int sa_nil))))) sss_nil)
      (sss_one (ss_ret (se_call G_L_shape_of hr (sa_cons (se_call G_L_at hr (sa_cons (se_var 0) (sa_cons se_int sa_nil))) sa_nil))))))
theorem sc_law : FnScope ["_law_script", "_law_high", "_law_wide", "_law_size", "_law_groups", "_law_filled", "_law_share", "_law_sheet", "_law_cell", "_law_spot", "_law_table", "_law_k", "_law_more", "_law_step", "_law_handed", "_law_found"] ["_law_script"] (defScope s_law) := ⟨rfl, rfl, rfl, by decide +kernel, rfl, by decide +kernel, by decide +kernel⟩
theorem ok_law {f : Addr} {fd : FuncData} (F : Fun K "law" "law" s_law f fd) (hm : mg "law" = some (.ref f)) (hb : Binds K fd ["_law_script"] []) {f_L_step_right : Addr} {fd_L_step_right : FuncData} (G_L_step_right : FnV P w K mg base k "_law_step_right" f_L_step_right fd_L_step_right ["_law_groups", "_law_sheet", "_law_table", "_law_step", "_law_size"] (c 26)) {f_L_same : Addr} {fd_L_same : FuncData} (G_L_same : FnV P w K mg base k "_law_same" f_L_same fd_L_same ["_law_found", "_law_due"] (c 17)) {f_follows : Addr} {fd_follows : FuncData} (G_follows : FnV P w K mg base k "follows" f_follows fd_follows ["high", "wide", "sheet", "step"] (c 14)) {f_L_step_by : Addr} {fd_L_step_by : FuncData} (G_L_step_by : FnV P w K mg base k "_law_step_by" f_L_step_by fd_L_step_by ["_law_groups", "_law_sheet", "_law_table", "_law_cell", "_law_more", "_law_size"] (c 27)) {f_L_at : Addr} {fd_L_at : FuncData} (G_L_at : FnV P w K mg base k "_law_at" f_L_at fd_L_at ["_law_script", "_law_k"] (c 16)) {f_L_can_have : Addr} {fd_L_can_have : FuncData} (G_L_can_have : FnV P w K mg base k "_law_can_have" f_L_can_have fd_L_can_have ["_law_groups", "_law_sheet", "_law_size"] (c 23)) {f_L_sheet_by : Addr} {fd_L_sheet_by : FuncData} (G_L_sheet_by : FnV P w K mg base k "_law_sheet_by" f_L_sheet_by fd_L_sheet_by ["_law_filled", "_law_cells", "_law_share"] (c 21)) {f_L_full_sheet : Addr} {fd_L_full_sheet : FuncData} (G_L_full_sheet : FnV P w K mg base k "_law_full_sheet" f_L_full_sheet fd_L_full_sheet ["_law_high", "_law_wide", "_law_cell"] (c 20)) {f_L_all_groups : Addr} {fd_L_all_groups : FuncData} (G_L_all_groups : FnV P w K mg base k "_law_all_groups" f_L_all_groups fd_L_all_groups ["_law_high", "_law_wide"] (c 19)) {f_L_shape_for : Addr} {fd_L_shape_for : FuncData} (G_L_shape_for : FnV P w K mg base k "_law_shape_for" f_L_shape_for fd_L_shape_for ["_law_script"] (c 28)) (m_range : mg "range" = none) (m_isinstance : mg "isinstance" = none) (m_bool : mg "bool" = none) (m_list : mg "list" = none) (m_len : mg "len" = none) (m_int : mg "int" = none) :
    FnV P w K mg base (k + 1) "law" f fd ["_law_script"] (K3.d_law (c 14) (c 16) (c 17) (c 19) (c 20) (c 21) (c 23) (c 26) (c 27) (c 28)) :=
  fnv_mk F sc_law hm hb fun cdv A outer s H E hr => by
    have hu := hr.units0
    have hv := hu_of hr
    exact (sss_cons (ss_asg (se_call G_L_shape_for hr (sa_cons (se_var 0) sa_nil)) (sg_tup rfl (sgs_cons (sg_name (i := 1) sc_law.nd) (sgs_cons (sg_name (i := 2) sc_law.nd) sgs_nil))))
      (sss_cons (ss_set (i := 3) sc_law.nd (se_op so_mul (se_var 1) (se_var 2)))
      (sss_cons (ss_set (i := 4) sc_law.nd (se_call G_L_all_groups hr (sa_cons (se_var 1) (sa_cons (se_var 2) sa_nil))))
      (sss_cons (ss_set (i := 5) sc_law.nd (se_call G_L_full_sheet hr (sa_cons (se_var 1) (sa_cons (se_var 2) (sa_cons (se_call G_L_at hr (sa_cons (se_var 0) (sa_cons se_int sa_nil))) sa_nil)))))
      (sss_cons (ss_set (i := 6) sc_law.nd (se_op so_mod (se_call G_L_at hr (sa_cons (se_var 0) (sa_cons se_int sa_nil))) (se_ix (se_lst (sa_cons se_int (sa_cons se_int (sa_cons se_int sa_nil)))) (se_op so_add (se_callTy sc_int m_int (sa_cons (se_cmp so_gt (se_var 3) se_int rfl) sa_nil)) (se_callTy sc_int m_int (sa_cons (se_cmp so_gt (se_var 3) se_int rfl) sa_nil))))))
      (sss_cons (ss_set (i := 7) sc_law.nd (se_call G_L_sheet_by hr (sa_cons (se_var 5) (sa_cons (se_sl (se_var 0) (so_some se_int) (so_some se_int)) (sa_cons (se_var 6) sa_nil)))))
      (sss_cons (ss_set (i := 8) sc_law.nd (se_call G_L_at hr (sa_cons (se_var 0) (sa_cons se_int sa_nil))))
      (sss_cons (ss_set (i := 9) sc_law.nd (se_op so_mod (se_op so_div (se_var 8) se_int) (se_callB sc_len m_len (sa_cons (se_var 7) sa_nil))))
      (sss_cons (ss_if (st_bool (sw_and (st_cmp (so_eq hu) (se_op so_mod (se_var 8) se_int) se_int rfl) (sw_and1 (st_cmp (so_eq hu) (se_ix (se_var 7) (se_var 9)) se_int rfl)))) (sss_one (ss_asg (se_op so_add se_int (se_op so_mod (se_call G_L_at hr (sa_cons (se_var 0) (sa_cons se_int sa_nil))) (se_var 3))) (sg_sub (se_var 7) (se_var 9)))) sss_nil)
      (sss_cons (ss_set (i := 10) sc_law.nd (se_call G_L_can_have hr (sa_cons (se_var 4) (sa_cons (se_var 7) (sa_cons (se_var 3) sa_nil)))))
      (sss_cons (ss_for PassesOwn.never rfl (si_rng1 m_range se_int) (sg_name (i := 11) sc_law.nd) (sss_cons (ss_set (i := 8) sc_law.nd (se_call G_L_at hr (sa_cons (se_var 0) (sa_cons (se_op so_add se_int (se_var 11)) sa_nil))))
      (sss_cons (ss_set (i := 12) sc_law.nd (se_call G_L_at hr (sa_cons (se_var 0) (sa_cons (se_op so_add se_int (se_var 11)) sa_nil))))
      (sss_cons (ss_set (i := 13) sc_law.nd (se_call G_L_step_by hr (sa_cons (se_var 4) (sa_cons (se_var 7) (sa_cons (se_var 10) (sa_cons (se_var 8) (sa_cons (se_var 12) (sa_cons (se_var 3) sa_nil))))))))
      (sss_cons (ss_set (i := 14) sc_law.nd (se_callTy sc_list m_list (sa_cons (se_var 7) sa_nil)))
      (sss_cons (ss_set (i := 15) sc_law.nd (se_call G_follows hr (sa_cons (se_var 1) (sa_cons (se_var 2) (sa_cons (se_var 14) (sa_cons (se_var 13) sa_nil))))))
      (sss_cons (ss_if (st_bool (sw_or (st_not (st_val (se_call G_L_same hr (sa_cons (se_var 14) (sa_cons (se_var 7) sa_nil))))) (sw_or1 (st_not (st_val (se_isi .bool m_isinstance m_bool (se_var 15))))))) (sss_one (ss_ret se_bl)) sss_nil)
      (sss_one (ss_if (st_cmp (so_ne hu) (se_var 15) (se_call G_L_step_right hr (sa_cons (se_var 4) (sa_cons (se_var 7) (sa_cons (se_var 10) (sa_cons (se_var 13) (sa_cons (se_var 3) sa_nil)))))) rfl) (sss_one (ss_ret se_bl)) sss_nil)))))))))
      (sss_one (ss_ret se_bl)))))))))))))
end
section
variable {P : Program} {w : World} {K : Fg} {mg : Str → Option Value} {base : Heap}
theorem all_ok {C : Addr} (T : CT K C) (mC : mg "State" = some (.ref C)) {f0 : Addr} {fd0 : FuncData} (F0 : Fun K "row_fields" "row_fields" s_row_fields f0 fd0) (m0 : mg "row_fields" = some (.ref f0)) (b0 : Binds K fd0 ["size", "row"] []) {f1 : Addr} {fd1 : FuncData} (F1 : Fun K "column_fields" "column_fields" s_column_fields f1 fd1) (m1 : mg "column_fields" = some (.ref f1)) (b1 : Binds K fd1 ["size", "column"] []) {f2 : Addr} {fd2 : FuncData} (F2 : Fun K "box_fields" "box_fields" s_box_fields f2 fd2) (m2 : mg "box_fields" = some (.ref f2)) (b2 : Binds K fd2 ["high", "wide", "box"] []) {f3 : Addr} {fd3 : FuncData} (F3 : Fun K "groups_of" "groups_of" s_groups_of f3 fd3) (m3 : mg "groups_of" = some (.ref f3)) (b3 : Binds K fd3 ["high", "wide"] []) {f4 : Addr} {fd4 : FuncData} (F4 : Fun K "refuse_no_sheet" "refuse_no_sheet" s_refuse_no_sheet f4 fd4) (m4 : mg "refuse_no_sheet" = some (.ref f4)) (b4 : Binds K fd4 ["high", "wide", "sheet"] []) {f5 : Addr} {fd5 : FuncData} (F5 : Fun K "groups_at" "groups_at" s_groups_at f5 fd5) (m5 : mg "groups_at" = some (.ref f5)) (b5 : Binds K fd5 ["high", "wide", "place"] []) {f6 : Addr} {fd6 : FuncData} (F6 : Fun K "__init__" "State.__init__" s_State_init f6 fd6) (M6 : Mk K C f6) (b6 : Binds K fd6 ["self", "high", "wide", "sheet"] []) {f7 : Addr} {fd7 : FuncData} (F7 : Fun K "numbers_for" "State.numbers_for" s_State_numbers_for f7 fd7) (M7 : Meth K C "numbers_for" f7) (b7 : Binds K fd7 ["self", "place"] []) {f8 : Addr} {fd8 : FuncData} (F8 : Fun K "put" "State.put" s_State_put f8 fd8) (M8 : Meth K C "put" f8) (b8 : Binds K fd8 ["self", "place", "number"] []) {f9 : Addr} {fd9 : FuncData} (F9 : Fun K "behind" "State.behind" s_State_behind f9 fd9) (M9 : Meth K C "behind" f9) (b9 : Binds K fd9 ["self", "place", "number"] []) {f11 : Addr} {fd11 : FuncData} (F11 : Fun K "is_group" "is_group" s_is_group f11 fd11) (m11 : mg "is_group" = some (.ref f11)) (b11 : Binds K fd11 ["state", "group"] []) {f12 : Addr} {fd12 : FuncData} (F12 : Fun K "homes_in" "homes_in" s_homes_in f12 fd12) (m12 : mg "homes_in" = some (.ref f12)) (b12 : Binds K fd12 ["state", "group"] []) {f13 : Addr} {fd13 : FuncData} (F13 : Fun K "step_follows" "step_follows" s_step_follows f13 fd13) (m13 : mg "step_follows" = some (.ref f13)) (b13 : Binds K fd13 ["state", "step"] []) {f14 : Addr} {fd14 : FuncData} (F14 : Fun K "follows" "follows" s_follows f14 fd14) (m14 : mg "follows" = some (.ref f14)) (b14 : Binds K fd14 ["high", "wide", "sheet", "step"] []) {f15 : Addr} {fd15 : FuncData} (F15 : Fun K "_law_whole" "_law_whole" s_L_whole f15 fd15) (m15 : mg "_law_whole" = some (.ref f15)) (b15 : Binds K fd15 ["_law_found"] []) {f16 : Addr} {fd16 : FuncData} (F16 : Fun K "_law_at" "_law_at" s_L_at f16 fd16) (m16 : mg "_law_at" = some (.ref f16)) (b16 : Binds K fd16 ["_law_script", "_law_k"] []) {f17 : Addr} {fd17 : FuncData} (F17 : Fun K "_law_same" "_law_same" s_L_same f17 fd17) (m17 : mg "_law_same" = some (.ref f17)) (b17 : Binds K fd17 ["_law_found", "_law_due"] []) {f18 : Addr} {fd18 : FuncData} (F18 : Fun K "_law_shape_of" "_law_shape_of" s_L_shape_of f18 fd18) (m18 : mg "_law_shape_of" = some (.ref f18)) (b18 : Binds K fd18 ["_law_cell"] []) {f19 : Addr} {fd19 : FuncData} (F19 : Fun K "_law_all_groups" "_law_all_groups" s_L_all_groups f19 fd19) (m19 : mg "_law_all_groups" = some (.ref f19)) (b19 : Binds K fd19 ["_law_high", "_law_wide"] []) {f20 : Addr} {fd20 : FuncData} (F20 : Fun K "_law_full_sheet" "_law_full_sheet" s_L_full_sheet f20 fd20) (m20 : mg "_law_full_sheet" = some (.ref f20)) (b20 : Binds K fd20 ["_law_high", "_law_wide", "_law_cell"] []) {f21 : Addr} {fd21 : FuncData} (F21 : Fun K "_law_sheet_by" "_law_sheet_by" s_L_sheet_by f21 fd21) (m21 : mg "_law_sheet_by" = some (.ref f21)) (b21 : Binds K fd21 ["_law_filled", "_law_cells", "_law_share"] []) {f22 : Addr} {fd22 : FuncData} (F22 : Fun K "_law_barred" "_law_barred" s_L_barred f22 fd22) (m22 : mg "_law_barred" = some (.ref f22)) (b22 : Binds K fd22 ["_law_groups", "_law_sheet", "_law_place", "_law_number"] []) {f23 : Addr} {fd23 : FuncData} (F23 : Fun K "_law_can_have" "_law_can_have" s_L_can_have f23 fd23) (m23 : mg "_law_can_have" = some (.ref f23)) (b23 : Binds K fd23 ["_law_groups", "_law_sheet", "_law_size"] []) {f24 : Addr} {fd24 : FuncData} (F24 : Fun K "_law_spots" "_law_spots" s_L_spots f24 fd24) (m24 : mg "_law_spots" = some (.ref f24)) (b24 : Binds K fd24 ["_law_groups", "_law_table", "_law_group", "_law_number"] []) {f25 : Addr} {fd25 : FuncData} (F25 : Fun K "_law_lacks" "_law_lacks" s_L_lacks f25 fd25) (m25 : mg "_law_lacks" = some (.ref f25)) (b25 : Binds K fd25 ["_law_groups", "_law_sheet", "_law_group", "_law_number", "_law_size"] []) {f26 : Addr} {fd26 : FuncData} (F26 : Fun K "_law_step_right" "_law_step_right" s_L_step_right f26 fd26) (m26 : mg "_law_step_right" = some (.ref f26)) (b26 : Binds K fd26 ["_law_groups", "_law_sheet", "_law_table", "_law_step", "_law_size"] []) {f27 : Addr} {fd27 : FuncData} (F27 : Fun K "_law_step_by" "_law_step_by" s_L_step_by f27 fd27) (m27 : mg "_law_step_by" = some (.ref f27)) (b27 : Binds K fd27 ["_law_groups", "_law_sheet", "_law_table", "_law_cell", "_law_more", "_law_size"] []) {f28 : Addr} {fd28 : FuncData} (F28 : Fun K "_law_shape_for" "_law_shape_for" s_L_shape_for f28 fd28) (m28 : mg "_law_shape_for" = some (.ref f28)) (b28 : Binds K fd28 ["_law_script"] []) {f29 : Addr} {fd29 : FuncData} (F29 : Fun K "law" "law" s_law f29 fd29) (m29 : mg "law" = some (.ref f29)) (b29 : Binds K fd29 ["_law_script"] []) (m_range : mg "range" = none) (m_len : mg "len" = none) (m_enumerate : mg "enumerate" = none) (m_list : mg "list" = none) (m_isinstance : mg "isinstance" = none) (m_bool : mg "bool" = none) (m_int : mg "int" = none) (m_tuple : mg "tuple" = none) (m_str : mg "str" = none) (m_sum : mg "sum" = none) : ∀ k : Nat, FnV P w K mg base k "row_fields" f0 fd0 ["size", "row"] (VM.callK K3.tab k 0) ∧ FnV P w K mg base k "column_fields" f1 fd1 ["size", "column"] (VM.callK K3.tab k 1) ∧ FnV P w K mg base k "box_fields" f2 fd2 ["high", "wide", "box"] (VM.callK K3.tab k 2) ∧ FnV P w K mg base k "groups_of" f3 fd3 ["high", "wide"] (VM.callK K3.tab k 3) ∧ FnV P w K mg base k "refuse_no_sheet" f4 fd4 ["high", "wide", "sheet"] (VM.callK K3.tab k 4) ∧ FnV P w K mg base k "groups_at" f5 fd5 ["high", "wide", "place"] (VM.callK K3.tab k 5) ∧ FnM P w K mg base k f6 fd6 ["self", "high", "wide", "sheet"] (VM.callK K3.tab k 6) ∧ FnM P w K mg base k f7 fd7 ["self", "place"] (VM.callK K3.tab k 7) ∧ FnM P w K mg base k f8 fd8 ["self", "place", "number"] (VM.callK K3.tab k 8) ∧ FnM P w K mg base k f9 fd9 ["self", "place", "number"] (VM.callK K3.tab k 9) ∧ MkV P w K mg base k "State" 3 (VM.callK K3.tab k 10) ∧ FnV P w K mg base k "is_group" f11 fd11 ["state", "group"] (VM.callK K3.tab k 11) ∧ FnV P w K mg base k "homes_in" f12 fd12 ["state", "group"] (VM.callK K3.tab k 12) ∧ FnV P w K mg base k "step_follows" f13 fd13 ["state", "step"] (VM.callK K3.tab k 13) ∧ FnV P w K mg base k "follows" f14 fd14 ["high", "wide", "sheet", "step"] (VM.callK K3.tab k 14) ∧ FnV P w K mg base k "_law_whole" f15 fd15 ["_law_found"] (VM.callK K3.tab k 15) ∧ FnV P w K mg base k "_law_at" f16 fd16 ["_law_script", "_law_k"] (VM.callK K3.tab k 16) ∧ FnV P w K mg base k "_law_same" f17 fd17 ["_law_found", "_law_due"] (VM.callK K3.tab k 17) ∧ FnV P w K mg base k "_law_shape_of" f18 fd18 ["_law_cell"] (VM.callK K3.tab k 18) ∧ FnV P w K mg base k "_law_all_groups" f19 fd19 ["_law_high", "_law_wide"] (VM.callK K3.tab k 19) ∧ FnV P w K mg base k "_law_full_sheet" f20 fd20 ["_law_high", "_law_wide", "_law_cell"] (VM.callK K3.tab k 20) ∧ FnV P w K mg base k "_law_sheet_by" f21 fd21 ["_law_filled", "_law_cells", "_law_share"] (VM.callK K3.tab k 21) ∧ FnV P w K mg base k "_law_barred" f22 fd22 ["_law_groups", "_law_sheet", "_law_place", "_law_number"] (VM.callK K3.tab k 22) ∧ FnV P w K mg base k "_law_can_have" f23 fd23 ["_law_groups", "_law_sheet", "_law_size"] (VM.callK K3.tab k 23) ∧ FnV P w K mg base k "_law_spots" f24 fd24 ["_law_groups", "_law_table", "_law_group", "_law_number"] (VM.callK K3.tab k 24) ∧ FnV P w K mg base k "_law_lacks" f25 fd25 ["_law_groups", "_law_sheet", "_law_group", "_law_number", "_law_size"] (VM.callK K3.tab k 25) ∧ FnV P w K mg base k "_law_step_right" f26 fd26 ["_law_groups", "_law_sheet", "_law_table", "_law_step", "_law_size"] (VM.callK K3.tab k 26) ∧ FnV P w K mg base k "_law_step_by" f27 fd27 ["_law_groups", "_law_sheet", "_law_table", "_law_cell", "_law_more", "_law_size"] (VM.callK K3.tab k 27) ∧ FnV P w K mg base k "_law_shape_for" f28 fd28 ["_law_script"] (VM.callK K3.tab k 28) ∧ FnV P w K mg base k "law" f29 fd29 ["_law_script"] (VM.callK K3.tab k 29)
  | 0 => ⟨fnv_none m0 F0.kp b0, fnv_none m1 F1.kp b1, fnv_none m2 F2.kp b2, fnv_none m3 F3.kp b3, fnv_none m4 F4.kp b4, fnv_none m5 F5.kp b5, fnm_none b6, fnm_none b7, fnm_none b8, fnm_none b9, mkv_none, fnv_none m11 F11.kp b11, fnv_none m12 F12.kp b12, fnv_none m13 F13.kp b13, fnv_none m14 F14.kp b14, fnv_none m15 F15.kp b15, fnv_none m16 F16.kp b16, fnv_none m17 F17.kp b17, fnv_none m18 F18.kp b18, fnv_none m19 F19.kp b19, fnv_none m20 F20.kp b20, fnv_none m21 F21.kp b21, fnv_none m22 F22.kp b22, fnv_none m23 F23.kp b23, fnv_none m24 F24.kp b24, fnv_none m25 F25.kp b25, fnv_none m26 F26.kp b26, fnv_none m27 F27.kp b27, fnv_none m28 F28.kp b28, fnv_none m29 F29.kp b29⟩
  | k + 1 => by
    have ih := all_ok T mC F0 m0 b0 F1 m1 b1 F2 m2 b2 F3 m3 b3 F4 m4 b4 F5 m5 b5 F6 M6 b6 F7 M7 b7 F8 M8 b8 F9 M9 b9 F11 m11 b11 F12 m12 b12 F13 m13 b13 F14 m14 b14 F15 m15 b15 F16 m16 b16 F17 m17 b17 F18 m18 b18 F19 m19 b19 F20 m20 b20 F21 m21 b21 F22 m22 b22 F23 m23 b23 F24 m24 b24 F25 m25 b25 F26 m26 b26 F27 m27 b27 F28 m28 b28 F29 m29 b29 m_range m_len m_enumerate m_list m_isinstance m_bool m_int m_tuple m_str m_sum k
    exact ⟨ok_row_fields F0 m0 b0 m_range,
      ok_column_fields F1 m1 b1 m_range,
      ok_box_fields F2 m2 b2 m_range,
      ok_groups_of (c := VM.callK K3.tab k) F3 m3 b3 ih.2.2.1 ih.2.1 ih.1 m_range,
      ok_refuse_no_sheet F4 m4 b4 m_len,
      ok_groups_at F5 m5 b5 ,
      ok_State_init (c := VM.callK K3.tab k) F6 b6 T M7 ih.2.2.2.2.2.2.2.1 ih.2.2.2.1 ih.2.2.2.2.1 m_enumerate m_list,
      ok_State_numbers_for (c := VM.callK K3.tab k) F7 b7 T ih.2.2.2.2.2.1 m_range,
      ok_State_put F8 b8 ,
      ok_State_behind F9 b9 ,
      mkv_mk M6 T.cl mC ih.2.2.2.2.2.2.1,
      ok_is_group F11 m11 b11 T m_len,
      ok_homes_in F12 m12 b12 T ,
      ok_step_follows (c := VM.callK K3.tab k) F13 m13 b13 T ih.2.2.2.2.2.2.2.2.2.2.2.2.1 ih.2.2.2.2.2.2.2.2.2.2.2.1,
      ok_follows (c := VM.callK K3.tab k) F14 m14 b14 ih.2.2.2.2.2.2.2.2.2.2.2.2.2.1 ih.2.2.2.2.2.2.2.2.2.2.1,
      ok_L_whole F15 m15 b15 m_isinstance m_bool m_int,
      ok_L_at F16 m16 b16 m_len,
      ok_L_same (c := VM.callK K3.tab k) F17 m17 b17 ih.2.2.2.2.2.2.2.2.2.2.2.2.2.2.2.1 m_tuple m_list m_isinstance m_len m_bool m_str,
      ok_L_shape_of F18 m18 b18 ,
      ok_L_all_groups F19 m19 b19 m_range,
      ok_L_full_sheet F20 m20 b20 m_range,
      ok_L_sheet_by F21 m21 b21 m_range m_len m_int,
      ok_L_barred F22 m22 b22 ,
      ok_L_can_have (c := VM.callK K3.tab k) F23 m23 b23 ih.2.2.2.2.2.2.2.2.2.2.2.2.2.2.2.2.2.2.2.2.2.2.1 m_range m_len,
      ok_L_spots F24 m24 b24 ,
      ok_L_lacks F25 m25 b25 m_len,
      ok_L_step_right (c := VM.callK K3.tab k) F26 m26 b26 ih.2.2.2.2.2.2.2.2.2.2.2.2.2.2.2.2.2.2.2.2.2.2.2.2.1 ih.2.2.2.2.2.2.2.2.2.2.2.2.2.2.2.2.2.2.2.2.2.2.2.2.2.1 m_len,
      ok_L_step_by F27 m27 b27 m_len m_range,
      ok_L_shape_for (c := VM.callK K3.tab k) F28 m28 b28 ih.2.2.2.2.2.2.2.2.2.2.2.2.2.2.2.2.2.2.1 ih.2.2.2.2.2.2.2.2.2.2.2.2.2.2.2.2.1 m_sum m_len,
      ok_law (c := VM.callK K3.tab k) F29 m29 b29 ih.2.2.2.2.2.2.2.2.2.2.2.2.2.2.2.2.2.2.2.2.2.2.2.2.2.2.1 ih.2.2.2.2.2.2.2.2.2.2.2.2.2.2.2.2.2.1 ih.2.2.2.2.2.2.2.2.2.2.2.2.2.2.1 ih.2.2.2.2.2.2.2.2.2.2.2.2.2.2.2.2.2.2.2.2.2.2.2.2.2.2.2.1 ih.2.2.2.2.2.2.2.2.2.2.2.2.2.2.2.2.1 ih.2.2.2.2.2.2.2.2.2.2.2.2.2.2.2.2.2.2.2.2.2.2.2.1 ih.2.2.2.2.2.2.2.2.2.2.2.2.2.2.2.2.2.2.2.2.2.1 ih.2.2.2.2.2.2.2.2.2.2.2.2.2.2.2.2.2.2.2.2.1 ih.2.2.2.2.2.2.2.2.2.2.2.2.2.2.2.2.2.2.2.1 ih.2.2.2.2.2.2.2.2.2.2.2.2.2.2.2.2.2.2.2.2.2.2.2.2.2.2.2.2.1 m_range m_isinstance m_bool m_list m_len m_int⟩
end
theorem all_mk {l : PySem.W.OpenLaw} {w : World} {K : Fg} {h : Heap} {mg : Str → Option Value} {fa C f0 f1 f2 f3 f4 f5 f6 f7 f8 f9 f11 f12 f13 f14 f15 f16 f17 f18 f19 f20 f21 f22 f23 f24 f25 f26 f27 f28 f29 : Addr} (X : K.In h) (G : h.Ns mainGlobals mg) (hfa : mg "law" = some (.ref fa))
    (aC : PySem.W.nsIn K mainGlobals "State" = some (some (.ref C))) (pg : PySem.W.plainGet K C Str.empty = true) (hd : PySem.W.hasDictIn K C = true) (po : PySem.W.plainOver K C = true) (sa : PySem.W.findIn K (.ref C) "__setattr__" = some (some (.builtin "object.__setattr__"))) (mk : PySem.W.makesIn K C = true) (kc : PySem.W.keepIn K (.ref C) = true)
    (n_high : PySem.W.findIn K (.ref C) "high" = some none)
    (n_wide : PySem.W.findIn K (.ref C) "wide" = some none)
    (n_groups : PySem.W.findIn K (.ref C) "groups" = some none)
    (n_numbers : PySem.W.findIn K (.ref C) "numbers" = some none)
    (n_can : PySem.W.findIn K (.ref C) "can" = some none)
    {od0 an0 : Option Addr} {sl0 : Array (Option Value)} {oc0 kV0 dc0 pm0 cd0 ct0 : Value}
    (a0 : PySem.W.nsIn K mainGlobals "row_fields" = some (some (.ref f0))) (l0 : K.lookup f0 = some ⟨oc0, od0, .func (PySem.W.fnOf "row_fields" "row_fields" (defArgs s_row_fields) (defBody s_row_fields) (defScope s_row_fields) .none kV0 dc0 pm0 an0 cd0 ct0), sl0⟩) (c0 : PySem.W.codeIn K cd0 "row_fields" = true) (k0 : PySem.W.keepIn K (.ref f0) = true)
    {od1 an1 : Option Addr} {sl1 : Array (Option Value)} {oc1 kV1 dc1 pm1 cd1 ct1 : Value}
    (a1 : PySem.W.nsIn K mainGlobals "column_fields" = some (some (.ref f1))) (l1 : K.lookup f1 = some ⟨oc1, od1, .func (PySem.W.fnOf "column_fields" "column_fields" (defArgs s_column_fields) (defBody s_column_fields) (defScope s_column_fields) .none kV1 dc1 pm1 an1 cd1 ct1), sl1⟩) (c1 : PySem.W.codeIn K cd1 "column_fields" = true) (k1 : PySem.W.keepIn K (.ref f1) = true)
    {od2 an2 : Option Addr} {sl2 : Array (Option Value)} {oc2 kV2 dc2 pm2 cd2 ct2 : Value}
    (a2 : PySem.W.nsIn K mainGlobals "box_fields" = some (some (.ref f2))) (l2 : K.lookup f2 = some ⟨oc2, od2, .func (PySem.W.fnOf "box_fields" "box_fields" (defArgs s_box_fields) (defBody s_box_fields) (defScope s_box_fields) .none kV2 dc2 pm2 an2 cd2 ct2), sl2⟩) (c2 : PySem.W.codeIn K cd2 "box_fields" = true) (k2 : PySem.W.keepIn K (.ref f2) = true)
    {od3 an3 : Option Addr} {sl3 : Array (Option Value)} {oc3 kV3 dc3 pm3 cd3 ct3 : Value}
    (a3 : PySem.W.nsIn K mainGlobals "groups_of" = some (some (.ref f3))) (l3 : K.lookup f3 = some ⟨oc3, od3, .func (PySem.W.fnOf "groups_of" "groups_of" (defArgs s_groups_of) (defBody s_groups_of) (defScope s_groups_of) .none kV3 dc3 pm3 an3 cd3 ct3), sl3⟩) (c3 : PySem.W.codeIn K cd3 "groups_of" = true) (k3 : PySem.W.keepIn K (.ref f3) = true)
    {od4 an4 : Option Addr} {sl4 : Array (Option Value)} {oc4 kV4 dc4 pm4 cd4 ct4 : Value}
    (a4 : PySem.W.nsIn K mainGlobals "refuse_no_sheet" = some (some (.ref f4))) (l4 : K.lookup f4 = some ⟨oc4, od4, .func (PySem.W.fnOf "refuse_no_sheet" "refuse_no_sheet" (defArgs s_refuse_no_sheet) (defBody s_refuse_no_sheet) (defScope s_refuse_no_sheet) .none kV4 dc4 pm4 an4 cd4 ct4), sl4⟩) (c4 : PySem.W.codeIn K cd4 "refuse_no_sheet" = true) (k4 : PySem.W.keepIn K (.ref f4) = true)
    {od5 an5 : Option Addr} {sl5 : Array (Option Value)} {oc5 kV5 dc5 pm5 cd5 ct5 : Value}
    (a5 : PySem.W.nsIn K mainGlobals "groups_at" = some (some (.ref f5))) (l5 : K.lookup f5 = some ⟨oc5, od5, .func (PySem.W.fnOf "groups_at" "groups_at" (defArgs s_groups_at) (defBody s_groups_at) (defScope s_groups_at) .none kV5 dc5 pm5 an5 cd5 ct5), sl5⟩) (c5 : PySem.W.codeIn K cd5 "groups_at" = true) (k5 : PySem.W.keepIn K (.ref f5) = true)
    {od6 an6 : Option Addr} {sl6 : Array (Option Value)} {oc6 kV6 dc6 pm6 cd6 ct6 : Value}
    (a6 : PySem.W.findIn K (.ref C) "__init__" = some (some (.ref f6))) (i6 : PySem.W.isFn K (.ref f6) = true) (l6 : K.lookup f6 = some ⟨oc6, od6, .func (PySem.W.fnOf "__init__" "State.__init__" (defArgs s_State_init) (defBody s_State_init) (defScope s_State_init) .none kV6 dc6 pm6 an6 cd6 ct6), sl6⟩) (c6 : PySem.W.codeIn K cd6 "State.__init__" = true) (k6 : PySem.W.keepIn K (.ref f6) = true)
    {od7 an7 : Option Addr} {sl7 : Array (Option Value)} {oc7 kV7 dc7 pm7 cd7 ct7 : Value}
    (a7 : PySem.W.findIn K (.ref C) "numbers_for" = some (some (.ref f7))) (i7 : PySem.W.isFn K (.ref f7) = true) (l7 : K.lookup f7 = some ⟨oc7, od7, .func (PySem.W.fnOf "numbers_for" "State.numbers_for" (defArgs s_State_numbers_for) (defBody s_State_numbers_for) (defScope s_State_numbers_for) .none kV7 dc7 pm7 an7 cd7 ct7), sl7⟩) (c7 : PySem.W.codeIn K cd7 "State.numbers_for" = true) (k7 : PySem.W.keepIn K (.ref f7) = true)
    {od8 an8 : Option Addr} {sl8 : Array (Option Value)} {oc8 kV8 dc8 pm8 cd8 ct8 : Value}
    (a8 : PySem.W.findIn K (.ref C) "put" = some (some (.ref f8))) (i8 : PySem.W.isFn K (.ref f8) = true) (l8 : K.lookup f8 = some ⟨oc8, od8, .func (PySem.W.fnOf "put" "State.put" (defArgs s_State_put) (defBody s_State_put) (defScope s_State_put) .none kV8 dc8 pm8 an8 cd8 ct8), sl8⟩) (c8 : PySem.W.codeIn K cd8 "State.put" = true) (k8 : PySem.W.keepIn K (.ref f8) = true)
    {od9 an9 : Option Addr} {sl9 : Array (Option Value)} {oc9 kV9 dc9 pm9 cd9 ct9 : Value}
    (a9 : PySem.W.findIn K (.ref C) "behind" = some (some (.ref f9))) (i9 : PySem.W.isFn K (.ref f9) = true) (l9 : K.lookup f9 = some ⟨oc9, od9, .func (PySem.W.fnOf "behind" "State.behind" (defArgs s_State_behind) (defBody s_State_behind) (defScope s_State_behind) .none kV9 dc9 pm9 an9 cd9 ct9), sl9⟩) (c9 : PySem.W.codeIn K cd9 "State.behind" = true) (k9 : PySem.W.keepIn K (.ref f9) = true)
    {od11 an11 : Option Addr} {sl11 : Array (Option Value)} {oc11 kV11 dc11 pm11 cd11 ct11 : Value}
    (a11 : PySem.W.nsIn K mainGlobals "is_group" = some (some (.ref f11))) (l11 : K.lookup f11 = some ⟨oc11, od11, .func (PySem.W.fnOf "is_group" "is_group" (defArgs s_is_group) (defBody s_is_group) (defScope s_is_group) .none kV11 dc11 pm11 an11 cd11 ct11), sl11⟩) (c11 : PySem.W.codeIn K cd11 "is_group" = true) (k11 : PySem.W.keepIn K (.ref f11) = true)
    {od12 an12 : Option Addr} {sl12 : Array (Option Value)} {oc12 kV12 dc12 pm12 cd12 ct12 : Value}
    (a12 : PySem.W.nsIn K mainGlobals "homes_in" = some (some (.ref f12))) (l12 : K.lookup f12 = some ⟨oc12, od12, .func (PySem.W.fnOf "homes_in" "homes_in" (defArgs s_homes_in) (defBody s_homes_in) (defScope s_homes_in) .none kV12 dc12 pm12 an12 cd12 ct12), sl12⟩) (c12 : PySem.W.codeIn K cd12 "homes_in" = true) (k12 : PySem.W.keepIn K (.ref f12) = true)
    {od13 an13 : Option Addr} {sl13 : Array (Option Value)} {oc13 kV13 dc13 pm13 cd13 ct13 : Value}
    (a13 : PySem.W.nsIn K mainGlobals "step_follows" = some (some (.ref f13))) (l13 : K.lookup f13 = some ⟨oc13, od13, .func (PySem.W.fnOf "step_follows" "step_follows" (defArgs s_step_follows) (defBody s_step_follows) (defScope s_step_follows) .none kV13 dc13 pm13 an13 cd13 ct13), sl13⟩) (c13 : PySem.W.codeIn K cd13 "step_follows" = true) (k13 : PySem.W.keepIn K (.ref f13) = true)
    {od14 an14 : Option Addr} {sl14 : Array (Option Value)} {oc14 kV14 dc14 pm14 cd14 ct14 : Value}
    (a14 : PySem.W.nsIn K mainGlobals "follows" = some (some (.ref f14))) (l14 : K.lookup f14 = some ⟨oc14, od14, .func (PySem.W.fnOf "follows" "follows" (defArgs s_follows) (defBody s_follows) (defScope s_follows) .none kV14 dc14 pm14 an14 cd14 ct14), sl14⟩) (c14 : PySem.W.codeIn K cd14 "follows" = true) (k14 : PySem.W.keepIn K (.ref f14) = true)
    {od15 an15 : Option Addr} {sl15 : Array (Option Value)} {oc15 kV15 dc15 pm15 cd15 ct15 : Value}
    (a15 : PySem.W.nsIn K mainGlobals "_law_whole" = some (some (.ref f15))) (l15 : K.lookup f15 = some ⟨oc15, od15, .func (PySem.W.fnOf "_law_whole" "_law_whole" (defArgs s_L_whole) (defBody s_L_whole) (defScope s_L_whole) .none kV15 dc15 pm15 an15 cd15 ct15), sl15⟩) (c15 : PySem.W.codeIn K cd15 "_law_whole" = true) (k15 : PySem.W.keepIn K (.ref f15) = true)
    {od16 an16 : Option Addr} {sl16 : Array (Option Value)} {oc16 kV16 dc16 pm16 cd16 ct16 : Value}
    (a16 : PySem.W.nsIn K mainGlobals "_law_at" = some (some (.ref f16))) (l16 : K.lookup f16 = some ⟨oc16, od16, .func (PySem.W.fnOf "_law_at" "_law_at" (defArgs s_L_at) (defBody s_L_at) (defScope s_L_at) .none kV16 dc16 pm16 an16 cd16 ct16), sl16⟩) (c16 : PySem.W.codeIn K cd16 "_law_at" = true) (k16 : PySem.W.keepIn K (.ref f16) = true)
    {od17 an17 : Option Addr} {sl17 : Array (Option Value)} {oc17 kV17 dc17 pm17 cd17 ct17 : Value}
    (a17 : PySem.W.nsIn K mainGlobals "_law_same" = some (some (.ref f17))) (l17 : K.lookup f17 = some ⟨oc17, od17, .func (PySem.W.fnOf "_law_same" "_law_same" (defArgs s_L_same) (defBody s_L_same) (defScope s_L_same) .none kV17 dc17 pm17 an17 cd17 ct17), sl17⟩) (c17 : PySem.W.codeIn K cd17 "_law_same" = true) (k17 : PySem.W.keepIn K (.ref f17) = true)
    {od18 an18 : Option Addr} {sl18 : Array (Option Value)} {oc18 kV18 dc18 pm18 cd18 ct18 : Value}
    (a18 : PySem.W.nsIn K mainGlobals "_law_shape_of" = some (some (.ref f18))) (l18 : K.lookup f18 = some ⟨oc18, od18, .func (PySem.W.fnOf "_law_shape_of" "_law_shape_of" (defArgs s_L_shape_of) (defBody s_L_shape_of) (defScope s_L_shape_of) .none kV18 dc18 pm18 an18 cd18 ct18), sl18⟩) (c18 : PySem.W.codeIn K cd18 "_law_shape_of" = true) (k18 : PySem.W.keepIn K (.ref f18) = true)
    {od19 an19 : Option Addr} {sl19 : Array (Option Value)} {oc19 kV19 dc19 pm19 cd19 ct19 : Value}
    (a19 : PySem.W.nsIn K mainGlobals "_law_all_groups" = some (some (.ref f19))) (l19 : K.lookup f19 = some ⟨oc19, od19, .func (PySem.W.fnOf "_law_all_groups" "_law_all_groups" (defArgs s_L_all_groups) (defBody s_L_all_groups) (defScope s_L_all_groups) .none kV19 dc19 pm19 an19 cd19 ct19), sl19⟩) (c19 : PySem.W.codeIn K cd19 "_law_all_groups" = true) (k19 : PySem.W.keepIn K (.ref f19) = true)
    {od20 an20 : Option Addr} {sl20 : Array (Option Value)} {oc20 kV20 dc20 pm20 cd20 ct20 : Value}
    (a20 : PySem.W.nsIn K mainGlobals "_law_full_sheet" = some (some (.ref f20))) (l20 : K.lookup f20 = some ⟨oc20, od20, .func (PySem.W.fnOf "_law_full_sheet" "_law_full_sheet" (defArgs s_L_full_sheet) (defBody s_L_full_sheet) (defScope s_L_full_sheet) .none kV20 dc20 pm20 an20 cd20 ct20), sl20⟩) (c20 : PySem.W.codeIn K cd20 "_law_full_sheet" = true) (k20 : PySem.W.keepIn K (.ref f20) = true)
    {od21 an21 : Option Addr} {sl21 : Array (Option Value)} {oc21 kV21 dc21 pm21 cd21 ct21 : Value}
    (a21 : PySem.W.nsIn K mainGlobals "_law_sheet_by" = some (some (.ref f21))) (l21 : K.lookup f21 = some ⟨oc21, od21, .func (PySem.W.fnOf "_law_sheet_by" "_law_sheet_by" (defArgs s_L_sheet_by) (defBody s_L_sheet_by) (defScope s_L_sheet_by) .none kV21 dc21 pm21 an21 cd21 ct21), sl21⟩) (c21 : PySem.W.codeIn K cd21 "_law_sheet_by" = true) (k21 : PySem.W.keepIn K (.ref f21) = true)
    {od22 an22 : Option Addr} {sl22 : Array (Option Value)} {oc22 kV22 dc22 pm22 cd22 ct22 : Value}
    (a22 : PySem.W.nsIn K mainGlobals "_law_barred" = some (some (.ref f22))) (l22 : K.lookup f22 = some ⟨oc22, od22, .func (PySem.W.fnOf "_law_barred" "_law_barred" (defArgs s_L_barred) (defBody s_L_barred) (defScope s_L_barred) .none kV22 dc22 pm22 an22 cd22 ct22), sl22⟩) (c22 : PySem.W.codeIn K cd22 "_law_barred" = true) (k22 : PySem.W.keepIn K (.ref f22) = true)
    {od23 an23 : Option Addr} {sl23 : Array (Option Value)} {oc23 kV23 dc23 pm23 cd23 ct23 : Value}
    (a23 : PySem.W.nsIn K mainGlobals "_law_can_have" = some (some (.ref f23))) (l23 : K.lookup f23 = some ⟨oc23, od23, .func (PySem.W.fnOf "_law_can_have" "_law_can_have" (defArgs s_L_can_have) (defBody s_L_can_have) (defScope s_L_can_have) .none kV23 dc23 pm23 an23 cd23 ct23), sl23⟩) (c23 : PySem.W.codeIn K cd23 "_law_can_have" = true) (k23 : PySem.W.keepIn K (.ref f23) = true)
    {od24 an24 : Option Addr} {sl24 : Array (Option Value)} {oc24 kV24 dc24 pm24 cd24 ct24 : Value}
    (a24 : PySem.W.nsIn K mainGlobals "_law_spots" = some (some (.ref f24))) (l24 : K.lookup f24 = some ⟨oc24, od24, .func (PySem.W.fnOf "_law_spots" "_law_spots" (defArgs s_L_spots) (defBody s_L_spots) (defScope s_L_spots) .none kV24 dc24 pm24 an24 cd24 ct24), sl24⟩) (c24 : PySem.W.codeIn K cd24 "_law_spots" = true) (k24 : PySem.W.keepIn K (.ref f24) = true)
    {od25 an25 : Option Addr} {sl25 : Array (Option Value)} {oc25 kV25 dc25 pm25 cd25 ct25 : Value}
    (a25 : PySem.W.nsIn K mainGlobals "_law_lacks" = some (some (.ref f25))) (l25 : K.lookup f25 = some ⟨oc25, od25, .func (PySem.W.fnOf "_law_lacks" "_law_lacks" (defArgs s_L_lacks) (defBody s_L_lacks) (defScope s_L_lacks) .none kV25 dc25 pm25 an25 cd25 ct25), sl25⟩) (c25 : PySem.W.codeIn K cd25 "_law_lacks" = true) (k25 : PySem.W.keepIn K (.ref f25) = true)
    {od26 an26 : Option Addr} {sl26 : Array (Option Value)} {oc26 kV26 dc26 pm26 cd26 ct26 : Value}
    (a26 : PySem.W.nsIn K mainGlobals "_law_step_right" = some (some (.ref f26))) (l26 : K.lookup f26 = some ⟨oc26, od26, .func (PySem.W.fnOf "_law_step_right" "_law_step_right" (defArgs s_L_step_right) (defBody s_L_step_right) (defScope s_L_step_right) .none kV26 dc26 pm26 an26 cd26 ct26), sl26⟩) (c26 : PySem.W.codeIn K cd26 "_law_step_right" = true) (k26 : PySem.W.keepIn K (.ref f26) = true)
    {od27 an27 : Option Addr} {sl27 : Array (Option Value)} {oc27 kV27 dc27 pm27 cd27 ct27 : Value}
    (a27 : PySem.W.nsIn K mainGlobals "_law_step_by" = some (some (.ref f27))) (l27 : K.lookup f27 = some ⟨oc27, od27, .func (PySem.W.fnOf "_law_step_by" "_law_step_by" (defArgs s_L_step_by) (defBody s_L_step_by) (defScope s_L_step_by) .none kV27 dc27 pm27 an27 cd27 ct27), sl27⟩) (c27 : PySem.W.codeIn K cd27 "_law_step_by" = true) (k27 : PySem.W.keepIn K (.ref f27) = true)
    {od28 an28 : Option Addr} {sl28 : Array (Option Value)} {oc28 kV28 dc28 pm28 cd28 ct28 : Value}
    (a28 : PySem.W.nsIn K mainGlobals "_law_shape_for" = some (some (.ref f28))) (l28 : K.lookup f28 = some ⟨oc28, od28, .func (PySem.W.fnOf "_law_shape_for" "_law_shape_for" (defArgs s_L_shape_for) (defBody s_L_shape_for) (defScope s_L_shape_for) .none kV28 dc28 pm28 an28 cd28 ct28), sl28⟩) (c28 : PySem.W.codeIn K cd28 "_law_shape_for" = true) (k28 : PySem.W.keepIn K (.ref f28) = true)
    {od29 an29 : Option Addr} {sl29 : Array (Option Value)} {oc29 kV29 dc29 pm29 cd29 ct29 : Value}
    (a29 : PySem.W.nsIn K mainGlobals "law" = some (some (.ref f29))) (l29 : K.lookup f29 = some ⟨oc29, od29, .func (PySem.W.fnOf "law" "law" (defArgs s_law) (defBody s_law) (defScope s_law) .none kV29 dc29 pm29 an29 cd29 ct29), sl29⟩) (c29 : PySem.W.codeIn K cd29 "law" = true) (k29 : PySem.W.keepIn K (.ref f29) = true)
    (z_range : PySem.W.nsIn K mainGlobals "range" = some none)
    (z_len : PySem.W.nsIn K mainGlobals "len" = some none)
    (z_enumerate : PySem.W.nsIn K mainGlobals "enumerate" = some none)
    (z_list : PySem.W.nsIn K mainGlobals "list" = some none)
    (z_isinstance : PySem.W.nsIn K mainGlobals "isinstance" = some none)
    (z_bool : PySem.W.nsIn K mainGlobals "bool" = some none)
    (z_int : PySem.W.nsIn K mainGlobals "int" = some none)
    (z_tuple : PySem.W.nsIn K mainGlobals "tuple" = some none)
    (z_str : PySem.W.nsIn K mainGlobals "str" = some none)
    (z_sum : PySem.W.nsIn K mainGlobals "sum" = some none) :
    ∃ fd : FuncData, (∀ (s : Shared) (v : Value), BindsTo s fd ⟨[v], []⟩ [("_law_script", v)]) ∧ ∀ base : Heap, K.In base → base.Ns mainGlobals mg → FnOk l.prog w K mg base CX0 40 fa fd ["_law_script"] (spLaw K) := by
  have e := hfa.symm.trans (PySem.W.mg_of X G a29)
  cases e
  have T : CT K C := ⟨⟨aC, ⟨pg, hd, po, sa⟩⟩, n_high, n_wide, n_groups, n_numbers, n_can⟩
  have F0 := fun_mk (st := s_row_fields) l0 c0 k0
  have b0 := F0.binds (ps := ["size", "row"]) fun _ _ _ _ _ _ us hl => match us, hl with | [_, _], _ => rfl
  have F1 := fun_mk (st := s_column_fields) l1 c1 k1
  have b1 := F1.binds (ps := ["size", "column"]) fun _ _ _ _ _ _ us hl => match us, hl with | [_, _], _ => rfl
  have F2 := fun_mk (st := s_box_fields) l2 c2 k2
  have b2 := F2.binds (ps := ["high", "wide", "box"]) fun _ _ _ _ _ _ us hl => match us, hl with | [_, _, _], _ => rfl
  have F3 := fun_mk (st := s_groups_of) l3 c3 k3
  have b3 := F3.binds (ps := ["high", "wide"]) fun _ _ _ _ _ _ us hl => match us, hl with | [_, _], _ => rfl
  have F4 := fun_mk (st := s_refuse_no_sheet) l4 c4 k4
  have b4 := F4.binds (ps := ["high", "wide", "sheet"]) fun _ _ _ _ _ _ us hl => match us, hl with | [_, _, _], _ => rfl
  have F5 := fun_mk (st := s_groups_at) l5 c5 k5
  have b5 := F5.binds (ps := ["high", "wide", "place"]) fun _ _ _ _ _ _ us hl => match us, hl with | [_, _, _], _ => rfl
  have F6 := fun_mk (st := s_State_init) l6 c6 k6
  have b6 := F6.binds (ps := ["self", "high", "wide", "sheet"]) fun _ _ _ _ _ _ us hl => match us, hl with | [_, _, _, _], _ => rfl
  have F7 := fun_mk (st := s_State_numbers_for) l7 c7 k7
  have b7 := F7.binds (ps := ["self", "place"]) fun _ _ _ _ _ _ us hl => match us, hl with | [_, _], _ => rfl
  have F8 := fun_mk (st := s_State_put) l8 c8 k8
  have b8 := F8.binds (ps := ["self", "place", "number"]) fun _ _ _ _ _ _ us hl => match us, hl with | [_, _, _], _ => rfl
  have F9 := fun_mk (st := s_State_behind) l9 c9 k9
  have b9 := F9.binds (ps := ["self", "place", "number"]) fun _ _ _ _ _ _ us hl => match us, hl with | [_, _, _], _ => rfl
  have F11 := fun_mk (st := s_is_group) l11 c11 k11
  have b11 := F11.binds (ps := ["state", "group"]) fun _ _ _ _ _ _ us hl => match us, hl with | [_, _], _ => rfl
  have F12 := fun_mk (st := s_homes_in) l12 c12 k12
  have b12 := F12.binds (ps := ["state", "group"]) fun _ _ _ _ _ _ us hl => match us, hl with | [_, _], _ => rfl
  have F13 := fun_mk (st := s_step_follows) l13 c13 k13
  have b13 := F13.binds (ps := ["state", "step"]) fun _ _ _ _ _ _ us hl => match us, hl with | [_, _], _ => rfl
  have F14 := fun_mk (st := s_follows) l14 c14 k14
  have b14 := F14.binds (ps := ["high", "wide", "sheet", "step"]) fun _ _ _ _ _ _ us hl => match us, hl with | [_, _, _, _], _ => rfl
  have F15 := fun_mk (st := s_L_whole) l15 c15 k15
  have b15 := F15.binds (ps := ["_law_found"]) fun _ _ _ _ _ _ us hl => match us, hl with | [_], _ => rfl
  have F16 := fun_mk (st := s_L_at) l16 c16 k16
  have b16 := F16.binds (ps := ["_law_script", "_law_k"]) fun _ _ _ _ _ _ us hl => match us, hl with | [_, _], _ => rfl
  have F17 := fun_mk (st := s_L_same) l17 c17 k17
  have b17 := F17.binds (ps := ["_law_found", "_law_due"]) fun _ _ _ _ _ _ us hl => match us, hl with | [_, _], _ => rfl
  have F18 := fun_mk (st := s_L_shape_of) l18 c18 k18
  have b18 := F18.binds (ps := ["_law_cell"]) fun _ _ _ _ _ _ us hl => match us, hl with | [_], _ => rfl
  have F19 := fun_mk (st := s_L_all_groups) l19 c19 k19
  have b19 := F19.binds (ps := ["_law_high", "_law_wide"]) fun _ _ _ _ _ _ us hl => match us, hl with | [_, _], _ => rfl
  have F20 := fun_mk (st := s_L_full_sheet) l20 c20 k20
  have b20 := F20.binds (ps := ["_law_high", "_law_wide", "_law_cell"]) fun _ _ _ _ _ _ us hl => match us, hl with | [_, _, _], _ => rfl
  have F21 := fun_mk (st := s_L_sheet_by) l21 c21 k21
  have b21 := F21.binds (ps := ["_law_filled", "_law_cells", "_law_share"]) fun _ _ _ _ _ _ us hl => match us, hl with | [_, _, _], _ => rfl
  have F22 := fun_mk (st := s_L_barred) l22 c22 k22
  have b22 := F22.binds (ps := ["_law_groups", "_law_sheet", "_law_place", "_law_number"]) fun _ _ _ _ _ _ us hl => match us, hl with | [_, _, _, _], _ => rfl
  have F23 := fun_mk (st := s_L_can_have) l23 c23 k23
  have b23 := F23.binds (ps := ["_law_groups", "_law_sheet", "_law_size"]) fun _ _ _ _ _ _ us hl => match us, hl with | [_, _, _], _ => rfl
  have F24 := fun_mk (st := s_L_spots) l24 c24 k24
  have b24 := F24.binds (ps := ["_law_groups", "_law_table", "_law_group", "_law_number"]) fun _ _ _ _ _ _ us hl => match us, hl with | [_, _, _, _], _ => rfl
  have F25 := fun_mk (st := s_L_lacks) l25 c25 k25
  have b25 := F25.binds (ps := ["_law_groups", "_law_sheet", "_law_group", "_law_number", "_law_size"]) fun _ _ _ _ _ _ us hl => match us, hl with | [_, _, _, _, _], _ => rfl
  have F26 := fun_mk (st := s_L_step_right) l26 c26 k26
  have b26 := F26.binds (ps := ["_law_groups", "_law_sheet", "_law_table", "_law_step", "_law_size"]) fun _ _ _ _ _ _ us hl => match us, hl with | [_, _, _, _, _], _ => rfl
  have F27 := fun_mk (st := s_L_step_by) l27 c27 k27
  have b27 := F27.binds (ps := ["_law_groups", "_law_sheet", "_law_table", "_law_cell", "_law_more", "_law_size"]) fun _ _ _ _ _ _ us hl => match us, hl with | [_, _, _, _, _, _], _ => rfl
  have F28 := fun_mk (st := s_L_shape_for) l28 c28 k28
  have b28 := F28.binds (ps := ["_law_script"]) fun _ _ _ _ _ _ us hl => match us, hl with | [_], _ => rfl
  have F29 := fun_mk (st := s_law) l29 c29 k29
  have b29 := F29.binds (ps := ["_law_script"]) fun _ _ _ _ _ _ us hl => match us, hl with | [_], _ => rfl
  refine ⟨PySem.W.fnOf "law" "law" (defArgs s_law) (defBody s_law) (defScope s_law) .none kV29 dc29 pm29 an29 cd29 ct29, fun s v => .of_eq rfl, fun base _ _ => ?_⟩
  have B := all_ok (P := l.prog) (w := w) (base := base) T (PySem.W.mg_of X G aC) F0 (PySem.W.mg_of X G a0) b0 F1 (PySem.W.mg_of X G a1) b1 F2 (PySem.W.mg_of X G a2) b2 F3 (PySem.W.mg_of X G a3) b3 F4 (PySem.W.mg_of X G a4) b4 F5 (PySem.W.mg_of X G a5) b5 F6 ⟨mk, a6, i6, kc⟩ b6 F7 ⟨a7, i7, k7⟩ b7 F8 ⟨a8, i8, k8⟩ b8 F9 ⟨a9, i9, k9⟩ b9 F11 (PySem.W.mg_of X G a11) b11 F12 (PySem.W.mg_of X G a12) b12 F13 (PySem.W.mg_of X G a13) b13 F14 (PySem.W.mg_of X G a14) b14 F15 (PySem.W.mg_of X G a15) b15 F16 (PySem.W.mg_of X G a16) b16 F17 (PySem.W.mg_of X G a17) b17 F18 (PySem.W.mg_of X G a18) b18 F19 (PySem.W.mg_of X G a19) b19 F20 (PySem.W.mg_of X G a20) b20 F21 (PySem.W.mg_of X G a21) b21 F22 (PySem.W.mg_of X G a22) b22 F23 (PySem.W.mg_of X G a23) b23 F24 (PySem.W.mg_of X G a24) b24 F25 (PySem.W.mg_of X G a25) b25 F26 (PySem.W.mg_of X G a26) b26 F27 (PySem.W.mg_of X G a27) b27 F28 (PySem.W.mg_of X G a28) b28 F29 (PySem.W.mg_of X G a29) b29 (PySem.W.mg_none_of X G z_range) (PySem.W.mg_none_of X G z_len) (PySem.W.mg_none_of X G z_enumerate) (PySem.W.mg_none_of X G z_list) (PySem.W.mg_none_of X G z_isinstance) (PySem.W.mg_none_of X G z_bool) (PySem.W.mg_none_of X G z_int) (PySem.W.mg_none_of X G z_tuple) (PySem.W.mg_none_of X G z_str) (PySem.W.mg_none_of X G z_sum) 40
  exact law_ok (B.2.2.2.2.2.2.2.2.2.2.2.2.2.2.2.2.2.2.2.2.2.2.2.2.2.2.2.2.2) K3.math
theorem walk {l : PySem.W.OpenLaw} {q : Program} {loose : List Str} {XP : (Str → Option Value) → Heap → Prop} {YP : World → Heap → Prop} {d : DefRec} {K : Params → Fg} (hn : l.most = some 63) (hdf : d.params.defaults = [])
    (hY : ∀ (w : World) (h : Heap), YP w h → (K w.params).In h)
    (F : ∀ (w : World) (mg : Str → Option Value) (fa : Addr) (h : Heap), (K w.params).In h → h.Ns mainGlobals mg → mg d.name = some (.ref fa) →
      ∃ fd : FuncData, (∀ (s : Shared) (u : Value), BindsTo s fd ⟨[u], []⟩ [("_law_script", u)]) ∧ ∀ base : Heap, (K w.params).In base → base.Ns mainGlobals mg → FnOk l.prog w (K w.params) mg base CX0 40 fa fd ["_law_script"] (spLaw (K w.params))) :
    PySem.W.WalkO q loose XP YP l.row.toRowW d [] (fun f vs => PySem.call f vs) :=
  L2.walk_of (n := 63) (k := 40) (x := "_law_script") (CX := fun _ => CX0) (sp := fun w => spLaw (K w.params)) hn (by decide) hdf ⟨rfl, by decide, by decide⟩ hY F (fun _ _ a ns hl hO hS => ⟨a, ns, rfl, hS, hl, hO, fun _ => rfl⟩) fun _ _ _ _ _ z => z
end D_K3
open PySem PySem.W PyProof.Rows
set_option maxRecDepth 100000 in
set_option maxHeartbeats 0 in
theorem PySem.Challenge.cw_bedsheet_k03_follows_holds : PySem.Challenge.rw_bedsheet_k03_follows.Holds := by
  w_on; o_law; k_head; (case hw => w_witness2)
  k_fill
  refine D_K3.walk (l := PySem.Challenge.rw_bedsheet_k03_follows) rfl rfl (fun w h Y => PySem.W.kIn_of Y) ?F
  case F =>
    intro w mg fa h KX G hmg
    refine' D_K3.all_mk KX G hmg ?aC ?pg ?hd ?po ?sa ?mk ?kc ?n_high ?n_wide ?n_groups ?n_numbers ?n_can ?a0 ?l0 ?c0 ?k0 ?a1 ?l1 ?c1 ?k1 ?a2 ?l2 ?c2 ?k2 ?a3 ?l3 ?c3 ?k3 ?a4 ?l4 ?c4 ?k4 ?a5 ?l5 ?c5 ?k5 ?a6 ?i6 ?l6 ?c6 ?k6 ?a7 ?i7 ?l7 ?c7 ?k7 ?a8 ?i8 ?l8 ?c8 ?k8 ?a9 ?i9 ?l9 ?c9 ?k9 ?a11 ?l11 ?c11 ?k11 ?a12 ?l12 ?c12 ?k12 ?a13 ?l13 ?c13 ?k13 ?a14 ?l14 ?c14 ?k14 ?a15 ?l15 ?c15 ?k15 ?a16 ?l16 ?c16 ?k16 ?a17 ?l17 ?c17 ?k17 ?a18 ?l18 ?c18 ?k18 ?a19 ?l19 ?c19 ?k19 ?a20 ?l20 ?c20 ?k20 ?a21 ?l21 ?c21 ?k21 ?a22 ?l22 ?c22 ?k22 ?a23 ?l23 ?c23 ?k23 ?a24 ?l24 ?c24 ?k24 ?a25 ?l25 ?c25 ?k25 ?a26 ?l26 ?c26 ?k26 ?a27 ?l27 ?c27 ?k27 ?a28 ?l28 ?c28 ?k28 ?a29 ?l29 ?c29 ?k29 ?z_range ?z_len ?z_enumerate ?z_list ?z_isinstance ?z_bool ?z_int ?z_tuple ?z_str ?z_sum
    (case aC => k_is); (case pg => k_is); (case hd => k_is); (case po => k_is); (case sa => k_is); (case mk => k_is); (case kc => k_is); (case n_high => k_is); (case n_wide => k_is); (case n_groups => k_is); (case n_numbers => k_is); (case n_can => k_is)
    (case a0 => k_is); (case l0 => k_is); (case c0 => k_is); (case k0 => k_is)
    (case a1 => k_is); (case l1 => k_is); (case c1 => k_is); (case k1 => k_is)
    (case a2 => k_is); (case l2 => k_is); (case c2 => k_is); (case k2 => k_is)
    (case a3 => k_is); (case l3 => k_is); (case c3 => k_is); (case k3 => k_is)
    (case a4 => k_is); (case l4 => k_is); (case c4 => k_is); (case k4 => k_is)
    (case a5 => k_is); (case l5 => k_is); (case c5 => k_is); (case k5 => k_is)
    (case a6 => k_is); (case i6 => k_is); (case l6 => k_is); (case c6 => k_is); (case k6 => k_is)
    (case a7 => k_is); (case i7 => k_is); (case l7 => k_is); (case c7 => k_is); (case k7 => k_is)
    (case a8 => k_is); (case i8 => k_is); (case l8 => k_is); (case c8 => k_is); (case k8 => k_is)
    (case a9 => k_is); (case i9 => k_is); (case l9 => k_is); (case c9 => k_is); (case k9 => k_is)
    (case a11 => k_is); (case l11 => k_is); (case c11 => k_is); (case k11 => k_is)
    (case a12 => k_is); (case l12 => k_is); (case c12 => k_is); (case k12 => k_is)
    (case a13 => k_is); (case l13 => k_is); (case c13 => k_is); (case k13 => k_is)
    (case a14 => k_is); (case l14 => k_is); (case c14 => k_is); (case k14 => k_is)
    (case a15 => k_is); (case l15 => k_is); (case c15 => k_is); (case k15 => k_is)
    (case a16 => k_is); (case l16 => k_is); (case c16 => k_is); (case k16 => k_is)
    (case a17 => k_is); (case l17 => k_is); (case c17 => k_is); (case k17 => k_is)
    (case a18 => k_is); (case l18 => k_is); (case c18 => k_is); (case k18 => k_is)
    (case a19 => k_is); (case l19 => k_is); (case c19 => k_is); (case k19 => k_is)
    (case a20 => k_is); (case l20 => k_is); (case c20 => k_is); (case k20 => k_is)
    (case a21 => k_is); (case l21 => k_is); (case c21 => k_is); (case k21 => k_is)
    (case a22 => k_is); (case l22 => k_is); (case c22 => k_is); (case k22 => k_is)
    (case a23 => k_is); (case l23 => k_is); (case c23 => k_is); (case k23 => k_is)
    (case a24 => k_is); (case l24 => k_is); (case c24 => k_is); (case k24 => k_is)
    (case a25 => k_is); (case l25 => k_is); (case c25 => k_is); (case k25 => k_is)
    (case a26 => k_is); (case l26 => k_is); (case c26 => k_is); (case k26 => k_is)
    (case a27 => k_is); (case l27 => k_is); (case c27 => k_is); (case k27 => k_is)
    (case a28 => k_is); (case l28 => k_is); (case c28 => k_is); (case k28 => k_is)
    (case a29 => k_is); (case l29 => k_is); (case c29 => k_is); (case k29 => k_is)
    (case z_range => k_is)
    (case z_len => k_is)
    (case z_enumerate => k_is)
    (case z_list => k_is)
    (case z_isinstance => k_is)
    (case z_bool => k_is)
    (case z_int => k_is)
    (case z_tuple => k_is)
    (case z_str => k_is)
    (case z_sum => k_is)
