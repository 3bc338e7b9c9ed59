import PyProof.Rows.All
import Wide.All
import OpenK.AllK
import Wide.FinOn
import Lean
import PyProof.EqAt
import PyProof.EqKinds
import PyProof.TupleCall
import PySem.Challenge.RW_blankform_k12_same_but_names
set_option Elab.async false
set_option linter.all false
set_option maxRecDepth 100000
/-! THE HAND LAYER, for ints, bools, texts, own classes, LISTS and tuples (index, slices, in, append, pop ..), calls, loops. Paste it whole ahead of your own text; what your proof does not reach may be deleted. -/
namespace L2
open PySem PySem.Spec PyProof.Rows

/-- a key: an int or a str -/
abbrev Key := Sum Int Str
def keyIs : Key → Value → Bool
  | .inl k, v => Value.isInt k v
  | .inr x, v => Value.isStrOf x v
def keyH (w : World) : Key → Int
  | .inl k => hashInt k
  | .inr x => hashStr w x
theorem keyIs_shape : ∀ {k : Key} {v : Value}, keyIs k v = true → (∃ i t, k = Sum.inl i ∧ v = Value.int i t) ∨ (∃ x t, k = Sum.inr x ∧ v = Value.str x t)
  | .inl i, v, h => by
    obtain ⟨t, e⟩ := Value.isInt_shape (k := i) (v := v) h
    exact .inl ⟨i, t, rfl, e⟩
  | .inr x, v, h => by
    obtain ⟨t, e⟩ := Value.isStrOf_shape (x := x) (v := v) h
    exact .inr ⟨x, t, rfl, e⟩
theorem keyIs_int (i : Int) (t : Tok) : keyIs (.inl i) (.int i t) = true := by simp [keyIs, Value.isInt]
theorem keyIs_str (x : Str) (t : Tok) : keyIs (.inr x) (.str x t) = true := by simp [keyIs, Value.isStrOf]
theorem key_ll (a b : Int) : decide ((Sum.inl a : Key) = Sum.inl b) = (a == b) := by
  by_cases e : a = b
  · subst e; simp
  · have h : ¬ (Sum.inl a : Key) = Sum.inl b := fun q => e (Sum.inl.inj q)
    rw [decide_eq_false h]
    exact (beq_eq_false_iff_ne.mpr e).symm
theorem key_rr (a b : Str) : decide ((Sum.inr a : Key) = Sum.inr b) = decide (a = b) := by
  by_cases e : a = b
  · subst e; simp
  · have h : ¬ (Sum.inr a : Key) = Sum.inr b := fun q => e (Sum.inr.inj q)
    rw [decide_eq_false h, decide_eq_false e]
theorem key_lr (a : Int) (b : Str) : decide ((Sum.inl a : Key) = Sum.inr b) = false := decide_eq_false (fun q => nomatch q)
theorem key_rl (a : Str) (b : Int) : decide ((Sum.inr a : Key) = Sum.inl b) = false := decide_eq_false (fun q => nomatch q)

def mixKind (prog : Program) (w : World) : PySem.KeyKind prog w Key where
  is := keyIs
  hash := keyH w
  inj := fun v a b ha hb => by
    rcases keyIs_shape ha with ⟨i, t, rfl, rfl⟩ | ⟨x, t, rfl, rfl⟩
    · rcases keyIs_shape hb with ⟨j, u, rfl, e⟩ | ⟨y, u, rfl, e⟩
      · injection e with e1 _; rw [e1]
      · exact nomatch e
    · rcases keyIs_shape hb with ⟨j, u, rfl, e⟩ | ⟨y, u, rfl, e⟩
      · exact nomatch e
      · injection e with e1 _; rw [e1]
  byValue := fun k v h => by
    rcases keyIs_shape h with ⟨i, t, rfl, rfl⟩ | ⟨x, t, rfl, rfl⟩ <;> rfl
  pyHash := fun hv h => by
    rcases keyIs_shape hv with ⟨i, t, rfl, rfl⟩ | ⟨x, t, rfl, rfl⟩
    · exact wpAny_pyHash_int h
    · exact wpAny_pyHash_str h
  eqBool := fun hu hv h => by
    rcases keyIs_shape hu with ⟨i, t, rfl, rfl⟩ | ⟨x, t, rfl, rfl⟩
    · rcases keyIs_shape hv with ⟨j, u, rfl, rfl⟩ | ⟨y, u, rfl, rfl⟩
      · rw [key_ll] at h; exact wpAny_eqBool_int h
      · rw [key_lr] at h; exact SeqAt.EqAt.int_str i t y u _ _ _ _ h
    · rcases keyIs_shape hv with ⟨j, u, rfl, rfl⟩ | ⟨y, u, rfl, rfl⟩
      · rw [key_rl] at h; exact SeqAt.EqAt.str_int x t j u _ _ _ _ h
      · rw [key_rr] at h; exact wpAny_eqBool_str h
  «strs» := fun k x t v h => by
    rcases keyIs_shape h with ⟨i, u, rfl, e⟩ | ⟨y, u, rfl, e⟩
    · exact nomatch e
    · injection e with e1 _
      subst e1
      cases v <;> rfl

theorem mixKind_int (prog : Program) (w : World) (i : Int) (t : Tok) : (mixKind prog w).is (.inl i) (.int i t) = true := keyIs_int i t
theorem mixKind_str (prog : Program) (w : World) (x : Str) (t : Tok) : (mixKind prog w).is (.inr x) (.str x t) = true := keyIs_str x t
end L2

namespace L2
open PySem PySem.Spec PyProof.Rows

/-- a value, without the heap -/
inductive V where
  | non | bl (b : Bool) | int (i : Int) | str (x : Str) | byt (b : Array UInt8) | flt (b : UInt64) | ref (a : Addr) | ty (n : String)
  deriving DecidableEq

def RelV : V → Value → Prop
  | .non, u => u = Value.none
  | .bl b, u => u = Value.bool b
  | .int i, u => ∃ t, u = Value.int i t
  | .str x, u => ∃ t, u = Value.str x t
  | .byt b, u => ∃ t, u = Value.bytes b t
  | .flt b, u => ∃ t, u = Value.float b t
  | .ref a, u => u = Value.ref a
  | .ty n, u => u = Value.type n

abbrev Vals : List V → List Value → Prop := Paired RelV
theorem Vals.length {xs : List V} {us : List Value} (r : Vals xs us) : xs.length = us.length := Paired.length r
theorem Vals.get : ∀ {xs : List V} {us : List Value} {i : Nat} {x : V}, Vals xs us → xs[i]? = some x → ∃ u, us[i]? = some u ∧ RelV x u
  | _, _, _, _, .nil, e => by simp at e
  | _, _, 0, _, .cons r _, e => by simp at e; subst e; exact ⟨_, rfl, r⟩
  | _, _, i + 1, x, .cons _ t, e => by
    obtain ⟨u, h1, h2⟩ := Vals.get (i := i) (x := x) t (by simpa using e)
    exact ⟨u, by simpa using h1, h2⟩
theorem Vals.append : ∀ {xs ys : List V} {us ws : List Value}, Vals xs us → Vals ys ws → Vals (xs ++ ys) (us ++ ws)
  | _, _, _, _, .nil, s => s
  | _, _, _, _, .cons r t, s => .cons r (Vals.append t s)
theorem Vals.take : ∀ {xs : List V} {us : List Value} (n : Nat), Vals xs us → Vals (xs.take n) (us.take n)
  | _, _, 0, _ => .nil
  | _, _, _ + 1, .nil => .nil
  | _, _, n + 1, .cons r t => .cons r (Vals.take n t)
theorem Vals.drop : ∀ {xs : List V} {us : List Value} (n : Nat), Vals xs us → Vals (xs.drop n) (us.drop n)
  | _, _, 0, r => r
  | _, _, _ + 1, .nil => .nil
  | _, _, n + 1, .cons _ t => Vals.drop n t
def RelO : Option V → Option Value → Prop
  | some v, some u => RelV v u
  | none, none => True
  | _, _ => False
def KV {κ : Type} : List (κ × V) → List (κ × Value) → Prop := Paired fun (p : κ × V) (q : κ × Value) => p.1 = q.1 ∧ RelV p.2 q.2

/-- a key of a dict (00_mix): an int or a text -/
def kV : Key → V
  | .inl i => .int i
  | .inr x => .str x

/-- what stands at a tracked address -/
inductive HO where
  /-- a list -/
  | lst (xs : List V)
  /-- a tuple (never changes) -/
  | tup (xs : List V)
  /-- a dict whose keys are ints and texts; one whose keys are tuples of ints and texts (the empty one is both) -/
  | dK (kvs : List (Key × V)) | dT (kvs : List (List Key × V))
  /-- a set of ints: its members, its size -/
  | set (S : Int → Bool) (n : Nat)
  /-- an instance of the class at C, its dict at dx, its attributes -/
  | ins (C dx : Addr) (fs : List (Str × V))
  /-- the dict of the instance at x -/
  | own (x : Addr)
  /-- the dict of an exception -/
  | xd (fs : List (Str × V))
  /-- a bound method, f of x -/
  | met (f x : Addr)
  /-- a range object lo, lo + 1, .. below hi -/
  | rng (lo hi : Int)
  /-- a thing that is known to the object (the script; a dict while a loop walks it): read, never written while it is so -/
  | frz (o : Obj) (u : HO)
  /-- a code object's table -/
  | tbl (ps : Array Value)
  /-- any other thing, by what is true of its one object (a def of one's own: SetO a S n := HO.ext fun h => ..) -/
  | ext (φ : Heap → Prop)

abbrev Hp := Addr → Option HO
def upd (H : Hp) (a : Addr) (o : HO) : Hp := fun b => if b = a then some o else H b
theorem upd_same {H : Hp} {a : Addr} {o : HO} : upd H a o a = some o := by unfold upd; rw [if_pos rfl]
theorem upd_ne {H : Hp} {a b : Addr} {o : HO} (h : b ≠ a) : upd H a o b = H b := by unfold upd; rw [if_neg h]
theorem upd_upd {H : Hp} {a : Addr} {o u : HO} : upd (upd H a o) a u = upd H a u := by
  funext b; unfold upd; split <;> rfl
/-- two objects of different content stand apart -/
theorem ne_of {H : Hp} {a b : Addr} {o u : HO} (h : H a = some o) (h' : H b = some u) (d : o ≠ u) : a ≠ b := by
  intro e; subst e; rw [h] at h'; exact d (Option.some.inj h')
theorem ne_of_none {H : Hp} {a b : Addr} {o : HO} (h : H a = some o) (h' : H b = none) : a ≠ b := by
  intro e; subst e; rw [h] at h'; cases h'

section
variable (P : Program) (w : World)
def ObjOk (H : Hp) (h : Heap) (a : Addr) : HO → Prop
  | .lst xs => xs.length ≤ sizeLine ∧ ∃ (its : List Value) (n : Nat), Vals xs its ∧ h.get? a = some { cls := .type "list", data := .seq its.toArray n }
  | .tup xs => xs.length ≤ sizeLine ∧ ∃ its : List Value, Vals xs its ∧ IsTup h a its.toArray
  | .dK kvs => kvs.length ≤ sizeLine ∧ (a == sysModules) = false ∧ ∃ vs, KV kvs vs ∧ h.DictOf (mixKind P w) a vs
  | .dT kvs => kvs.length ≤ sizeLine ∧ (a == sysModules) = false ∧ ∃ xs : List (List Key × Addr × Value),
      Paired (fun (p : List Key × V) (q : List Key × Addr × Value) => p.1 = q.1 ∧ H q.2.1 = some (.tup (p.1.map kV)) ∧ RelV p.2 q.2.2) kvs xs ∧
      ∃ o es ep, h.get? a = some o ∧ o.ExactDict ∧ o.data = .dict es ep ∧ es.toList = xs.map (entryOfKey (tupleKind (mixKind P w))) ∧ (xs.map (·.1)).Nodup
  | .set S n => h.SetOf (intKind P w) a S n
  | .ins C dx fs => H dx = some (.own a) ∧ fs.length ≤ 1000 ∧ dx ≠ a ∧ h.get? a = some (PySem.W.instObj C dx) ∧
      ∃ mA, h.Ns1 dx mA ∧ (∀ f, RelO (fs.lookup f) (mA f)) ∧ PySem.Within mA (fs.map (·.1))
  | .own _ => ∃ o, h.get? a = some o
  | .xd fs => ∃ mA, h.Ns1 a mA ∧ ∀ f, RelO (fs.lookup f) (mA f)
  | .rng lo hi => ∃ t u v, h.get? a = some { cls := .type "range", data := .fields #[.int lo t, .int hi u, .int 1 v] }
  | .frz o u => h.get? a = some o ∧ ObjOk H h a u
  | .tbl ps => h.get? a = some { cls := .none, data := .fields ps }
  | .met f x => h.get? a = some (PySem.W.methodObj (.ref f) (.ref x))
  | .ext φ => φ h ∧ (∃ o, h.get? a = some o) ∧ ∀ h1 h2 : Heap, φ h1 → (∀ o, h1.get? a = some o → h2.get? a = some o) → φ h2
/-- the abstract heap is held -/
def HOk (H : Hp) (h : Heap) : Prop := ∀ a o, H a = some o → ObjOk P w H h a o
end

section
variable {P : Program} {w : World} {H H' : Hp} {h h' : Heap} {a : Addr} {o : HO}
theorem ObjOk.lt (x : ObjOk P w H h a o) : a < h.objs.size := by
  cases o with
  | lst xs => obtain ⟨_, _, _, _, e⟩ := x; exact Heap.lt_size e
  | tup xs => obtain ⟨_, _, _, p⟩ := x; exact p.lt
  | dK kvs => obtain ⟨_, _, _, _, o, _, _, e, _⟩ := x; exact Heap.lt_size e
  | dT kvs => obtain ⟨_, _, _, _, o, _, _, e, _⟩ := x; exact Heap.lt_size e
  | set S n => obtain ⟨o, _, _, _, e, _⟩ := x; exact Heap.lt_size e
  | ins C dx fs => obtain ⟨_, _, _, e, _⟩ := x; exact Heap.lt_size e
  | own y => obtain ⟨_, e⟩ := x; exact Heap.lt_size e
  | xd fs => obtain ⟨_, ⟨_, _, _, e, _⟩, _⟩ := x; exact Heap.lt_size e
  | rng lo hi => obtain ⟨_, _, _, e⟩ := x; exact Heap.lt_size e
  | frz ob u => obtain ⟨e, _⟩ := x; exact Heap.lt_size e
  | tbl ps => exact Heap.lt_size (show h.get? a = some _ from x)
  | met f y => exact Heap.lt_size (show h.get? a = some _ from x)
  | ext φ => obtain ⟨_, ⟨_, e⟩, _⟩ := x; exact Heap.lt_size e
theorem Paired.mapP {α β : Type} {F G : α → β → Prop} : ∀ {l₁ : List α} {l₂ : List β}, Paired F l₁ l₂ → (∀ a b, F a b → G a b) → Paired G l₁ l₂
  | _, _, .nil, _ => .nil
  | _, _, .cons r t, f => .cons (f _ _ r) (Paired.mapP t f)
/-- what an object's description leans on: its own object, its own dict, the tuples -/
theorem ObjOk.stay (x : ObjOk P w H h a o) (k : ∀ b u, (b = a ∨ H b = some (.own a)) → h.get? b = some u → h'.get? b = some u)
    (ho : ∀ b, H b = some (.own a) → H' b = some (.own a)) (ht : ∀ b xs, H b = some (.tup xs) → H' b = some (.tup xs)) : ObjOk P w H' h' a o := by
  induction o with
  | lst xs => obtain ⟨z, its, n, r, e⟩ := x; exact ⟨z, its, n, r, k _ _ (.inl rfl) e⟩
  | tup xs => obtain ⟨z, its, r, ob, e, c⟩ := x; exact ⟨z, its, r, ob, k _ _ (.inl rfl) e, c⟩
  | dK kvs => obtain ⟨z, y, vs, r, ob, es, ep, e, c⟩ := x; exact ⟨z, y, vs, r, ob, es, ep, k _ _ (.inl rfl) e, c⟩
  | dT kvs =>
    obtain ⟨z, y, xs, r, ob, es, ep, e, c⟩ := x
    exact ⟨z, y, xs, Paired.mapP r fun p q z => ⟨z.1, ht _ _ z.2.1, z.2.2⟩, ob, es, ep, k _ _ (.inl rfl) e, c⟩
  | set S n => obtain ⟨ob, es, ep, t, e, c⟩ := x; exact ⟨ob, es, ep, t, k _ _ (.inl rfl) e, c⟩
  | ins C dx fs =>
    obtain ⟨d, z, ne, e, mA, ⟨od, es, ep, e2, c⟩, r⟩ := x
    exact ⟨ho _ d, z, ne, k _ _ (.inl rfl) e, mA, ⟨od, es, ep, k _ _ (.inr d) e2, c⟩, r⟩
  | own y => obtain ⟨ob, e⟩ := x; exact ⟨ob, k _ _ (.inl rfl) e⟩
  | xd fs => obtain ⟨mA, ⟨od, es, ep, e, c⟩, r⟩ := x; exact ⟨mA, ⟨od, es, ep, k _ _ (.inl rfl) e, c⟩, r⟩
  | rng lo hi => obtain ⟨t, u, v, e⟩ := x; exact ⟨t, u, v, k _ _ (.inl rfl) e⟩
  | frz ob u ih => obtain ⟨e, q⟩ := x; exact ⟨k _ _ (.inl rfl) e, ih q⟩
  | tbl ps =>
    have e : h.get? a = some { cls := .none, data := .fields ps } := x
    show h'.get? a = some { cls := .none, data := .fields ps }
    exact k a _ (.inl rfl) e
  | met f y =>
    have e : h.get? a = some (PySem.W.methodObj (.ref f) (.ref y)) := x
    show h'.get? a = some (PySem.W.methodObj (.ref f) (.ref y))
    exact k a _ (.inl rfl) e
  | ext φ => obtain ⟨p, ⟨o, e⟩, st⟩ := x; exact ⟨st _ _ p fun o q => k _ _ (.inl rfl) q, ⟨o, k _ _ (.inl rfl) e⟩, st⟩
theorem HOk.lt (x : HOk P w H h) (e : H a = some o) : a < h.objs.size := (x a o e).lt
theorem HOk.fresh (x : HOk P w H h) (e : h.objs.size ≤ a) : H a = none := by
  cases q : H a with
  | none => rfl
  | some u => exact absurd (Nat.lt_of_lt_of_le (x.lt q) e) (Nat.lt_irrefl _)
/-- every object of the heap is kept -/
theorem HOk.kept (x : HOk P w H h) (k : ∀ b u, h.get? b = some u → h'.get? b = some u) : HOk P w H h' := fun a o e =>
  (x a o e).stay (fun b u _ q => k b u q) (fun _ q => q) fun _ _ q => q
/-- a new object is laid and tracked -/
theorem HOk.laid (x : HOk P w H h) (k : ∀ b u, h.get? b = some u → h'.get? b = some u) (hp : h.objs.size ≤ a) (new : ObjOk P w (upd H a o) h' a o) : HOk P w (upd H a o) h' := fun b u e => by
  have hn := x.fresh hp
  by_cases hb : b = a
  · subst hb; rw [upd_same] at e; cases e; exact new
  · rw [upd_ne hb] at e
    exact (x b u e).stay (fun c v _ q => k c v q) (fun c q => by rw [upd_ne (ne_of_none q hn)]; exact q) fun c xs q => by rw [upd_ne (ne_of_none q hn)]; exact q
end

/-- what may be read as u: it is u, or a known u -/
def Rd (H : Hp) (a : Addr) (u : HO) : Prop := H a = some u ∨ ∃ o, H a = some (.frz o u)
theorem Rd.ok {P : Program} {w : World} {H : Hp} {h : Heap} {a : Addr} {u : HO} (r : Rd H a u) (x : HOk P w H h) : ObjOk P w H h a u := by
  rcases r with r | ⟨o, r⟩
  · exact x a u r
  · obtain ⟨_, q⟩ := x a _ r
    exact q
/-- what may be written -/
def Mut : Option HO → Prop
  | some (.lst _) => True
  | some (.dK _) => True
  | some (.dT _) => True
  | some (.set _ _) => True
  | some (.ins _ _ _) => True
  | some (.ext _) => True
  | _ => False
section
variable {P : Program} {w : World} {H : Hp} {h h' : Heap} {x e : Addr} {o' : HO}
/-- the object at e is changed: x itself, or the dict of the instance x -/
theorem HOk.write (ok : HOk P w H h) (mu : Mut (H x)) (he : e = x ∨ H e = some (.own x)) (k : ∀ b u, b ≠ e → h.get? b = some u → h'.get? b = some u) (heo : ∃ u, h'.get? e = some u)
    (new : ObjOk P w (upd H x o') h' x o') : HOk P w (upd H x o') h' := fun b u q => by
  have nown : ∀ c y, H c = some (.own y) → c ≠ x := fun c y r z => by subst z; rw [r] at mu; exact mu
  have ntup : ∀ c xs, H c = some (.tup xs) → c ≠ x := fun c xs r z => by subst z; rw [r] at mu; exact mu
  by_cases hb : b = x
  · subst hb; rw [upd_same] at q; cases q; exact new
  · rw [upd_ne hb] at q
    by_cases hbe : b = e
    · have q' : H b = some (.own x) := by
        rcases he with z | z
        · exact absurd (hbe.trans z) hb
        · rw [hbe]; exact z
      rw [q] at q'; cases q'
      obtain ⟨v, hv⟩ := heo
      exact ⟨v, by rw [hbe]; exact hv⟩
    · refine (ok b u q).stay (fun c v hc r => k c v ?_ r) (fun c r => by rw [upd_ne (nown c b r)]; exact r) fun c xs r => by rw [upd_ne (ntup c xs r)]; exact r
      rcases hc with rfl | hc
      · exact hbe
      · rintro rfl
        rcases he with z | z
        · exact nown c b hc z
        · rw [hc] at z; cases z; exact hb rfl
end

/-! ### kept unless tracked; of the frames at fs (the callers') the slots may change (an exception that passes writes there); of the records at ex (iterators) nothing is said -/
structure Un (fs ex : List Addr) (H H' : Hp) (h h' : Heap) : Prop where
  keep : ∀ b o, h.get? b = some o → H b = none → b ∉ fs → b ∉ ex → h'.get? b = some o
  slot : ∀ b o, h.get? b = some o → H b = none → b ∈ fs → b ∉ ex → ∃ sl, h'.get? b = some { o with slots := sl }
  free : ∀ b o, h.get? b = some o → H b = none → b ∉ ex → H' b = none
  there : ∀ b o, h.get? b = some o → b ∉ ex → ∃ o', h'.get? b = some o'
  tups : ∀ b xs, H b = some (.tup xs) → H' b = some (.tup xs)
  frzs : ∀ b o u, H b = some (.frz o u) → H' b = some (.frz o u)
  tbls : ∀ b ps, H b = some (.tbl ps) → ∃ more, H' b = some (.tbl (ps ++ more))
section
variable {fs fs' ex ex' : List Addr} {H H1 H2 : Hp} {h h1 h2 h' : Heap} {a x e : Addr} {o : HO}
theorem Un.any (u : Un fs ex H H1 h h1) {b : Addr} {ob : Obj} (q : h.get? b = some ob) (n : H b = none) (hx : b ∉ ex) : ∃ sl, h1.get? b = some { ob with slots := sl } := by
  by_cases hb : b ∈ fs
  · exact u.slot b ob q n hb hx
  · exact ⟨ob.slots, u.keep b ob q n hb hx⟩
theorem Un.kept (k : ∀ b u, h.get? b = some u → h'.get? b = some u) : Un fs ex H H h h' :=
  ⟨fun b ob q _ _ _ => k b ob q, fun b ob q _ _ _ => ⟨ob.slots, k b ob q⟩, fun _ _ _ n _ => n, fun b ob q _ => ⟨ob, k b ob q⟩, fun _ _ q => q, fun _ _ _ q => q, fun _ ps q => ⟨#[], by rw [q]; simp⟩⟩
theorem Un.refl : Un fs ex H H h h := Un.kept fun _ _ q => q
theorem Un.laid (k : ∀ b u, h.get? b = some u → h'.get? b = some u) (hp : h.objs.size ≤ a) (hn : H a = none) : Un fs ex H (upd H a o) h h' where
  keep := fun b u q _ _ _ => k b u q
  slot := fun b u q _ _ _ => ⟨u.slots, k b u q⟩
  free := fun b u q n _ => by rw [upd_ne (Nat.ne_of_lt (Nat.lt_of_lt_of_le (Heap.lt_size q) hp))]; exact n
  there := fun b u q _ => ⟨u, k b u q⟩
  tups := fun b xs q => by rw [upd_ne (ne_of_none q hn)]; exact q
  frzs := fun b u xs q => by rw [upd_ne (ne_of_none q hn)]; exact q
  tbls := fun b ps q => ⟨#[], by rw [upd_ne (ne_of_none q hn), q]; simp⟩
theorem Un.write (mu : Mut (H x)) (he : e = x ∨ H e = some (.own x)) (k : ∀ b u, b ≠ e → h.get? b = some u → h'.get? b = some u) (heo : ∃ u, h'.get? e = some u) : Un fs ex H (upd H x o) h h' := by
  have hx : ∀ b, H b = none → b ≠ x := fun b n z => by subst z; rw [n] at mu; exact mu
  have hb : ∀ b, H b = none → b ≠ e := fun b n z => by
    subst z
    rcases he with r | r
    · exact hx b n r
    · rw [n] at r; cases r
  have hm : ∀ b u, H b = some u → ¬ Mut (some u) → b ≠ x := fun b u q nm z => by subst z; rw [q] at mu; exact nm mu
  refine ⟨fun b u q n _ _ => k b u (hb b n) q, fun b u q n _ _ => ⟨u.slots, k b u (hb b n) q⟩, fun b u q n _ => by rw [upd_ne (hx b n)]; exact n, fun b u q _ => ?_,
    fun b xs q => by rw [upd_ne (hm b _ q fun z => z)]; exact q, fun b u xs q => by rw [upd_ne (hm b _ q fun z => z)]; exact q, fun b ps q => ⟨#[], by rw [upd_ne (hm b _ q fun z => z), q]; simp⟩⟩
  by_cases hbe : b = e
  · subst hbe; exact heo
  · exact ⟨u, k b u hbe q⟩
end

/-! ### the heap without what is tracked -/
def trk (h : Heap) (H : Hp) : List Addr := (List.range h.objs.size).filter fun a => (H a).isSome
def hidT (h : Heap) (H : Hp) : Heap := PySem.W.hideAll h (trk h H)
theorem hidT_size (h : Heap) (H : Hp) : (hidT h H).objs.size = h.objs.size := PySem.W.hideAll_size _ _
theorem hidT_get {h : Heap} {H : Hp} {b : Addr} {o : Obj} (e : h.get? b = some o) (n : H b = none) : (hidT h H).get? b = some o :=
  PySem.W.hideAll_get _ e fun hm => by
    have q : (H b).isSome = true := (List.mem_filter.mp hm).2
    rw [n] at q; simp at q
theorem of_hidT {h : Heap} {H : Hp} {b : Addr} {o : Obj} (e : (hidT h H).get? b = some o) : h.get? b = some o ∧ H b = none := by
  have e' : h.get? b = some o := PySem.W.of_hideAll (trk h H) e
  refine ⟨e', ?_⟩
  cases q : H b with
  | none => rfl
  | some x =>
    have hm : b ∈ trk h H := List.mem_filter.mpr ⟨List.mem_range.mpr (Heap.lt_size e'), by simp [q]⟩
    have z : (hidT h H).get? b = none := PySem.W.hideAll_none (trk h H) hm
    rw [z] at e; cases e

/-! ### OpenK's ledger, filled with every new object but one -/
end L2

namespace L2
open PySem PySem.Spec PyProof.Rows

/-- the module's facts, over the base: the heap at the law's entry without what is tracked there -/
structure Mod (K : PySem.W.Frag) (mg : Str → Option Value) (base : Heap) : Prop where
  kin : K.In base
  glob : base.Ns mainGlobals mg
  blt : ∃ mb, base.Ns builtinsNs mb ∧ ∀ x : Str, x ≠ "__name__" → mb x = bootBuiltins x
  nolimit : base.NoLimit

/-- the context: a def's body (or a comprehension's block) running. base: fixed through the whole law; s₀, H₀: the entry; outer: the frames whose slots others may change (a def's callers); stack: all frames that run;
   ex: iterators that were made ahead of the entry and are walked here (a comprehension's); fn: the names whose cells were made at the entry (a def: all; a comprehension's block: its own); calm: not within an except suite; pn: pins that every state bears; xe: what is wanted of an exception that leaves the code -/
structure Cx where
  prog : Program
  w : World
  K : PySem.W.Frag
  mg : Str → Option Value
  base : Heap
  A : Around
  N : List Str
  s₀ : Shared
  H₀ : Hp
  env : Env
  outer : List Env
  stack : List Env
  ex : List Addr
  fn : Str → Bool
  calm : Bool
  pn : List (Addr × Obj)
  xe : Value → Shared → Prop
/-- the callers' frames -/
def frs (l : List Env) : List Addr := l.filterMap (·.frame)
abbrev Cx.fs (X : Cx) : List Addr := frs X.outer

def Vis (sc : Scope) (x : Str) : Prop := sc.names.lookup x = some .local ∨ sc.names.lookup x = some .cell ∨ sc.names.lookup x = some .free
def Loc (sc : Scope) (x : Str) : Prop := sc.names.lookup x = some .local ∨ sc.names.lookup x = some .cell
def Look (env : Env) (h : Heap) (m : Str → Option Value) (x : Str) (u : Value) : Prop :=
  (env.kindOf x = some .local ∧ m x = some u) ∨ ((env.kindOf x = some .cell ∨ env.kindOf x = some .free) ∧ ∃ c, env.cells.lookup x = some c ∧ h.IsCell c (some u))

structure Cx.Ok (X : Cx) : Prop where
  mod : Mod X.K X.mg X.base
  kind : X.env.scope.kind = .function
  glob : X.env.globals = mainGlobals
  blt : X.env.builtins = builtinsNs
  above : X.s₀.heap.objs.size ≤ X.env.locals
  inj : ∀ x y c, X.env.cells.lookup x = some c → X.env.cells.lookup y = some c → x = y
  has : ∀ x, (X.env.kindOf x = some .cell ∨ X.env.kindOf x = some .free) → ∃ c, X.env.cells.lookup x = some c
  cab : ∀ x c, X.fn x = true → X.env.cells.lookup x = some c → X.s₀.heap.objs.size ≤ c
  hd : X.calm = true → X.A.handled = none
  frames : X.A.frames = some X.stack
  stk : X.stack = X.outer ∨ (X.stack = X.env :: X.outer ∧ X.env.frame = some X.env.locals)
  exf : ∀ b ∈ X.ex, b ≠ X.env.locals ∧ ∀ x c, X.env.cells.lookup x = some c → c ≠ b
  bs : ∀ b o, X.base.get? b = some o → X.s₀.heap.get? b = some o ∧ X.H₀ b = none
  bsz : X.base.objs.size ≤ X.s₀.heap.objs.size
  noex : ∀ b o, X.base.get? b = some o → b ∉ X.ex
  exfs : ∀ b ∈ X.ex, b ∉ X.fs
  funs : X.s₀.heap.FunFrames X.base X.outer
  frf : ∀ b ∈ X.fs, X.H₀ b = none

structure Inv (X : Cx) (pins : List (Addr × Obj)) (σ : List (Option V)) (H : Hp) (s : Shared) : Prop where
  ok : X.Ok
  os : s.os = X.s₀.os
  bare : AllBare s.gens
  base : Un X.fs X.ex X.H₀ H X.s₀.heap s.heap
  loc : ∃ m, s.heap.Ns X.env.locals m ∧ ∀ (i : Nat) (x : Str) (v : V), X.N[i]? = some x → σ[i]? = some (some v) → Vis X.env.scope x → ∃ u, RelV v u ∧ Look X.env s.heap m x u
  cell : ∀ x c, X.env.cells.lookup x = some c → ∃ v, s.heap.IsCell c v
  free : H X.env.locals = none
  freeC : ∀ x c, X.env.cells.lookup x = some c → H c = none
  pin : ∀ p ∈ X.pn ++ pins, s.heap.get? p.1 = some p.2 ∧ H p.1 = none ∧ p.1 ≠ X.env.locals ∧ p.1 ∉ X.fs ∧ ∀ v, p.2.data ≠ .cell v
  hok : HOk X.prog X.w H s.heap
  len : σ.length = X.N.length

section
variable {X : Cx} {pins : List (Addr × Obj)} {σ : List (Option V)} {H H' : Hp} {s : Shared} {h' : Heap}

theorem Cx.Ok.nofr (ok : X.Ok) {b : Addr} {o : Obj} (e : X.base.get? b = some o) : b ∉ X.fs := fun hb => by
  have := (ok.funs.mem hb).1
  rw [e] at this; cases this
theorem Inv.bs (I : Inv X pins σ H s) : ∀ b o, X.base.get? b = some o → s.heap.get? b = some o ∧ H b = none := fun b o e =>
  ⟨I.base.keep b o (I.ok.bs b o e).1 (I.ok.bs b o e).2 (I.ok.nofr e) (I.ok.noex b o e), I.base.free b o (I.ok.bs b o e).1 (I.ok.bs b o e).2 (I.ok.noex b o e)⟩
theorem Inv.bk (I : Inv X pins σ H s) : ∀ b o, X.base.get? b = some o → s.heap.get? b = some o := fun b o e => (I.bs b o e).1
theorem Inv.mod (I : Inv X pins σ H s) : Mod X.K X.mg X.base := I.ok.mod
theorem Inv.kIn (I : Inv X pins σ H s) : X.K.In s.heap := I.ok.mod.kin.keeps I.bk
theorem Inv.lt (I : Inv X pins σ H s) : X.env.locals < s.heap.objs.size := let ⟨_, hn, _⟩ := I.loc; hn.lt
theorem Inv.sz (I : Inv X pins σ H s) : X.s₀.heap.objs.size ≤ s.heap.objs.size := Nat.le_trans I.ok.above (Nat.le_of_lt I.lt)
theorem Inv.nofs (I : Inv X pins σ H s) {a : Addr} (h : s.heap.objs.size ≤ a) : a ∉ X.fs := fun hb => by
  obtain ⟨_, o, ho, _⟩ := I.ok.funs.mem hb
  exact absurd (Nat.lt_of_lt_of_le (Heap.lt_size ho) (Nat.le_trans I.sz h)) (Nat.lt_irrefl _)
theorem Inv.cne (I : Inv X pins σ H s) : ∀ x c, X.env.cells.lookup x = some c → c ≠ X.env.locals := fun x c e z => by
  obtain ⟨v, o, ho, hd⟩ := I.cell x c e
  obtain ⟨m, ⟨o', es, ep, ho', hd', _⟩, _⟩ := I.loc
  rw [z, ho'] at ho; cases ho; rw [hd'] at hd; cases hd
theorem Inv.funs (I : Inv X pins σ H s) : s.heap.FunFrames X.base X.outer := by
  have all : ∀ (l : List Env), (∀ b ∈ frs l, b ∈ X.fs) → X.s₀.heap.FunFrames X.base l → s.heap.FunFrames X.base l := by
    intro l
    induction l with
    | nil => intro _ _; trivial
    | cons env r ih =>
      intro hs hl
      obtain ⟨hk, ⟨L, o, hf, hn, ho, hd⟩, hr⟩ := hl
      have hL : L ∈ X.fs := hs L (by unfold frs; rw [List.filterMap_cons, hf]; exact List.mem_cons_self)
      obtain ⟨sl, e⟩ := I.base.slot L o ho (I.ok.frf L hL) hL fun z => I.ok.exfs L z hL
      exact ⟨hk, ⟨L, _, hf, hn, e, hd⟩, ih (fun b hb => hs b (by unfold frs; rw [List.filterMap_cons, hf]; exact List.mem_cons_of_mem _ hb)) hr⟩
  exact all X.outer (fun _ hb => hb) I.ok.funs

/-- the frames that run, for a call -/
theorem Inv.stack (I : Inv X pins σ H s) : s.heap.FunFrames X.base X.stack := by
  rcases I.ok.stk with e | ⟨e, hf⟩
  · rw [e]; exact I.funs
  · rw [e]
    obtain ⟨m, hn, _⟩ := I.loc
    refine .cons (by rw [I.ok.kind]; decide) hf hn ?_ I.funs
    exact Heap.get?_none_of_le (Nat.le_trans I.ok.bsz I.ok.above)
theorem Inv.stkSub (I : Inv X pins σ H s) : ∀ b ∈ frs X.stack, b ∈ X.env.locals :: X.fs := fun b hb => by
  rcases I.ok.stk with e | ⟨e, hf⟩
  · rw [e] at hb; exact List.mem_cons_of_mem _ hb
  · rw [e] at hb
    unfold frs at hb
    rw [List.filterMap_cons, hf] at hb
    exact hb
theorem Inv.stkFree (I : Inv X pins σ H s) : ∀ b ∈ frs X.stack, H b = none := fun b hb => by
  rcases List.mem_cons.mp (I.stkSub b hb) with e | hb
  · rw [e]; exact I.free
  · obtain ⟨_, o, ho, _⟩ := I.ok.funs.mem hb
    exact I.base.free b o ho (I.ok.frf b hb) fun z => I.ok.exfs b z hb

/-- THE STEP: the untracked objects but the frame and the records at ch are kept (the callers' frames up to slots), the frame's map is kept, the new abstract heap is held -/
theorem Inv.step {g' : Array GenState} {t' : Nat} {d' : Drawn} {ch : List Addr} (I : Inv X pins σ H s)
    (hch : ∀ b ∈ ch, (b ∈ X.ex ∨ X.s₀.heap.objs.size ≤ b) ∧ b ≠ X.env.locals ∧ (∀ x c, X.env.cells.lookup x = some c → c ≠ b) ∧ ∀ p ∈ X.pn ++ pins, p.1 ≠ b)
    (keep : ∀ b o, b ≠ X.env.locals → b ∉ X.fs → b ∉ ch → s.heap.get? b = some o → H b = none → h'.get? b = some o)
    (slot : ∀ b o, b ≠ X.env.locals → b ∈ X.fs → b ∉ ch → s.heap.get? b = some o → H b = none → ∃ sl, h'.get? b = some { o with slots := sl }) (free : ∀ b o, b ∉ ch → s.heap.get? b = some o → H b = none → H' b = none)
    (there : ∀ b o, b ∉ ch → s.heap.get? b = some o → ∃ o', h'.get? b = some o')
    (tups : ∀ b xs, H b = some (.tup xs) → H' b = some (.tup xs)) (frzs : ∀ b o u, H b = some (.frz o u) → H' b = some (.frz o u)) (tbls : ∀ b ps, H b = some (.tbl ps) → ∃ more, H' b = some (.tbl (ps ++ more)))
    (ns : ∀ m, s.heap.Ns X.env.locals m → h'.Ns X.env.locals m) (hok : HOk X.prog X.w H' h') (hg : AllBare g') :
    Inv X pins σ H' { s with heap := h', gens := g', drawn := d', toks := t' } := by
  have neL : ∀ b o, X.s₀.heap.get? b = some o → b ≠ X.env.locals := fun b o e => Nat.ne_of_lt (Nat.lt_of_lt_of_le (Heap.lt_size e) I.ok.above)
  have neC : ∀ b o, X.s₀.heap.get? b = some o → b ∉ X.ex → b ∉ ch := fun b o e hx hb => by
    rcases (hch b hb).1 with z | z
    · exact hx z
    · exact absurd (Nat.lt_of_lt_of_le (Heap.lt_size e) z) (Nat.lt_irrefl _)
  have cellK : ∀ x c, X.env.cells.lookup x = some c → ∀ v, s.heap.IsCell c v → h'.IsCell c v := fun x c e v ⟨o, ho, hd⟩ => by
    have nch : c ∉ ch := fun z => (hch c z).2.2.1 x c e rfl
    by_cases hc : c ∈ X.fs
    · obtain ⟨sl, q⟩ := slot c o (I.cne x c e) hc nch ho (I.freeC x c e)
      exact ⟨_, q, hd⟩
    · exact ⟨o, keep c o (I.cne x c e) hc nch ho (I.freeC x c e), hd⟩
  refine ⟨I.ok, I.os, hg, ⟨fun b o e n hb hx => ?_, fun b o e n hb hx => ?_, fun b o e n hx => ?_, fun b o e hx => ?_, fun b xs e => tups b xs (I.base.tups b xs e), fun b o xs e => frzs b o xs (I.base.frzs b o xs e), fun b ps e => ?_⟩, ?_, fun x c e => ?_, ?_, fun x c e => ?_, fun p hp => ?_, hok, I.len⟩
  · exact keep b o (neL b o e) hb (neC b o e hx) (I.base.keep b o e n hb hx) (I.base.free b o e n hx)
  · obtain ⟨sl, e1⟩ := I.base.slot b o e n hb hx
    obtain ⟨sl', e2⟩ := slot b _ (neL b o e) hb (neC b o e hx) e1 (I.base.free b o e n hx)
    exact ⟨sl', e2⟩
  · obtain ⟨o', e1⟩ := I.base.there b o e hx
    exact free b o' (neC b o e hx) e1 (I.base.free b o e n hx)
  · obtain ⟨o', e1⟩ := I.base.there b o e hx
    exact there b o' (neC b o e hx) e1
  · obtain ⟨m1, e1⟩ := I.base.tbls b ps e
    obtain ⟨m2, e2⟩ := tbls b _ e1
    exact ⟨m1 ++ m2, by rw [e2, Array.append_assoc]⟩
  · obtain ⟨m, hn, hl⟩ := I.loc
    refine ⟨m, ns m hn, fun i x v e1 e2 e3 => ?_⟩
    obtain ⟨u, r, l⟩ := hl i x v e1 e2 e3
    refine ⟨u, r, ?_⟩
    rcases l with l | ⟨k, c, e, z⟩
    · exact .inl l
    · exact .inr ⟨k, c, e, cellK x c e _ z⟩
  · obtain ⟨v, z⟩ := I.cell x c e
    exact ⟨v, cellK x c e v z⟩
  · obtain ⟨m, ⟨o, _, _, ho, _⟩, _⟩ := I.loc
    exact free _ o (fun z => (hch _ z).2.1 rfl) ho I.free
  · obtain ⟨v, o, ho, hd⟩ := I.cell x c e
    exact free c o (fun z => (hch c z).2.2.1 x c e rfl) ho (I.freeC x c e)
  · obtain ⟨e, n, ne, nf, d⟩ := I.pin p hp
    have nch : p.1 ∉ ch := fun z => (hch p.1 z).2.2.2 p hp rfl
    exact ⟨keep p.1 p.2 ne nf nch e n, free p.1 p.2 nch e n, ne, nf, d⟩
/-- .. where the frame's own object is kept too -/
theorem Inv.un {t' : Nat} (I : Inv X pins σ H s) (u : Un X.fs [] H H' s.heap h') (hok : HOk X.prog X.w H' h') : Inv X pins σ H' { s with heap := h', toks := t' } := by
  obtain ⟨m, ⟨o, es, ep, ho, r⟩, _⟩ := id I.loc
  obtain ⟨sl, hL⟩ := u.any ho I.free (by simp)
  exact I.step (g' := s.gens) (d' := s.drawn) (ch := []) (fun _ z => nomatch z) (fun b o _ hb _ e n => u.keep b o e n hb (by simp)) (fun b o _ hb _ e n => u.slot b o e n hb (by simp)) (fun b o _ e n => u.free b o e n (by simp)) (fun b o _ e => u.there b o e (by simp)) u.tups u.frzs u.tbls (fun m' hm => by
    obtain ⟨o', es', ep', ho', r'⟩ := hm
    rw [ho] at ho'; cases ho'
    exact ⟨_, es', ep', hL, r'⟩) hok I.bare
/-- behind a call (or a comprehension's block): the slots of this frame may have changed too, the records at ch may have turned -/
theorem Inv.call {g' : Array GenState} {t' : Nat} {d' : Drawn} {ch : List Addr} (I : Inv X pins σ H s) (u : Un (frs X.stack) ch H H' s.heap h') (hok : HOk X.prog X.w H' h') (hg : AllBare g')
    (hch : ∀ b ∈ ch, (b ∈ X.ex ∨ X.s₀.heap.objs.size ≤ b) ∧ b ≠ X.env.locals ∧ (∀ x c, X.env.cells.lookup x = some c → c ≠ b) ∧ ∀ p ∈ X.pn ++ pins, p.1 ≠ b) :
    Inv X pins σ H' { s with heap := h', gens := g', drawn := d', toks := t' } := by
  obtain ⟨m, ⟨o, es, ep, ho, r⟩, _⟩ := id I.loc
  obtain ⟨sl, hL⟩ := u.any ho I.free fun z => (hch _ z).2.1 rfl
  exact I.step (ch := ch) hch (fun b o hL hb hc e n => u.keep b o e n (fun z => (List.mem_cons.mp (I.stkSub b z)).elim hL hb) hc) (fun b o _ _ hc e n => u.any e n hc) (fun b o hc e n => u.free b o e n hc) (fun b o hc e => u.there b o e hc) u.tups u.frzs u.tbls (fun m' hm => by
    obtain ⟨o', es', ep', ho', r'⟩ := hm
    rw [ho] at ho'; cases ho'
    exact ⟨_, es', ep', hL, r'⟩) hok hg
/-- an untracked record of ours (an iterator) has turned -/
theorem Inv.turned {t' : Nat} {it : Addr} (I : Inv X pins σ H s) (k : ∀ b o, b ≠ it → s.heap.get? b = some o → h'.get? b = some o) (hn : H it = none) (hL : it ≠ X.env.locals)
    (h1 : it ∈ X.ex ∨ X.s₀.heap.objs.size ≤ it) (h2 : ∀ x c, X.env.cells.lookup x = some c → c ≠ it) (h3 : ∀ p ∈ X.pn ++ pins, p.1 ≠ it) : Inv X pins σ H { s with heap := h', toks := t' } := by
  have nit : ∀ b u, H b = some u → b ≠ it := fun b u e z => by rw [z, hn] at e; cases e
  refine I.step (g' := s.gens) (d' := s.drawn) (ch := [it]) (fun b hb => ?_) (fun b o _ _ hc e _ => k b o (fun z => hc (by simp [z])) e) (fun b o _ _ hc e _ => ⟨o.slots, k b o (fun z => hc (by simp [z])) e⟩) (fun _ _ _ _ n => n)
    (fun b o hc e => ⟨o, k b o (fun z => hc (by simp [z])) e⟩) (fun _ _ e => e) (fun _ _ _ e => e) (fun b ps e => ⟨#[], by rw [e]; simp⟩) (fun m hm => ?_) (fun b u e => ?_) I.bare
  · have e : b = it := by simpa using hb
    subst e
    exact ⟨h1, hL, h2, h3⟩
  · obtain ⟨o, es, ep, ho, r⟩ := hm
    exact ⟨o, es, ep, k _ o (Ne.symm hL) ho, r⟩
  · refine (I.hok b u e).stay (fun c v hc q => k c v ?_ q) (fun _ q => q) fun _ _ q => q
    rcases hc with z | z
    · rw [z]; exact nit b u e
    · exact nit c _ z
theorem Inv.tok (I : Inv X pins σ H s) (t : Nat) : Inv X pins σ H { s with toks := t } := I.un (h' := s.heap) (t' := t) Un.refl I.hok
/-- all objects kept -/
theorem Inv.kept {t' : Nat} (I : Inv X pins σ H s) (k : ∀ b u, s.heap.get? b = some u → h'.get? b = some u) : Inv X pins σ H { s with heap := h', toks := t' } := I.un (Un.kept k) (I.hok.kept k)
/-- a new object laid and tracked -/
theorem Inv.laid {a : Addr} {o : HO} {t' : Nat} (I : Inv X pins σ H s) (k : ∀ b u, s.heap.get? b = some u → h'.get? b = some u) (hp : s.heap.objs.size ≤ a) (new : ObjOk X.prog X.w (upd H a o) h' a o) :
    Inv X pins σ (upd H a o) { s with heap := h', toks := t' } := I.un (Un.laid k hp (I.hok.fresh hp)) (I.hok.laid k hp new)
/-- an object written -/
theorem Inv.write {x e : Addr} {o : HO} {t' : Nat} (I : Inv X pins σ H s) (mu : Mut (H x)) (he : e = x ∨ H e = some (.own x)) (k : ∀ b u, b ≠ e → s.heap.get? b = some u → h'.get? b = some u) (heo : ∃ u, h'.get? e = some u)
    (new : ObjOk X.prog X.w (upd H x o) h' x o) : Inv X pins σ (upd H x o) { s with heap := h', toks := t' } := I.un (Un.write mu he k heo) (I.hok.write mu he k heo new)
theorem Inv.pins_of {pins' : List (Addr × Obj)} (I : Inv X pins σ H s) (h : ∀ p ∈ pins', s.heap.get? p.1 = some p.2 ∧ H p.1 = none ∧ p.1 ≠ X.env.locals ∧ p.1 ∉ X.fs ∧ ∀ v, p.2.data ≠ .cell v) : Inv X pins' σ H s :=
  ⟨I.ok, I.os, I.bare, I.base, I.loc, I.cell, I.free, I.freeC, fun p hp => (List.mem_append.mp hp).elim (fun z => I.pin p (List.mem_append_left _ z)) (h p), I.hok, I.len⟩

theorem nodup_ix {N : List Str} (hN : N.Nodup) {i j : Nat} {x : Str} (a : N[i]? = some x) (b : N[j]? = some x) : i = j := by
  obtain ⟨h1, e1⟩ := List.getElem?_eq_some_iff.mp a
  obtain ⟨h2, e2⟩ := List.getElem?_eq_some_iff.mp b
  exact (List.getElem_inj hN).mp (e1.trans e2.symm)

/-- a name is stored; what changed -/
theorem store_ok2 {M : Model} {A : Around} {E : Value → Shared → Prop} {i : Nat} {x : Str} {v : V} {u : Value} {Q : Unit → Shared → Prop} (I : Inv X pins σ H s) (hN : X.N.Nodup) (hi : X.N[i]? = some x) (hx : Loc X.env.scope x) (r : RelV v u)
    (h : ∀ s', Inv X pins (σ.set i (some v)) H s' → (∃ a, Heap.SameBut a s.heap s'.heap ∧ (a = X.env.locals ∨ X.env.cells.lookup x = some a)) → Q () s') (hf : X.fn x = true ∨ X.env.scope.names.lookup x = some .local := by first | exact .inl rfl | exact .inr rfl | assumption) : wpAny M A (storeName X.env x u) Q E s := by
  obtain ⟨m, hn, hl⟩ := id I.loc
  have hcls : (X.env.scope.kind == .class || (X.env.scope.kind == .module && X.env.locals != X.env.globals)) = false := by rw [I.ok.kind]; rfl
  have hiσ : i < σ.length := by rw [I.len]; exact (List.getElem?_eq_some_iff.mp hi).1
  have cne := I.cne
  have tracked : ∀ {a : Addr} {h' : Heap}, (∃ o, s.heap.get? a = some o ∧ H a = none) → Heap.SameBut a s.heap h' → HOk X.prog X.w H h' := fun {a h'} ha hs b ob e => by
    obtain ⟨_, _, hfree⟩ := ha
    refine (I.hok b ob e).stay (fun c w' hc q => (hs.2 c ?_).trans q) (fun _ q => q) fun _ _ q => q
    rintro rfl
    rcases hc with rfl | hc
    · rw [hfree] at e; cases e
    · rw [hfree] at hc; cases hc
  rcases hx with hk | hk
  · refine wpAny_storeName_local hk hn (fun h' hn' hs => ?_) hcls
    obtain ⟨oL, _, _, hoL, _⟩ := id hn
    refine h _ ⟨I.ok, I.os, I.bare, ⟨fun b o e n hb hx => ?_, fun b o e n hb hx => ?_, I.base.free, fun b o e hx => ?_, I.base.tups, I.base.frzs, I.base.tbls⟩, ⟨_, hn', fun j y v' e1 e2 e3 => ?_⟩, fun y c e => ?_, I.free, I.freeC, fun p hp => ?_, tracked ⟨oL, hoL, I.free⟩ hs, by simpa using I.len⟩ ⟨_, hs, .inl rfl⟩
    · exact (hs.2 b (Nat.ne_of_lt (Nat.lt_of_lt_of_le (Heap.lt_size e) I.ok.above))).trans (I.base.keep b o e n hb hx)
    · obtain ⟨sl, e1⟩ := I.base.slot b o e n hb hx
      exact ⟨sl, (hs.2 b (Nat.ne_of_lt (Nat.lt_of_lt_of_le (Heap.lt_size e) I.ok.above))).trans e1⟩
    · obtain ⟨o', e1⟩ := I.base.there b o e hx
      exact ⟨o', (hs.2 b (Nat.ne_of_lt (Nat.lt_of_lt_of_le (Heap.lt_size e) I.ok.above))).trans e1⟩
    · by_cases hj : j = i
      · subst hj
        rw [hi] at e1; cases e1
        rw [List.getElem?_set_self hiσ] at e2
        cases e2
        exact ⟨u, r, .inl ⟨hk, by simp⟩⟩
      · rw [List.getElem?_set_ne (Ne.symm hj)] at e2
        obtain ⟨u', r', q⟩ := hl j y v' e1 e2 e3
        refine ⟨u', r', ?_⟩
        rcases q with ⟨k, e⟩ | ⟨k, c, e, z⟩
        · refine .inl ⟨k, ?_⟩
          have : y ≠ x := fun e => hj (nodup_ix hN e1 (e ▸ hi))
          simp [this, e]
        · exact .inr ⟨k, c, e, z.sameBut hs (cne y c e)⟩
    · obtain ⟨w', z⟩ := I.cell y c e
      exact ⟨w', z.sameBut hs (cne y c e)⟩
    · obtain ⟨e, n, ne, nf, d⟩ := I.pin p hp
      exact ⟨(hs.2 p.1 ne).trans e, n, ne, nf, d⟩
  · have hfn : X.fn x = true := by
      rcases hf with z | z
      · exact z
      · rw [z] at hk; cases hk
    obtain ⟨c, hc⟩ := I.ok.has x (.inl hk)
    obtain ⟨w', z⟩ := I.cell x c hc
    refine wpAny_storeName_cell I.ok.kind hk hc z (fun h' hc' hs => ?_)
    obtain ⟨oc, hoc, hocd⟩ := id z
    refine h { s with heap := h' } ⟨I.ok, I.os, I.bare, ⟨fun b o e n hb hx => ?_, fun b o e n hb hx => ?_, I.base.free, fun b o e hx => ?_, I.base.tups, I.base.frzs, I.base.tbls⟩, ⟨m, hn.sameBut hs (Ne.symm (cne x c hc)), fun j y v' e1 e2 e3 => ?_⟩, fun y c' e => ?_, I.free, I.freeC, fun p hp => ?_, tracked ⟨oc, hoc, I.freeC x c hc⟩ hs, by simpa using I.len⟩ ⟨c, hs, .inr hc⟩
    · exact (hs.2 b (Nat.ne_of_lt (Nat.lt_of_lt_of_le (Heap.lt_size e) (I.ok.cab x c hfn hc)))).trans (I.base.keep b o e n hb hx)
    · obtain ⟨sl, e1⟩ := I.base.slot b o e n hb hx
      exact ⟨sl, (hs.2 b (Nat.ne_of_lt (Nat.lt_of_lt_of_le (Heap.lt_size e) (I.ok.cab x c hfn hc)))).trans e1⟩
    · obtain ⟨o', e1⟩ := I.base.there b o e hx
      exact ⟨o', (hs.2 b (Nat.ne_of_lt (Nat.lt_of_lt_of_le (Heap.lt_size e) (I.ok.cab x c hfn hc)))).trans e1⟩
    · by_cases hj : j = i
      · subst hj
        rw [hi] at e1; cases e1
        rw [List.getElem?_set_self hiσ] at e2
        cases e2
        exact ⟨u, r, .inr ⟨.inl hk, c, hc, hc'⟩⟩
      · rw [List.getElem?_set_ne (Ne.symm hj)] at e2
        obtain ⟨u', r', q⟩ := hl j y v' e1 e2 e3
        refine ⟨u', r', ?_⟩
        rcases q with q | ⟨k, c', e, z'⟩
        · exact .inl q
        · refine .inr ⟨k, c', e, z'.sameBut hs ?_⟩
          rintro rfl
          exact hj (nodup_ix hN e1 (I.ok.inj _ _ _ e hc ▸ hi))
    · by_cases hcc : c' = c
      · subst hcc; exact ⟨_, hc'⟩
      · obtain ⟨w2, z2⟩ := I.cell y c' e
        exact ⟨w2, z2.sameBut hs hcc⟩
    · obtain ⟨e, n, ne, nf, d⟩ := I.pin p hp
      refine ⟨(hs.2 p.1 ?_).trans e, n, ne, nf, d⟩
      intro q
      rw [q, hoc] at e
      have q' : oc = p.2 := Option.some.inj e
      exact d w' (by rw [← q']; exact hocd)
theorem store_ok {M : Model} {A : Around} {E : Value → Shared → Prop} {i : Nat} {x : Str} {v : V} {u : Value} {Q : Unit → Shared → Prop} (I : Inv X pins σ H s) (hN : X.N.Nodup) (hi : X.N[i]? = some x) (hx : Loc X.env.scope x) (r : RelV v u)
    (h : ∀ s', Inv X pins (σ.set i (some v)) H s' → Q () s') (hf : X.fn x = true ∨ X.env.scope.names.lookup x = some .local := by first | exact .inl rfl | exact .inr rfl | assumption) : wpAny M A (storeName X.env x u) Q E s :=
  store_ok2 I hN hi hx r (fun s' I' _ => h s' I') hf
/-- behind a call or a block, the state as it is -/
theorem Inv.call' {s' : Shared} {ch : List Addr} (I : Inv X pins σ H s) (ho : s'.os = s.os) (u : Un (frs X.stack) ch H H' s.heap s'.heap) (hok : HOk X.prog X.w H' s'.heap) (hg : AllBare s'.gens)
    (hch : ∀ b ∈ ch, (b ∈ X.ex ∨ X.s₀.heap.objs.size ≤ b) ∧ b ≠ X.env.locals ∧ (∀ x c, X.env.cells.lookup x = some c → c ≠ b) ∧ ∀ p ∈ X.pn ++ pins, p.1 ≠ b) : Inv X pins σ H' s' := by
  obtain ⟨h', g', d', t', o'⟩ := s'
  have e : o' = s.os := ho
  subst e
  exact I.call (g' := g') (t' := t') (d' := d') u hok hg hch
end

/-! ### the judgements -/
/-- an exception: its class, its own dict's address (where it has one), the abstract heap behind it -/
abbrev XK := Value → Option Addr → Hp → Prop
abbrev St := List (Option V)
abbrev VK := V → Hp → Prop
/-- an expression's reading; a test's; an argument list's -/
abbrev TE := St → Hp → VK → Prop
abbrev TT := St → Hp → (Bool → Hp → Prop) → Prop
abbrev TA := St → Hp → (List V → Hp → Prop) → Prop
/-- what is wanted behind a statement -/
structure Ends where
  nx : St → Hp → Prop
  rt : VK
  bk : St → Hp → Prop := fun _ _ => False
  ct : St → Hp → Prop := fun _ _ => False
abbrev TS := Ends → St → Hp → Prop

def EP (X : Cx) (pins : List (Addr × Obj)) (σ : St) (Q : VK) (u : Value) (s' : Shared) : Prop := ∃ v H', Inv X pins σ H' s' ∧ RelV v u ∧ Q v H'
def TP (X : Cx) (pins : List (Addr × Obj)) (σ : St) (Q : Bool → Hp → Prop) (b : Bool) (s' : Shared) : Prop := ∃ H', Inv X pins σ H' s' ∧ Q b H'
def AP (X : Cx) (pins : List (Addr × Obj)) (σ : St) (Q : List V → Hp → Prop) (us : List Value) (s' : Shared) : Prop := ∃ vs H', Inv X pins σ H' s' ∧ Vals vs us ∧ Q vs H'
def SP (X : Cx) (pins : List (Addr × Obj)) (D : Ends) (f : Flow) (s' : Shared) : Prop :=
  match f with
  | .next => ∃ σ' H', Inv X pins σ' H' s' ∧ D.nx σ' H'
  | .brk => ∃ σ' H', Inv X pins σ' H' s' ∧ D.bk σ' H'
  | .cont => ∃ σ' H', Inv X pins σ' H' s' ∧ D.ct σ' H'
  | .ret u => ∃ v σ' H', Inv X pins σ' H' s' ∧ RelV v u ∧ D.rt v H'

def PE (X : Cx) (e : Expr) (t : TE) : Prop :=
  ∀ (pins : List (Addr × Obj)) (s : Shared) (σ : St) (H : Hp) (Q : VK), Inv X pins σ H s → t σ H Q → wpAny (model X.prog X.w) X.A (eval e X.env) (EP X pins σ Q) X.xe s
def PT (X : Cx) (e : Expr) (t : TT) : Prop :=
  ∀ (pins : List (Addr × Obj)) (s : Shared) (σ : St) (H : Hp) (Q : Bool → Hp → Prop), Inv X pins σ H s → t σ H Q → wpAny (model X.prog X.w) X.A (isTrue e X.env (eval e X.env)) (TP X pins σ Q) X.xe s
/-- a test whatever its 'whole' is (and, or) -/
def PW (X : Cx) (e : Expr) (t : TT) : Prop :=
  ∀ (whole : Sem Value) (pins : List (Addr × Obj)) (s : Shared) (σ : St) (H : Hp) (Q : Bool → Hp → Prop), Inv X pins σ H s → t σ H Q → wpAny (model X.prog X.w) X.A (isTrue e X.env whole) (TP X pins σ Q) X.xe s
theorem PW.pt {X : Cx} {e : Expr} {t : TT} (h : PW X e t) : PT X e t := h _
/-- an argument list (no star), from the left -/
def PA (X : Cx) (es : List Expr) (t : TA) : Prop :=
  ∀ (pos : Pos) (pins : List (Addr × Obj)) (s : Shared) (σ : St) (H : Hp) (Q : List V → Hp → Prop), Inv X pins σ H s → t σ H Q → wpAny (model X.prog X.w) X.A (spliced (backTo pos (starEach es X.env))) (AP X pins σ Q) X.xe s
def PS (X : Cx) (st : Stmt) (t : TS) : Prop :=
  ∀ (pins : List (Addr × Obj)) (s : Shared) (σ : St) (H : Hp) (D : Ends), Inv X pins σ H s → t D σ H → wpAny (model X.prog X.w) X.A (exec st X.env) (SP X pins D) X.xe s
def PSs (X : Cx) (st : List Stmt) (t : TS) : Prop :=
  ∀ (pins : List (Addr × Obj)) (s : Shared) (σ : St) (H : Hp) (D : Ends), Inv X pins σ H s → t D σ H → wpAny (model X.prog X.w) X.A (execs st X.env) (SP X pins D) X.xe s
/-- weaken the end -/
theorem thn {α : Type} {t : Sem α} {Q Q' : α → Shared → Prop} {M : Model} {A : Around} {E : Value → Shared → Prop} {s : Shared} (h : wpAny M A t Q E s) (hQ : ∀ a s, Q a s → Q' a s) : wpAny M A t Q' E s := wpAny_mono h hQ fun _ _ x => x
end L2

namespace L2
open PySem PySem.Spec PyProof.Rows
section
variable {X : Cx}

/-! ### names and constants -/
def tVar (i : Nat) : TE := fun σ H Q => ∃ v, σ[i]? = some (some v) ∧ Q v H
def tC (v : V) : TE := fun _ H Q => Q v H
theorem pe_var {i : Nat} {x : Str} {pos : Pos} (hN : X.N[i]? = some x) (hv : Vis X.env.scope x) (hd : (x == ("__debug__" : Str)) = false := by decide) (hcd : (x == ("__classdict__" : Str)) = false := by decide) : PE X (.Name x pos) (tVar i) := by
  intro pins s σ H Q I h
  obtain ⟨v, e, h⟩ := h
  obtain ⟨m, hn, hl⟩ := I.loc
  obtain ⟨u, r, l⟩ := hl i x v hN e hv
  have fin : EP X pins σ Q u s := ⟨v, H, I, r, h⟩
  rcases l with ⟨hk, hm⟩ | ⟨hk, c, hc, hcell⟩
  · exact wpAny_Name (wpAny_loadName_local I.ok.kind hk hn hm fin) hd
  · rcases hk with hk | hk
    · exact wpAny_Name (wpAny_loadName_cell I.ok.kind hk hc hcell fin) hd
    · exact wpAny_Name (wpAny_loadName_free I.ok.kind hk hc hcell fin hcd) hd
theorem pe_int {i j pos} : PE X (.Constant (.int i) j pos) (tC (.int i)) := fun _ _ _ H _ I h => wpAny_Constant_int ⟨.int i, H, I.tok _, ⟨_, rfl⟩, h⟩
theorem pe_bl {b j pos} : PE X (.Constant (.bool b) j pos) (tC (.bl b)) := fun _ _ _ H _ I h => Constant_bool ⟨.bl b, H, I, rfl, h⟩
theorem pe_non {j pos} : PE X (.Constant .none j pos) (tC .non) := fun _ _ _ H _ I h => Constant_none ⟨.non, H, I, rfl, h⟩
theorem pe_str {x j pos} : PE X (.Constant (.str x) j pos) (tC (.str x)) := fun _ _ _ H _ I h => Calls.Constant_str ⟨.str x, H, I.tok _, ⟨_, rfl⟩, h⟩

/-- a global name of the def -/
def Gl (X : Cx) (x : Str) : Prop := X.env.kindOf x = some .globalImplicit
theorem ld_glob {E : Value → Shared → Prop} {pins : List (Addr × Obj)} {s : Shared} {σ : St} {H : Hp} {x : Str} {u : Value} {pos : Pos} {Q : Value → Shared → Prop} (I : Inv X pins σ H s) (hg : Gl X x) (hm : X.mg x = some u) (h : Q u s)
    (hd : (x == ("__debug__" : Str)) = false := by decide) : wpAny (model X.prog X.w) X.A (eval (.Name x pos) X.env) Q E s :=
  Calls.Name_function_global I.ok.kind hg (Calls.loadGlobal_global (by rw [I.ok.glob]; exact I.mod.glob.keeps I.bk) hm h) hd
theorem ld_blt {E : Value → Shared → Prop} {pins : List (Addr × Obj)} {s : Shared} {σ : St} {H : Hp} {x : Str} {u : Value} {pos : Pos} {Q : Value → Shared → Prop} (I : Inv X pins σ H s) (hg : Gl X x) (hm : X.mg x = none) (hv : bootBuiltins x = some u) (h : Q u s)
    (hn : x ≠ "__name__" := by decide) (hd : (x == ("__debug__" : Str)) = false := by decide) : wpAny (model X.prog X.w) X.A (eval (.Name x pos) X.env) Q E s := by
  obtain ⟨mb, h1, h2⟩ := I.mod.blt
  exact Calls.Name_function_global I.ok.kind hg (Calls.loadGlobal_builtin (by rw [I.ok.glob]; exact I.mod.glob.keeps I.bk) hm (by rw [I.ok.blt]; exact h1.keeps I.bk) ((h2 x hn).trans hv) h) hd
theorem pe_bltn {x : Str} {v : V} {u : Value} {pos : Pos} (hg : Gl X x) (hm : X.mg x = none) (hv : bootBuiltins x = some u) (r : RelV v u) (hn : x ≠ "__name__" := by decide) (hd : (x == ("__debug__" : Str)) = false := by decide) : PE X (.Name x pos) (tC v) :=
  fun _ _ _ H _ I h => ld_blt I hg hm hv ⟨v, H, I, r, h⟩ hn hd

/-! ### arithmetic -/
variable {a b : Expr} {ta tb : TE} {pos : Pos}
/-! ### comparisons -/
def PC (X : Cx) (op : CmpOp) (a b : Expr) (t : TE) : Prop :=
  ∀ (pins : List (Addr × Obj)) (s : Shared) (σ : St) (H : Hp) (Q : VK), Inv X pins σ H s → t σ H Q →
    wpAny (model X.prog X.w) X.A (eval a X.env) (fun v s₁ => wpAny (model X.prog X.w) X.A (eval b X.env) (fun u s₂ => wpAny (model X.prog X.w) X.A (compareOp op v u) (EP X pins σ Q) X.xe s₂) X.xe s₁) X.xe s
/-- a comparison as a value, as a test -/
def tB (t : TE) : TT := fun σ H Q => t σ H fun x H1 => ∃ c, x = .bl c ∧ Q c H1
theorem pt_cmp {op : CmpOp} {t : TE} (h : PC X op a b t) (h1 : behindInMarks op b = false := by first | exact nobehind _ (by decide) (by decide) | rfl) : PT X (.Compare a [op] [b] pos) (tB t) := by
  intro pins s σ H Q I hw
  refine wpAny_isTrue_Compare1 (thn (h pins s σ H _ I hw) fun v s1 h1 => thn h1 fun u s2 h2 => thn h2 fun c s3 ⟨x, H1, I1, r1, q1⟩ => ?_) h1
  obtain ⟨d, rfl, q⟩ := q1
  cases r1
  exact wpAny_truthy_bool ⟨H1, I1, q⟩
/-- an expression whose value is a bool, as a test -/
theorem pt_val {e : Expr} {t : TE} (h : PE X e t) (he : ∀ whole, isTrue e X.env whole = (do let v ← whole; standAt e.pos; holding [v] (truthy v)) := by intro _; rfl) : PT X e (tB t) := by
  intro pins s σ H Q I hw
  refine isTrue_plain (thn (h pins s σ H _ I hw) fun v s1 ⟨x, H1, I1, r1, q1⟩ => ?_) (he _)
  obtain ⟨d, rfl, q⟩ := q1
  cases r1
  exact wpAny_truthy_bool ⟨H1, I1, q⟩

/-! ### and, or, not -/
variable {tA tB' : TT} {rest : List Expr}
def tAnd (t u : TT) : TT := fun σ H Q => t σ H fun c H1 => if c = true then u σ H1 Q else Q false H1
def tOr (t u : TT) : TT := fun σ H Q => t σ H fun c H1 => if c = true then Q true H1 else u σ H1 Q
def tNot (t : TT) : TT := fun σ H Q => t σ H fun c H1 => Q (!c) H1
theorem pw_and1 (ha : PT X a tA) : PW X (.BoolOp .And [a] pos) tA := by
  intro wh pins s σ H Q I h
  refine isTrue_and (thn (ha pins s σ H Q I h) fun c s1 e => ?_)
  cases c with
  | true => exact isTrue_and_nil e
  | false => exact e
theorem pw_or1 (ha : PT X a tA) : PW X (.BoolOp .Or [a] pos) tA := by
  intro wh pins s σ H Q I h
  refine isTrue_or (thn (ha pins s σ H Q I h) fun c s1 e => ?_)
  cases c with
  | false => exact isTrue_or_nil e
  | true => exact e
theorem pw_and (ha : PT X a tA) (hb : PW X (.BoolOp .And (b :: rest) pos) tB') : PW X (.BoolOp .And (a :: b :: rest) pos) (tAnd tA tB') := by
  intro wh pins s σ H Q I h
  refine isTrue_and (thn (ha pins s σ H _ I h) fun c s1 ⟨H1, I1, q1⟩ => ?_)
  cases c with
  | true => exact hb wh pins s1 σ H1 Q I1 q1
  | false => exact ⟨H1, I1, q1⟩
theorem pw_or (ha : PT X a tA) (hb : PW X (.BoolOp .Or (b :: rest) pos) tB') : PW X (.BoolOp .Or (a :: b :: rest) pos) (tOr tA tB') := by
  intro wh pins s σ H Q I h
  refine isTrue_or (thn (ha pins s σ H _ I h) fun c s1 ⟨H1, I1, q1⟩ => ?_)
  cases c with
  | true => exact ⟨H1, I1, q1⟩
  | false => exact hb wh pins s1 σ H1 Q I1 q1
theorem pt_not (ha : PT X a tA) : PT X (.UnaryOp .Not a pos) (tNot tA) := by
  intro pins s σ H Q I h
  exact isTrue_not (ha pins s σ H (fun c H1 => Q (!c) H1) I h)
end
end L2

namespace L2
open PySem PySem.Spec PyProof.Rows

/-! ### a list, a tuple that is read: tracked, frozen, or an object of the module -/
def SqL (K : PySem.W.Frag) (H : Hp) (a : Addr) (xs : List V) : Prop :=
  Rd H a (.lst xs) ∨
    ∃ (o : Obj) (its : Array Value) (n : Nat), K.lookup a = some o ∧ o.cls = .type "list" ∧ o.dict = none ∧ o.data = .seq its n ∧ its.size ≤ sizeLine ∧ Vals xs its.toList
def SqT (K : PySem.W.Frag) (H : Hp) (a : Addr) (xs : List V) : Prop :=
  Rd H a (.tup xs) ∨
    ∃ (o : Obj) (its : Array Value) (n : Nat), K.lookup a = some o ∧ o.cls = .type "tuple" ∧ o.data = .seq its n ∧ its.size ≤ sizeLine ∧ Vals xs its.toList
def absV : Value → Option V
  | .none => some .non
  | .bool b => some (.bl b)
  | .int i _ => some (.int i)
  | .str x _ => some (.str x)
  | .bytes b _ => some (.byt b)
  | .float b _ => some (.flt b)
  | .ref a => some (.ref a)
  | .type n => some (.ty n)
  | _ => none
theorem RelV.abs {x : V} {u : Value} (r : RelV x u) : absV u = some x := by
  cases x with
  | non => cases r; rfl
  | bl _ => cases r; rfl
  | int _ => obtain ⟨t, rfl⟩ := r; rfl
  | str _ => obtain ⟨t, rfl⟩ := r; rfl
  | byt _ => obtain ⟨t, rfl⟩ := r; rfl
  | flt _ => obtain ⟨t, rfl⟩ := r; rfl
  | ref _ => cases r; rfl
  | ty _ => cases r; rfl
theorem RelV.inj {x y : V} {u : Value} (r : RelV x u) (q : RelV y u) : x = y := Option.some.inj (r.abs.symm.trans q.abs)
theorem Vals.inj : ∀ {xs ys : List V} {us : List Value}, Vals xs us → Vals ys us → xs = ys
  | _, _, _, .nil, .nil => rfl
  | _, _, _, .cons r t, .cons r' t' => by rw [r.inj r', Vals.inj t t']
section
variable {X : Cx} {pins : List (Addr × Obj)} {σ : St} {H : Hp} {s : Shared} {a : Addr} {xs ys : List V}
theorem SqL.of {K : PySem.W.Frag} (h : H a = some (.lst xs)) : SqL K H a xs := .inl (.inl h)
theorem SqT.of {K : PySem.W.Frag} (h : H a = some (.tup xs)) : SqT K H a xs := .inl (.inl h)
theorem Inv.list (I : Inv X pins σ H s) (h : SqL X.K H a xs) : ∃ its : List Value, Vals xs its ∧ PlainL s.heap a its.toArray ∧ xs.length ≤ sizeLine := by
  rcases h with h | ⟨o, its, n, hk, hc, hd, hs, hz, r⟩
  · obtain ⟨z, its, n, r, e⟩ := h.ok I.hok
    exact ⟨its, r, ⟨_, n, e, rfl, rfl, rfl⟩, z⟩
  · refine ⟨its.toList, r, ⟨o, n, I.kIn a o hk, hc, hd, by simpa using hs⟩, ?_⟩
    have e := r.length
    simp only [Array.length_toList] at e
    omega
theorem Inv.tuple (I : Inv X pins σ H s) (h : SqT X.K H a xs) : ∃ its : List Value, Vals xs its ∧ IsTup s.heap a its.toArray ∧ xs.length ≤ sizeLine := by
  rcases h with h | ⟨o, its, n, hk, hc, hs, hz, r⟩
  · obtain ⟨z, its, r, p⟩ := h.ok I.hok
    exact ⟨its, r, p, z⟩
  · refine ⟨its.toList, r, ⟨o, I.kIn a o hk, hc, n, by simpa using hs⟩, ?_⟩
    have e := r.length
    simp only [Array.length_toList] at e
    omega
theorem Inv.list_inj (I : Inv X pins σ H s) (h : SqL X.K H a xs) (h' : SqL X.K H a ys) : xs = ys := by
  obtain ⟨its, r, ⟨o, n, e, _, _, d⟩, _⟩ := I.list h
  obtain ⟨its', r', ⟨o', n', e', _, _, d'⟩, _⟩ := I.list h'
  rw [e] at e'; cases e'
  rw [d] at d'
  injection d' with d1 _
  have : its = its' := by simpa using congrArg Array.toList d1
  subst this
  exact r.inj r'
end

/-! ### another wish about exceptions -/
abbrev Cx.wish (X : Cx) (E : Value → Shared → Prop) : Cx := { X with xe := E }
/-- no exception leaves -/
abbrev Cx.nox (X : Cx) : Cx := X.wish fun _ _ => False
theorem Cx.Ok.wish {X : Cx} (ok : X.Ok) (E : Value → Shared → Prop) : (X.wish E).Ok :=
  ⟨ok.mod, ok.kind, ok.glob, ok.blt, ok.above, ok.inj, ok.has, ok.cab, ok.hd, ok.frames, ok.stk, ok.exf, ok.bs, ok.bsz, ok.noex, ok.exfs, ok.funs, ok.frf⟩
theorem Cx.Ok.unwish {X : Cx} {E : Value → Shared → Prop} (ok : (X.wish E).Ok) : X.Ok :=
  ⟨ok.mod, ok.kind, ok.glob, ok.blt, ok.above, ok.inj, ok.has, ok.cab, ok.hd, ok.frames, ok.stk, ok.exf, ok.bs, ok.bsz, ok.noex, ok.exfs, ok.funs, ok.frf⟩
section
variable {X : Cx} {pins : List (Addr × Obj)} {σ : St} {H : Hp} {s : Shared} {E : Value → Shared → Prop}
theorem Inv.wish (I : Inv X pins σ H s) (E : Value → Shared → Prop) : Inv (X.wish E) pins σ H s := ⟨I.ok.wish E, I.os, I.bare, I.base, I.loc, I.cell, I.free, I.freeC, I.pin, I.hok, I.len⟩
theorem Inv.unwish (I : Inv (X.wish E) pins σ H s) : Inv X pins σ H s := ⟨I.ok.unwish, I.os, I.bare, I.base, I.loc, I.cell, I.free, I.freeC, I.pin, I.hok, I.len⟩
theorem SP.unwish {D : Ends} {f : Flow} {s' : Shared} (h : SP (X.wish E) pins D f s') : SP X pins D f s' := by
  cases f with
  | next => obtain ⟨σ', H', I, q⟩ := h; exact ⟨σ', H', I.unwish, q⟩
  | brk => obtain ⟨σ', H', I, q⟩ := h; exact ⟨σ', H', I.unwish, q⟩
  | cont => obtain ⟨σ', H', I, q⟩ := h; exact ⟨σ', H', I.unwish, q⟩
  | ret u => obtain ⟨v, σ', H', I, r, q⟩ := h; exact ⟨v, σ', H', I.unwish, r, q⟩
theorem PSs.nox {st : List Stmt} {t : TS} (h : PSs X.nox st t) : PSs X st t := fun pins s σ H D I hw =>
  wpAny_mono (h pins s σ H D (I.wish _) hw) (fun _ _ q => q.unwish) fun _ _ z => False.elim z
end

/-! ### blocks and small statements -/
section
variable {X : Cx} {st : Stmt} {rest : List Stmt} {t u : TS} {e : Expr} {te : TE} {pos : Pos}
def tNext : TS := fun D σ H => D.nx σ H
def tSeq (t u : TS) : TS := fun D σ H => t { D with nx := u D } σ H
theorem pss_nil : PSs X [] tNext := fun _ _ σ H _ I h => wpAny_execs_nil ⟨σ, H, I, h⟩
theorem pss_cons (h1 : PS X st t) (h2 : PSs X rest u) : PSs X (st :: rest) (tSeq t u) := by
  intro pins s σ H D I h
  refine wpAny_execs_cons (thn (h1 pins s σ H { D with nx := u D } I h) fun f s1 q => ?_)
  cases f with
  | next =>
    obtain ⟨σ', H', I', q⟩ := q
    exact h2 pins s1 σ' H' D I' q
  | ret v => exact q
  | brk => exact q
  | cont => exact q
theorem pss_one (h1 : PS X st t) : PSs X [st] t := by
  intro pins s σ H D I h
  refine wpAny_execs_cons (thn (h1 pins s σ H D I h) fun f s1 q => ?_)
  cases f with
  | next => exact wpAny_execs_nil q
  | ret v => exact q
  | brk => exact q
  | cont => exact q
/-- in a def's body nothing is shown -/
theorem Inv.quiet {pins : List (Addr × Obj)} {σ : St} {H : Hp} {s : Shared} (I : Inv X pins σ H s) : interactive X.env = false := by simp [interactive, I.ok.kind]
/-- an expression whose value is dropped -/
def tDrop (te : TE) : TS := fun D σ H => te σ H fun _ H1 => D.nx σ H1
theorem ps_expr (he : PE X e te) (hs : swapsWith e none pos.line X.env = pure false := by rfl) : PS X (.Expr e pos) (tDrop te) := by
  intro pins s σ H D I h
  exact wpAny_Expr_any (thn (he pins s σ H _ I h) fun v s1 ⟨x, H1, I1, r1, q1⟩ => ⟨σ, H1, I1, q1⟩) I.quiet hs
def tRet (te : TE) : TS := fun D σ H => te σ H D.rt
theorem ps_ret (he : PE X e te) : PS X (.Return (some e) pos) (tRet te) := by
  intro pins s σ H D I h
  exact wpAny_Return_some (thn (he pins s σ H _ I h) fun v s1 ⟨x, H1, I1, r1, q1⟩ => ⟨x, σ, H1, I1, r1, q1⟩)
def tIfS (c : TT) (t u : TS) : TS := fun D σ H => c σ H fun b H1 => if b = true then t D σ H1 else u D σ H1
theorem ps_if {c : Expr} {a b : List Stmt} {tc : TT} (hc : PT X c tc) (ha : PSs X a t) (hb : PSs X b u) : PS X (.If c a b pos) (tIfS tc t u) := by
  intro pins s σ H D I h
  refine wpAny_If (thn (hc pins s σ H _ I h) fun d s1 ⟨H1, I1, q1⟩ => ?_)
  cases d with
  | true => exact ha pins s1 σ H1 D I1 q1
  | false => exact hb pins s1 σ H1 D I1 q1
end

/-! ### targets -/
abbrev TG := V → St → Hp → (St → Hp → Prop) → Prop
abbrev TGs := List V → St → Hp → (St → Hp → Prop) → Prop
def PG (X : Cx) (target : Expr) (t : TG) : Prop :=
  ∀ (pins : List (Addr × Obj)) (s : Shared) (σ : St) (H : Hp) (v : V) (u : Value) (Q : St → Hp → Prop), Inv X pins σ H s → RelV v u → t v σ H Q →
    wpAny (model X.prog X.w) X.A (assign target X.env u) (fun _ s' => ∃ σ' H', Inv X pins σ' H' s' ∧ Q σ' H') X.xe s
/-- several targets, one after another -/
def PGs (X : Cx) (ts : List Expr) (t : TGs) : Prop :=
  ∀ (pins : List (Addr × Obj)) (s : Shared) (σ : St) (H : Hp) (vs : List V) (us : List Value) (Q : St → Hp → Prop), Inv X pins σ H s → Vals vs us → t vs σ H Q →
    wpAny (model X.prog X.w) X.A (assignInOrder ((assignEach ts X.env).map (·.2)) us) (fun _ s' => ∃ σ' H', Inv X pins σ' H' s' ∧ Q σ' H') X.xe s
section
variable {X : Cx} {pos : Pos}
def gName (i : Nat) : TG := fun v σ H Q => Q (σ.set i (some v)) H
theorem pg_name {i : Nat} {x : Str} (hN : X.N.Nodup) (hi : X.N[i]? = some x) (hx : Loc X.env.scope x) (hf : X.fn x = true ∨ X.env.scope.names.lookup x = some .local := by first | exact .inl rfl | exact .inr rfl | assumption) : PG X (.Name x pos) (gName i) := by
  intro pins s σ H v u Q I r h
  exact wpAny_assign_Name (store_ok I hN hi hx r (fun s' I' => ⟨_, H, I', h⟩) hf)
def gNil : TGs := fun vs σ H Q => vs = [] ∧ Q σ H
def gCons (t : TG) (u : TGs) : TGs := fun vs σ H Q => ∃ v r, vs = v :: r ∧ t v σ H fun σ' H' => u r σ' H' Q
theorem pgs_nil : PGs X [] gNil := by
  intro pins s σ H vs us Q I r h
  obtain ⟨e, h⟩ := h
  subst e
  cases r
  exact assignInOrder_nil ⟨σ, H, I, h⟩
theorem pgs_cons {e : Expr} {es : List Expr} {t : TG} {u : TGs} (h1 : PG X e t) (h2 : PGs X es u)
    (hs : (assignEach (e :: es) X.env).map (·.2) = assign e X.env :: (assignEach es X.env).map (·.2) := by rfl) : PGs X (e :: es) (gCons t u) := by
  intro pins s σ H vs us Q I r h
  obtain ⟨v, vr, e1, h⟩ := h
  subst e1
  cases r with
  | cons r rr =>
    rw [hs]
    refine assignInOrder_cons (thn (h1 pins s σ H _ _ _ I r h) fun _ s1 ⟨σ1, H1, I1, q1⟩ => ?_)
    exact h2 pins s1 σ1 H1 _ _ Q I1 rr q1
/-- (a, b, ..) = a tuple of that length -/
def gTup (K : PySem.W.Frag) (n : Nat) (t : TGs) : TG := fun v σ H Q => ∃ a xs, v = .ref a ∧ SqT K H a xs ∧ xs.length = n ∧ t xs σ H Q
theorem pg_tup {es : List Expr} {k : Nat} {t : TGs} {n : Nat} (hc : X.calm = true) (h : PGs X es t)
    (hn : (assignEach es X.env).length = n := by rfl) (hst : (assignEach es X.env).findIdx? (·.1) = none := by rfl) : PG X (.Tuple es k pos) (gTup X.K n t) := by
  intro pins s σ H v u Q I r hw
  obtain ⟨a, xs, e1, hq, hl, hw⟩ := hw
  subst e1
  cases r
  obtain ⟨its, rv, ht, hz⟩ := I.tuple hq
  refine assign_Tuple_tuple (I.ok.hd hc) ht (by simp [hn, ← hl, rv.length]) hst fun h' hx => ?_
  have I1 : Inv X pins σ H { s with heap := h' } := I.kept (t' := s.toks) fun b o e => hx b o (Nat.ne_of_lt (Heap.lt_size e)) e
  exact h pins _ σ H xs _ Q I1 (by simpa using rv) hw
/-- target = value -/
def tAsg (te : TE) (g : TG) : TS := fun D σ H => te σ H fun x H1 => g x σ H1 D.nx
theorem ps_asg {tg e : Expr} {te : TE} {g : TG} (he : PE X e te) (hg : PG X tg g) (hs : swapsWithSole [tg] e pos.line X.env = pure false := by rfl) (hw : swappedStores [tg] e X.env = pure none := by rfl)
    (h1 : (assignEach [tg] X.env).map (·.2) = [assign tg X.env] := by rfl) : PS X (.Assign [tg] e pos) (tAsg te g) := by
  intro pins s σ H D I h
  refine wpAny_Assign_stores (thn (he pins s σ H _ I h) fun v s1 ⟨x, H1, I1, r1, q1⟩ => ?_) hs hw
  rw [h1]
  exact thn (hg pins s1 σ H1 x v _ I1 r1 q1) fun _ s2 q => q
/-- name = value -/
theorem ps_set {i : Nat} {x : Str} {e : Expr} {te : TE} {pos' : Pos} (hN : X.N.Nodup) (hi : X.N[i]? = some x) (hx : Loc X.env.scope x) (he : PE X e te) (hs : swapsWith e (some (.Name x pos')) pos.line X.env = pure false := by rfl) (hf : X.fn x = true ∨ X.env.scope.names.lookup x = some .local := by first | exact .inl rfl | exact .inr rfl | assumption) :
    PS X (.Assign [.Name x pos'] e pos) (tAsg te (gName i)) := by
  intro pins s σ H D I h
  refine wpAny_Assign_Name (thn (he pins s σ H _ I h) fun v s1 ⟨y, H1, I1, r1, q1⟩ => ?_) hs
  exact store_ok I1 hN hi hx r1 (fun s2 I2 => ⟨_, H1, I2, q1⟩) hf
end

/-! ### while -/
section
variable {X : Cx} {pos : Pos}
/-- the invariant W with its measure -/
def tWhile (c : TT) (tb : TS) : TS := fun D σ H => ∃ W : Nat → St → Hp → Prop, (∃ m, W m σ H) ∧ ∀ m σ H, W m σ H →
  c σ H fun b H1 => if b = true then ∃ N : St → Hp → Prop, (∀ σ' H', N σ' H' → ∃ m', m' < m ∧ W m' σ' H') ∧ tb { D with nx := N, ct := N, bk := D.nx } σ H1 else D.nx σ H1
theorem ps_while {c : Expr} {body : List Stmt} {tc : TT} {tb : TS} (hp : PassesOwn (model X.prog X.w) X.A X.env X.xe) (hc : PT X c tc) (hb : PSs X body tb) : PS X (.While c body [] pos) (tWhile tc tb) := by
  intro pins s σ H D I h
  obtain ⟨W, ⟨m0, w0⟩, turn⟩ := h
  refine wpAny_While (codeAny_whileLoop (fun n s' => ∃ σ' H', Inv X pins σ' H' s' ∧ W n σ' H') ?_ m0 ⟨σ, H, I, w0⟩)
  rintro n s1 ⟨σ1, H1, I1, w1⟩
  refine wpAny_passesOwn hp (thn (hc pins s1 σ1 H1 _ I1 (turn n σ1 H1 w1)) fun b s2 ⟨H2, I2, q2⟩ => ?_)
  cases b with
  | true =>
    obtain ⟨N, hN, q2⟩ := q2
    rw [if_pos rfl]
    refine wpAny_passesOwn hp (thn (hb pins s2 σ1 H2 _ I2 q2) fun f s3 q3 => ?_)
    cases f with
    | next =>
      obtain ⟨σ3, H3, I3, n3⟩ := q3
      obtain ⟨m', hm, w3⟩ := hN σ3 H3 n3
      exact ⟨m', hm, σ3, H3, I3, w3⟩
    | cont =>
      obtain ⟨σ3, H3, I3, n3⟩ := q3
      obtain ⟨m', hm, w3⟩ := hN σ3 H3 n3
      exact ⟨m', hm, σ3, H3, I3, w3⟩
    | brk => exact q3
    | ret v => exact q3
  | false =>
    rw [if_neg Bool.false_ne_true]
    exact wpAny_execs_nil ⟨σ1, H2, I2, q2⟩
end

/-! ### what a loop or a comprehension walks -/
/-- at turn i: it yields x (the heap may grow), or it stops -/
structure It where
  go : Nat → Hp → Prop
  yld : Nat → Hp → V → Hp → Prop
  stop : Nat → Hp → Prop
/-- the iterator's own objects may turn: they are not the frame's, not pinned, younger than the entry (or a comprehension's own) -/
def FpOk (X : Cx) (pins : List (Addr × Obj)) (H : Hp) (b : Addr) : Prop :=
  H b = none ∧ b ≠ X.env.locals ∧ b ∉ X.fs ∧ (b ∈ X.ex ∨ X.s₀.heap.objs.size ≤ b) ∧ (∀ x c, X.env.cells.lookup x = some c → c ≠ b) ∧ ∀ p ∈ X.pn ++ pins, p.1 ≠ b
theorem Inv.fpOk {X : Cx} {pins : List (Addr × Obj)} {σ : St} {H H' : Hp} {s : Shared} {b : Addr} (I : Inv X pins σ H s) (hb : s.heap.objs.size ≤ b) (hn : H' b = none) : FpOk X pins H' b := by
  refine ⟨hn, Nat.ne_of_gt (Nat.lt_of_lt_of_le I.lt hb), I.nofs hb, .inr (Nat.le_trans I.sz hb), fun x c e z => ?_, fun p hp z => ?_⟩
  · obtain ⟨v, q⟩ := I.cell x c e
    exact absurd (Nat.lt_of_lt_of_le q.lt (by rw [z]; exact hb)) (Nat.lt_irrefl _)
  · exact absurd (Nat.lt_of_lt_of_le (Heap.lt_size (I.pin p hp).1) (by rw [z]; exact hb)) (Nat.lt_irrefl _)
structure Turn (P : Program) (w : World) (K : PySem.W.Frag) (tg : Expr) (J : It) (fp : List Addr) (it : Addr) (tn : Nat → Heap → Prop) : Prop where
  mem : it ∈ fp
  obj : ∀ i h, tn i h → ∀ b ∈ fp, ∃ o, h.get? b = some o ∧ ∀ v, o.data ≠ .cell v
  keep : ∀ i h h', tn i h → (∀ b ∈ fp, ∀ o, h.get? b = some o → h'.get? b = some o) → tn i h'
  item : ∀ (X : Cx), X.prog = P → X.w = w → X.K = K → X.calm = true → ∀ (i : Nat) (pins : List (Addr × Obj)) (s : Shared) (σ : St) (H : Hp) (E : Value → Shared → Prop), Inv X pins σ H s → (∀ b ∈ fp, FpOk X pins H b) → tn i s.heap → J.go i H →
    wpAny (model P w) X.A (pyNext (.ref it)) (fun r s1 => ∃ u, r = some u ∧
      wpAny (model P w) X.A (letOwnedTupleGo tg (.ref it) u) (fun _ s2 => ∃ x H', Inv X pins σ H' s2 ∧ RelV x u ∧ J.yld i H x H' ∧ tn (i + 1) s2.heap ∧ ∀ b ∈ fp, H' b = none) E s1) E s
  done : ∀ (X : Cx), X.prog = P → X.w = w → X.K = K → X.calm = true → ∀ (i : Nat) (pins : List (Addr × Obj)) (s : Shared) (σ : St) (H : Hp) (E : Value → Shared → Prop), Inv X pins σ H s → (∀ b ∈ fp, FpOk X pins H b) → tn i s.heap → J.stop i H →
    wpAny (model P w) X.A (pyNext (.ref it)) (fun r s1 => r = none ∧ Inv X pins σ H s1) E s
  self : ∀ (A : Around) (i : Nat) (s : Shared) (Q : Value → Shared → Prop) (E : Value → Shared → Prop), tn i s.heap → Q (.ref it) s → wpAny (model P w) A (pyIter (.ref it)) Q E s
abbrev TI := St → Hp → (It → Hp → Prop) → Prop
/-- an iterator has come -/
def PIE (X : Cx) (pins : List (Addr × Obj)) (σ : St) (tg : Expr) (R : It → Hp → Prop) (itv : Value) (s2 : Shared) : Prop :=
  ∃ (it : Addr) (fp : List Addr) (tn : Nat → Heap → Prop) (J : It) (H' : Hp), itv = .ref it ∧ Inv X pins σ H' s2 ∧ Turn X.prog X.w X.K tg J fp it tn ∧ tn 0 s2.heap ∧ (∀ b ∈ fp, FpOk X pins H' b) ∧ R J H'
def PI (X : Cx) (tg iter : Expr) (wi : TI) : Prop :=
  ∀ (pins : List (Addr × Obj)) (s : Shared) (σ : St) (H : Hp) (R : It → Hp → Prop), Inv X pins σ H s → wi σ H R →
    wpAny (model X.prog X.w) X.A (eval iter X.env) (fun v s1 => wpAny (model X.prog X.w) X.A (pyIter v) (PIE X pins σ tg R) X.xe s1) X.xe s

/-- the step ahead of the store is nothing for an iterator that keeps no tuple -/
theorem go_of {M : Model} {A : Around} {E : Value → Shared → Prop} {s : Shared} {tg : Expr} {it : Addr} {u : Value} {o : Obj} {n : String} {vs : Array Value} {Q : Unit → Shared → Prop} (ho : s.heap.get? it = some o) (hc : o.cls = .type n) (hd : o.data = .fields vs)
    (hn : ["enumerate", "zip", "dict_itemiterator", "dict_reverseitemiterator", "odict_iterator", "itertools.zip_longest", "itertools.pairwise"].contains n = false) (hQ : Q () s) : wpAny M A (letOwnedTupleGo tg (.ref it) u) Q E s := by
  unfold letOwnedTupleGo
  cases tg <;> first
    | exact wpAny_pure hQ
    | (cases u <;> first
        | exact wpAny_pure hQ
        | (refine wpAny_bind (wpAny_load ho ?_)
           rw [hc, hd]
           show wpAny M A (if (["enumerate", "zip", "dict_itemiterator", "dict_reverseitemiterator", "odict_iterator", "itertools.zip_longest", "itertools.pairwise"].contains n && vs[0]? == some (rawInt _)) = true then _ else _) Q E s
           rw [if_neg (by intro h; rw [hn, Bool.false_and] at h; cases h)]
           exact wpAny_pure hQ))

/-- the list at a, as it stands at each turn (a loop may append to it) -/
def Itl (K : PySem.W.Frag) (a : Addr) : It :=
  ⟨fun i H => ∃ xs x, SqL K H a xs ∧ xs[i]? = some x, fun i H x H' => H' = H ∧ ∀ xs, SqL K H a xs → xs[i]? = some x, fun i H => ∃ xs, SqL K H a xs ∧ xs.length ≤ i⟩
/-- lo, lo + 1, .. (n of them) -/
def Itr (lo : Int) (n : Nat) : It := ⟨fun i _ => i < n, fun i H x H' => H' = H ∧ x = .int (lo + i), fun i _ => n ≤ i⟩
theorem turn_list {P : Program} {w : World} {K : PySem.W.Frag} {tg : Expr} (a it : Addr) : Turn P w K tg (Itl K a) [it] it (fun i h => h.IsListIter it a i) where
  mem := by simp
  obj := fun i h st b hb => by
    have e : b = it := by simpa using hb
    subst e
    obtain ⟨o, e, c, d⟩ := st
    exact ⟨o, e, fun v z => by rw [d] at z; cases z⟩
  keep := fun i h h' st k => st.at fun o e => k it (by simp) o e
  item := by
    intro X hP hw hK hc i pins s σ H E I hf st hg
    subst hP hw hK
    obtain ⟨xs, x, hq, hx⟩ := hg
    obtain ⟨its, rv, p, hz⟩ := I.list hq
    obtain ⟨u, hu, ru⟩ := rv.get hx
    obtain ⟨f0, f1, f2, f3, f4, f5⟩ := hf it (by simp)
    refine wpAny_pyNext_list_item st p.isList (x := u) (by simpa using hu) fun h' st' sb => ?_
    have I1 : Inv X pins σ H { s with heap := h' } := I.turned (t' := s.toks) (fun b o hb e => (sb.2 b hb).trans e) f0 f1 f3 f4 f5
    obtain ⟨o, e, c, d⟩ := id st'
    exact ⟨u, rfl, go_of (s := { s with heap := h' }) e c d (by decide) ⟨x, H, I1, ru, ⟨rfl, fun ys hy => by rw [I.list_inj hy hq]; exact hx⟩, st', fun b hb => (hf b hb).1⟩⟩
  done := by
    intro X hP hw hK hc i pins s σ H E I hf st hg
    subst hP hw hK
    obtain ⟨xs, hq, hx⟩ := hg
    obtain ⟨its, rv, p, hz⟩ := I.list hq
    obtain ⟨f0, f1, f2, f3, f4, f5⟩ := hf it (by simp)
    have hl := rv.length
    exact wpAny_pyNext_list_end (I.ok.hd hc) st p.isList (by simp; omega) fun h' eb => ⟨rfl, I.turned (t' := s.toks) (fun b o hb e => eb b o hb e) f0 f1 f3 f4 f5⟩
  self := fun _ _ _ _ _ st h => wpAny_pyIter_listiter st h
theorem turn_range {P : Program} {w : World} {K : PySem.W.Frag} {tg : Expr} (it : Addr) (lo : Int) (n : Nat) : Turn P w K tg (Itr lo n) [it] it (fun i h => IsRangeIter h it (lo + (i : Nat) * 1) ((n : Int) - (i : Nat)) 1) where
  mem := by simp
  obj := fun i h st b hb => by
    have e : b = it := by simpa using hb
    subst e
    exact ⟨_, st, fun v z => by
      have z' : Data.fields _ = Data.cell v := z
      cases z'⟩
  keep := fun i h h' st k => k it (by simp) _ st
  item := by
    intro X hP hw hK hc i pins s σ H E I hf st hg
    subst hP hw hK
    obtain ⟨f0, f1, f2, f3, f4, f5⟩ := hf it (by simp)
    have W := Walks.range (prog := X.prog) (w := X.w) (I.ok.hd hc) it lo 1 n
    refine W.item i s _ _ hg st fun v h' tk hv st' kk => ?_
    obtain ⟨t, rfl⟩ := hv
    have I1 : Inv X pins σ H { s with heap := h', toks := tk } := I.turned (fun b o hb e => kk b o (by simpa using hb) e) f0 f1 f3 f4 f5
    refine ⟨_, rfl, go_of (s := { s with heap := h', toks := tk }) (n := "range_iterator") st' rfl rfl (by decide) ⟨.int (lo + i), H, I1, ⟨t, ?_⟩, ⟨rfl, rfl⟩, st', fun b hb => (hf b hb).1⟩⟩
    rw [Int.mul_one]
  done := by
    intro X hP hw hK hc i pins s σ H E I hf st hg
    subst hP hw hK
    obtain ⟨f0, f1, f2, f3, f4, f5⟩ := hf it (by simp)
    exact wpAny_pyNext_range_end (I.ok.hd hc) st (by have : n ≤ i := hg; omega) fun h' eb => ⟨rfl, I.turned (t' := s.toks) (fun b o hb e => eb b o hb e) f0 f1 f3 f4 f5⟩
  self := fun _ _ _ _ _ st h => wpAny_pyIter_rangeiter st h
end L2

namespace L2
open PySem PySem.Spec PyProof.Rows
section
variable {X : Cx} {tg : Expr}
def iList (K : PySem.W.Frag) (tl : TE) : TI := fun σ H R => tl σ H fun x H1 => ∃ a, x = .ref a ∧ (∃ xs, SqL K H1 a xs) ∧ R (Itl K a) H1
theorem pi_list {l : Expr} {tl : TE} (hl : PE X l tl) : PI X tg l (iList X.K tl) := by
  intro pins s σ H R I h
  refine thn (hl pins s σ H _ I h) fun v s1 ⟨x, H1, I1, r1, q1⟩ => ?_
  obtain ⟨a, e, ⟨xs, hq⟩, q⟩ := q1
  subst e
  cases r1
  obtain ⟨its, rv, p, hz⟩ := I1.list hq
  refine wpAny_pyIter_list p.isList ?_
  refine ⟨s1.heap.objs.size, [s1.heap.objs.size], _, _, H1, rfl, I1.kept (t' := s1.toks) fun b o e => Heap.get?_push_of_some _ e, turn_list a _, ⟨_, Heap.get?_push_size _ rfl, rfl, rfl⟩, fun b hb => ?_, q⟩
  have e : b = s1.heap.objs.size := by simpa using hb
  subst e
  exact I1.fpOk (Nat.le_refl _) (I1.hok.fresh (Nat.le_refl _))
/-- a range object just made, walked -/
theorem range_it {pins : List (Addr × Obj)} {σ : St} {H : Hp} {s : Shared} {R : It → Hp → Prop} {E : Value → Shared → Prop} {lo hi : Int} {t u v : Tok} {tk : Nat} (I : Inv X pins σ H s) (h1 : -(2 ^ 62) ≤ lo) (h2 : lo < 2 ^ 62) (h3 : -(2 ^ 62) ≤ hi) (h4 : hi < 2 ^ 62)
    (q : R (Itr lo (hi - lo).toNat) H) : wpAny (model X.prog X.w) X.A (pyIter (.ref s.heap.objs.size)) (PIE X pins σ tg R) E { s with heap := s.heap.push { cls := .type "range", data := .fields #[.int lo t, .int hi u, .int 1 v] }, toks := tk } := by
  refine wpAny_pyIter_range (IsRange.new ..) (small_one h1 h2 h3 h4) ?_
  have I1 : Inv X pins σ H { s with heap := s.heap.push { cls := .type "range", data := .fields #[.int lo t, .int hi u, .int 1 v] }, toks := tk } := I.kept fun b o e => Heap.get?_push_of_some _ e
  refine ⟨(s.heap.push { cls := .type "range", data := .fields #[.int lo t, .int hi u, .int 1 v] }).objs.size, [(s.heap.push { cls := .type "range", data := .fields #[.int lo t, .int hi u, .int 1 v] }).objs.size], _, _, H, rfl,
    I1.kept (t' := tk) fun b o e => Heap.get?_push_of_some _ e, turn_range _ lo (hi - lo).toNat, ?_, fun b hb => ?_, q⟩
  · have e1 : lo + ((0 : Nat) : Int) * 1 = lo := by simp
    have e2 : (((hi - lo).toNat : Nat) : Int) - ((0 : Nat) : Int) = Builtin.Range.rangeSize lo hi 1 := by rw [rangeSize_one]; split <;> omega
    show IsRangeIter _ _ (lo + ((0 : Nat) : Int) * 1) ((((hi - lo).toNat : Nat) : Int) - ((0 : Nat) : Int)) 1
    rw [e1, e2]
    exact Heap.get?_push_size _ rfl
  · have e : b = (s.heap.push { cls := .type "range", data := .fields #[.int lo t, .int hi u, .int 1 v] }).objs.size := by simpa using hb
    subst e
    exact I1.fpOk (Nat.le_refl _) (I1.hok.fresh (Nat.le_refl _))
def iRng1 (ta : TA) : TI := fun σ H R => ta σ H fun vs H1 => ∃ j : Int, vs = [.int j] ∧ -(2 ^ 62) ≤ j ∧ j < 2 ^ 62 ∧ R (Itr 0 j.toNat) H1
theorem pi_range1 {a : Expr} {ta : TA} {p pos : Pos} (hg : Gl X "range") (hm : X.mg "range" = none) (ha : PA X [a] ta) (hs : starEach [a] X.env = [(false, eval a X.env)] := by rfl) : PI X tg (.Call (.Name "range" p) [a] [] pos) (iRng1 ta) := by
  intro pins s σ H R I h
  refine Call_ (ld_blt I hg hm boot_range (PyProof.Rows.callWith_type1 (thn (ha pos pins s σ H _ I h) fun us s1 ⟨vs, H1, I1, r1, q1⟩ => ?_) hs rfl))
  obtain ⟨j, e, q1, q2, q⟩ := q1
  subst e
  cases r1 with
  | cons r rr =>
    cases rr
    obtain ⟨t, rfl⟩ := r
    exact call_range_1 (range_it I1 (by omega) (by omega) q1 q2 (by simpa using q))
/-! ### for -/
/-- W: the invariant by the turn and a measure; N: what the body is to reach -/
def tFor (wi : TI) (g : TG) (tb : TS) : TS := fun D σ H => wi σ H fun J H1 => ∃ W : Nat → Nat → St → Hp → Prop, (∃ m, W 0 m σ H1) ∧ ∀ i m σ H, W i m σ H →
  (J.stop i H ∧ D.nx σ H) ∨ (J.go i H ∧ ∃ N : St → Hp → Prop, (∀ σ' H', N σ' H' → ∃ m', m' < m ∧ W (i + 1) m' σ' H') ∧ ∀ x H', J.yld i H x H' → g x σ H' fun σ2 H2 => tb { D with nx := N, ct := N, bk := D.nx } σ2 H2)
/-- the records at fp as they stand -/
def pinsAt (fp : List Addr) (h : Heap) : List (Addr × Obj) := fp.filterMap fun b => (h.get? b).map fun o => (b, o)
theorem mem_pinsAt {fp : List Addr} {h : Heap} {b : Addr} {o : Obj} (hb : b ∈ fp) (e : h.get? b = some o) : (b, o) ∈ pinsAt fp h := List.mem_filterMap.mpr ⟨b, hb, by rw [e]; rfl⟩
theorem of_pinsAt {fp : List Addr} {h : Heap} {p : Addr × Obj} (hp : p ∈ pinsAt fp h) : p.1 ∈ fp ∧ h.get? p.1 = some p.2 := by
  obtain ⟨b, hb, e⟩ := List.mem_filterMap.mp hp
  cases q : h.get? b with
  | none => rw [q] at e; cases e
  | some o =>
    rw [q] at e
    have e' : (b, o) = p := Option.some.inj e
    subst e'
    exact ⟨hb, q⟩
theorem Inv.pinned {pins : List (Addr × Obj)} {σ : St} {H : Hp} {s : Shared} {fp : List Addr} (I : Inv X pins σ H s) (hf : ∀ b ∈ fp, FpOk X pins H b) (ho : ∀ b ∈ fp, ∃ o, s.heap.get? b = some o ∧ ∀ v, o.data ≠ .cell v) : Inv X (pins ++ pinsAt fp s.heap) σ H s :=
  I.pins_of fun p hp => (List.mem_append.mp hp).elim (fun z => I.pin p (List.mem_append_right _ z)) fun z => by
    obtain ⟨hb, e⟩ := of_pinsAt z
    obtain ⟨f0, f1, f2, _⟩ := hf p.1 hb
    obtain ⟨o, e', d⟩ := ho p.1 hb
    rw [e] at e'; cases e'
    exact ⟨e, f0, f1, f2, d⟩
theorem Inv.unpinned {pins pl : List (Addr × Obj)} {σ : St} {H : Hp} {s : Shared} (I : Inv X (pins ++ pl) σ H s) : Inv X pins σ H s := I.pins_of fun p hp => I.pin p (List.mem_append_right _ (List.mem_append_left _ hp))
theorem ps_for {iter : Expr} {body : List Stmt} {wi : TI} {g : TG} {tb : TS} {pos : Pos} (hp : PassesOwn (model X.prog X.w) X.A X.env X.xe) (hc : X.calm = true) (hi : PI X tg iter wi) (hg : PG X tg g) (hb : PSs X body tb)
    (hs : ∀ x, foldedSetIterable iter X.env x = pure x := by intro _; rfl) : PS X (.For tg iter body [] pos) (tFor wi g tb) := by
  intro pins s σ H D I h
  refine wpAny_For (thn (hi pins s σ H _ I h) fun v s1 h1 => thn h1 fun itv s2 h2 => ?_) hs
  obtain ⟨it, fp, tn, J, H2, e, I2, T, st2, f2, W, ⟨m0, w0⟩, turn⟩ := h2
  subst e
  -- what stays true of the iterator's objects through the loop
  have stat : ∀ {H' : Hp}, (∀ b ∈ fp, H' b = none) → ∀ b ∈ fp, FpOk X pins H' b := fun hn b hb => ⟨hn b hb, (f2 b hb).2⟩
  refine codeAny_forLoop_any (fun n s' => ∃ i σ' H', Inv X pins σ' H' s' ∧ tn i s'.heap ∧ (∀ b ∈ fp, H' b = none) ∧ W i n σ' H') ?_ m0 ⟨0, σ, H2, I2, st2, fun b hb => (f2 b hb).1, w0⟩
  rintro n s3 ⟨i, σ3, H3, I3, st3, fr3, w3⟩
  rcases turn i n σ3 H3 w3 with ⟨stop, qn⟩ | ⟨go, N, hN, step⟩
  · refine wpAny_passesOwn hp (thn (T.done X rfl rfl rfl hc i pins s3 σ3 H3 X.xe I3 (stat fr3) st3 stop) fun r s4 ⟨hr, I4⟩ => ?_)
    subst hr
    exact wpAny_execs_nil ⟨σ3, H3, I4, qn⟩
  · refine wpAny_passesOwn hp (thn (T.item X rfl rfl rfl hc i pins s3 σ3 H3 X.xe I3 (stat fr3) st3 go) fun r s4 ⟨u, hr, h4⟩ => ?_)
    subst hr
    refine wpAny_passesOwn hp (thn h4 fun _ s5 ⟨x, H5, I5, r5, y5, st5, fr5⟩ => ?_)
    have I5' := I5.pinned (stat fr5) (T.obj _ _ st5)
    refine wpAny_passesOwn hp (thn (hg _ s5 σ3 H5 x u _ I5' r5 (step x H5 y5)) fun _ s6 ⟨σ6, H6, I6, q6⟩ => ?_)
    refine wpAny_passesOwn hp (thn (hb _ s6 σ6 H6 _ I6 q6) fun f s7 q7 => ?_)
    have again : ∀ {σ7 : St} {H7 : Hp}, Inv X (pins ++ pinsAt fp s5.heap) σ7 H7 s7 → N σ7 H7 → ∃ m, m < n ∧ ∃ i σ' H', Inv X pins σ' H' s7 ∧ tn i s7.heap ∧ (∀ b ∈ fp, H' b = none) ∧ W i m σ' H' := fun {σ7 H7} I7 n7 => by
      obtain ⟨m', hm, w7⟩ := hN σ7 H7 n7
      refine ⟨m', hm, i + 1, σ7, H7, I7.unpinned, T.keep _ _ _ st5 fun b hb o e => (I7.pin (b, o) (List.mem_append_right _ (List.mem_append_right _ (mem_pinsAt hb e)))).1, fun b hb => ?_, w7⟩
      obtain ⟨o, e, d⟩ := T.obj _ _ st5 b hb
      exact (I7.pin (b, o) (List.mem_append_right _ (List.mem_append_right _ (mem_pinsAt hb e)))).2.1
    cases f with
    | next => obtain ⟨σ7, H7, I7, n7⟩ := q7; exact again I7 n7
    | cont => obtain ⟨σ7, H7, I7, n7⟩ := q7; exact again I7 n7
    | brk => obtain ⟨σ7, H7, I7, q7⟩ := q7; exact ⟨σ7, H7, I7.unpinned, q7⟩
    | ret v => obtain ⟨x7, σ7, H7, I7, r7, q7⟩ := q7; exact ⟨x7, σ7, H7, I7.unpinned, r7, q7⟩
end

/-! ### the forms one uses -/
/-- over a list that the body leaves as it is -/
theorem for_list {K : PySem.W.Frag} {a : Addr} {xs : List V} {g : TG} {tb : TS} {D : Ends} {σ : St} {H : Hp} (Pv : Nat → St → Hp → Prop) (h0 : Pv 0 σ H) (hl : ∀ i σ H, i ≤ xs.length → Pv i σ H → SqL K H a xs)
    (hs : ∀ i x σ H, xs[i]? = some x → Pv i σ H → g x σ H fun σ2 H2 => tb { D with nx := Pv (i + 1), ct := Pv (i + 1), bk := D.nx } σ2 H2) (hd : ∀ σ H, Pv xs.length σ H → D.nx σ H) :
    ∃ W : Nat → Nat → St → Hp → Prop, (∃ m, W 0 m σ H) ∧ ∀ i m σ H, W i m σ H →
      ((Itl K a).stop i H ∧ D.nx σ H) ∨ ((Itl K a).go i H ∧ ∃ N : St → Hp → Prop, (∀ σ' H', N σ' H' → ∃ m', m' < m ∧ W (i + 1) m' σ' H') ∧ ∀ x H', (Itl K a).yld i H x H' → g x σ H' fun σ2 H2 => tb { D with nx := N, ct := N, bk := D.nx } σ2 H2) := by
  refine ⟨fun i m σ H => m = xs.length - i ∧ i ≤ xs.length ∧ Pv i σ H, ⟨xs.length, by simp, Nat.zero_le _, h0⟩, ?_⟩
  rintro i m σ H ⟨rfl, hi, p⟩
  have q := hl i σ H hi p
  by_cases hlt : i < xs.length
  · refine .inr ⟨⟨xs, xs[i], q, by simp [hlt]⟩, Pv (i + 1), fun σ' H' p' => ⟨xs.length - (i + 1), by omega, rfl, hlt, p'⟩, fun x H' y => ?_⟩
    obtain ⟨e, y⟩ := y
    subst e
    exact hs i x σ _ (y xs q) p
  · have e : i = xs.length := by omega
    subst e
    exact .inl ⟨⟨xs, q, Nat.le_refl _⟩, hd σ H p⟩
theorem for_range {lo : Int} {n : Nat} {g : TG} {tb : TS} {D : Ends} {σ : St} {H : Hp} (Pv : Nat → St → Hp → Prop) (h0 : Pv 0 σ H)
    (hs : ∀ i σ H, i < n → Pv i σ H → g (.int (lo + i)) σ H fun σ2 H2 => tb { D with nx := Pv (i + 1), ct := Pv (i + 1), bk := D.nx } σ2 H2) (hd : ∀ σ H, Pv n σ H → D.nx σ H) :
    ∃ W : Nat → Nat → St → Hp → Prop, (∃ m, W 0 m σ H) ∧ ∀ i m σ H, W i m σ H →
      ((Itr lo n).stop i H ∧ D.nx σ H) ∨ ((Itr lo n).go i H ∧ ∃ N : St → Hp → Prop, (∀ σ' H', N σ' H' → ∃ m', m' < m ∧ W (i + 1) m' σ' H') ∧ ∀ x H', (Itr lo n).yld i H x H' → g x σ H' fun σ2 H2 => tb { D with nx := N, ct := N, bk := D.nx } σ2 H2) := by
  refine ⟨fun i m σ H => m = n - i ∧ i ≤ n ∧ Pv i σ H, ⟨n, by simp, Nat.zero_le _, h0⟩, ?_⟩
  rintro i m σ H ⟨rfl, hi, p⟩
  by_cases hlt : i < n
  · refine .inr ⟨hlt, Pv (i + 1), fun σ' H' p' => ⟨n - (i + 1), by omega, rfl, hlt, p'⟩, fun x H' y => ?_⟩
    obtain ⟨e, y⟩ := y
    subst e y
    exact hs i σ _ hlt p
  · have e : i = n := by omega
    subst e
    exact .inl ⟨Nat.le_refl _, hd σ H p⟩
end L2

namespace L2
open PySem PySem.Spec PyProof.Rows

abbrev R2 := V → V → Hp → VK → Prop
/-- a two-place operation on values: f is binaryOp op, inplaceOp op or compareOp op -/
def OpR (X : Cx) (f : Value → Value → Sem Value) (r : R2) : Prop :=
  ∀ (pins : List (Addr × Obj)) (s : Shared) (σ : St) (H : Hp) (x y : V) (v u : Value) (Q : VK), Inv X pins σ H s → RelV x v → RelV y u → r x y H Q →
    wpAny (model X.prog X.w) X.A (f v u) (EP X pins σ Q) X.xe s
/-- a call of a value that is known (a builtin, a type) with values -/
def CallR (X : Cx) (f : Value) (r : List V → Hp → VK → Prop) : Prop :=
  ∀ (pins : List (Addr × Obj)) (s : Shared) (σ : St) (H : Hp) (xs : List V) (us : List Value) (Q : VK), Inv X pins σ H s → Vals xs us → r xs H Q →
    wpAny (model X.prog X.w) X.A (call f us) (EP X pins σ Q) X.xe s
/-- a value's truth -/
def TruR (X : Cx) (r : V → Hp → (Bool → Hp → Prop) → Prop) : Prop :=
  ∀ (pins : List (Addr × Obj)) (s : Shared) (σ : St) (H : Hp) (x : V) (v : Value) (Q : Bool → Hp → Prop), Inv X pins σ H s → RelV x v → r x H Q →
    wpAny (model X.prog X.w) X.A (truthy v) (TP X pins σ Q) X.xe s

def tOp (r : R2) (ta tb : TE) : TE := fun σ H Q => ta σ H fun x H1 => tb σ H1 fun y H2 => r x y H2 Q
/-- ints in, under C, and a value out -/
def rI (C : Int → Int → Prop) (g : Int → Int → V) : R2 := fun x y H Q => ∃ i j, x = .int i ∧ y = .int j ∧ C i j ∧ Q (g i j) H
def rI0 (g : Int → Int → V) : R2 := fun x y H Q => ∃ i j, x = .int i ∧ y = .int j ∧ Q (g i j) H
section
variable {X : Cx} {a b c : Expr} {ta tb tc : TE} {pos : Pos}

theorem binT (ha : PE X a ta) (hb : PE X b tb) {pins : List (Addr × Obj)} {s : Shared} {σ : St} {H : Hp} {R : V → V → Hp → Prop} (I : Inv X pins σ H s)
    (h : ta σ H fun x H1 => tb σ H1 fun y H2 => R x y H2) {Q : Value → Shared → Prop} {f : Value → Value → Sem Value}
    (hf : ∀ v u s2 x y H2, Inv X pins σ H2 s2 → RelV x v → RelV y u → R x y H2 → wpAny (model X.prog X.w) X.A (f v u) Q X.xe s2) :
    wpAny (model X.prog X.w) X.A (eval a X.env) (fun v s₁ => wpAny (model X.prog X.w) X.A (eval b X.env) (fun u s₂ => wpAny (model X.prog X.w) X.A (f v u) Q X.xe s₂) X.xe s₁) X.xe s := by
  refine thn (ha pins s σ H _ I h) fun v s1 ⟨x, H1, I1, r1, q1⟩ => ?_
  refine thn (hb pins s1 σ H1 _ I1 q1) fun u s2 ⟨y, H2, I2, r2, q2⟩ => ?_
  exact hf v u s2 x y H2 I2 r1 r2 q2

theorem pe_op {op : Operator} {r : R2} (ho : OpR X (binaryOp op) r) (ha : PE X a ta) (hb : PE X b tb) : PE X (.BinOp a op b pos) (tOp r ta tb) := by
  intro pins s σ H Q I h
  exact wpAny_BinOp (binT ha hb I h fun v u s2 x y H2 I2 rx ry q => ho pins s2 σ H2 x y v u Q I2 rx ry q)
/-! ### ints -/
theorem opI {f : Value → Value → Sem Value} {C : Int → Int → Prop} {g : Int → Int → Int}
    (rule : ∀ (i j : Int) (t u : Tok) (s : Shared) (Q : Value → Shared → Prop) (E : Value → Shared → Prop), C i j → Q (.int (g i j) s.toks) { s with toks := s.toks + 1 } → wpAny (model X.prog X.w) X.A (f (.int i t) (.int j u)) Q E s) :
    OpR X f (rI C fun i j => .int (g i j)) := by
  intro pins s σ H x y v u Q I rx ry h
  obtain ⟨i, j, rfl, rfl, hc, q⟩ := h
  obtain ⟨t, rfl⟩ := rx
  obtain ⟨t', rfl⟩ := ry
  exact rule i j t t' s _ _ hc ⟨.int (g i j), H, I.tok _, ⟨_, rfl⟩, q⟩
theorem opI0 {f : Value → Value → Sem Value} {g : Int → Int → Int}
    (rule : ∀ (i j : Int) (t u : Tok) (s : Shared) (Q : Value → Shared → Prop) (E : Value → Shared → Prop), Q (.int (g i j) s.toks) { s with toks := s.toks + 1 } → wpAny (model X.prog X.w) X.A (f (.int i t) (.int j u)) Q E s) :
    OpR X f (rI0 fun i j => .int (g i j)) := by
  intro pins s σ H x y v u Q I rx ry h
  obtain ⟨i, j, rfl, rfl, q⟩ := h
  obtain ⟨t, rfl⟩ := rx
  obtain ⟨t', rfl⟩ := ry
  exact rule i j t t' s _ _ ⟨.int (g i j), H, I.tok _, ⟨_, rfl⟩, q⟩
theorem opB0 {f : Value → Value → Sem Value} {g : Int → Int → Bool}
    (rule : ∀ (i j : Int) (t u : Tok) (s : Shared) (Q : Value → Shared → Prop) (E : Value → Shared → Prop), Q (.bool (g i j)) s → wpAny (model X.prog X.w) X.A (f (.int i t) (.int j u)) Q E s) :
    OpR X f (rI0 fun i j => .bl (g i j)) := by
  intro pins s σ H x y v u Q I rx ry h
  obtain ⟨i, j, rfl, rfl, q⟩ := h
  obtain ⟨t, rfl⟩ := rx
  obtain ⟨t', rfl⟩ := ry
  exact rule i j t t' s _ _ ⟨.bl (g i j), H, I, rfl, q⟩

def CDiv (i j : Int) : Prop := 0 < j ∧ j < 1073741824
def CPow (i j : Int) : Prop := 0 ≤ j ∧ j ≤ 1000000 ∧ i.natAbs < 2 ^ 64
theorem op_sub : OpR X (binaryOp .Sub) (rI0 fun i j => .int (i - j)) := opI0 fun _ _ _ _ _ _ _ q => sub_int q
/-- // by a positive divisor -/
theorem op_fdiv : OpR X (binaryOp .FloorDiv) (rI CDiv fun i j => .int (i / j)) := opI fun i j _ _ _ _ _ hc q => by
  have h1 : (0 : Int) < j := hc.1
  have h2 : j < 1073741824 := hc.2
  exact floordiv_int (by omega) (by rw [Int.fdiv_eq_ediv_of_nonneg i (by omega)]; exact q) (.inl (PyProof.noPylong_small (by omega)))
/-- % by a positive divisor of any size -/
theorem op_mod : OpR X (binaryOp .Mod) (rI (fun _ j => 0 < j) fun i j => .int (i % j)) := opI fun i j _ _ _ _ _ hc q => by
  have h1 : (0 : Int) < j := hc
  exact mod_int' (by omega) (by rw [Int.fmod_eq_emod_of_nonneg i (by omega)]; exact q)
theorem op_pow : OpR X (binaryOp .Pow) (rI CPow fun i j => .int (i ^ j.toNat)) := opI fun _ _ _ _ _ _ _ hc q => pow_int_small hc.1 hc.2.1 hc.2.2 q
/-! ### bools among ints: n += (a < b) -/
end

/-! ### comparisons -/
/-- the scalars that == tells apart as data does -/
def scal : V → V → Bool
  | .non, .non => true | .non, .int _ => true | .int _, .non => true | .non, .bl _ => true | .bl _, .non => true | .non, .str _ => true | .str _, .non => true
  | .int _, .int _ => true | .bl _, .bl _ => true | .str _, .str _ => true | .byt _, .byt _ => true
  | .int _, .str _ => true | .str _, .int _ => true | .bl _, .str _ => true | .str _, .bl _ => true
  | _, _ => false
def rEq : R2 := fun x y H Q => scal x y = true ∧ Q (.bl (decide (x = y))) H
def rNe : R2 := fun x y H Q => scal x y = true ∧ Q (.bl (!decide (x = y))) H

theorem dec_int {i j : Int} : decide (V.int i = V.int j) = (i == j) := by
  rw [Bool.eq_iff_iff]
  simp
theorem dec_bl {i j : Bool} : decide (V.bl i = V.bl j) = (i == j) := by
  rw [Bool.eq_iff_iff]
  simp
theorem dec_str {i j : Str} : decide (V.str i = V.str j) = (i == j) := by
  rw [Bool.eq_iff_iff]
  simp
theorem dec_byt {i j : Array UInt8} : decide (V.byt i = V.byt j) = (i.toList == j.toList) := by
  rw [Bool.eq_iff_iff]
  cases i
  cases j
  simp

section
variable {X : Cx} {a b c : Expr} {ta tb tc : TE} {pos : Pos}
theorem fin_bl {pins : List (Addr × Obj)} {σ : St} {H : Hp} {s : Shared} {Q : VK} {k k' : Bool} (I : Inv X pins σ H s) (q : Q (.bl k) H) (e : k = k') : EP X pins σ Q (.bool k') s := by
  subst e
  exact ⟨.bl k, H, I, rfl, q⟩
theorem op_eq : OpR X (compareOp .Eq) rEq := by
  intro pins s σ H x y v u Q I rx ry h
  obtain ⟨hs, q⟩ := h
  cases x with
  | non =>
    cases rx
    cases y with
    | non => cases ry; exact PySem.EqNone.eq_none_none (fin_bl I q (by simp))
    | bl j => cases ry; exact PySem.EqNone.eq_none_bool (fin_bl I q (by simp))
    | int j => obtain ⟨t', rfl⟩ := ry; exact PySem.EqNone.eq_none_int (fin_bl I q (by simp))
    | str j => obtain ⟨t', rfl⟩ := ry; exact PySem.EqNone.eq_none_str (fin_bl I q (by simp))
    | _ => exact absurd (show false = true from hs) Bool.false_ne_true
  | bl i =>
    cases rx
    cases y with
    | non => cases ry; exact PySem.EqNone.eq_bool_none (fin_bl I q (by simp))
    | bl j => cases ry; exact eq_bool (fin_bl I q dec_bl)
    | str j => obtain ⟨t', rfl⟩ := ry; exact PySem.EqMixed.eq_bool_str (fin_bl I q (by simp))
    | _ => exact absurd (show false = true from hs) Bool.false_ne_true
  | int i =>
    obtain ⟨t, rfl⟩ := rx
    cases y with
    | non => cases ry; exact PySem.EqNone.eq_int_none (fin_bl I q (by simp))
    | int j => obtain ⟨t', rfl⟩ := ry; exact eq_int (fin_bl I q dec_int)
    | str j => obtain ⟨t', rfl⟩ := ry; exact PySem.EqMixed.eq_int_str (fin_bl I q (by simp))
    | _ => exact absurd (show false = true from hs) Bool.false_ne_true
  | str i =>
    obtain ⟨t, rfl⟩ := rx
    cases y with
    | non => cases ry; exact PySem.EqNone.eq_str_none (fin_bl I q (by simp))
    | bl j => cases ry; exact PySem.EqMixed.eq_str_bool (fin_bl I q (by simp))
    | int j => obtain ⟨t', rfl⟩ := ry; exact PySem.EqMixed.eq_str_int (fin_bl I q (by simp))
    | str j => obtain ⟨t', rfl⟩ := ry; exact eq_str (fin_bl I q dec_str)
    | _ => exact absurd (show false = true from hs) Bool.false_ne_true
  | byt i =>
    obtain ⟨t, rfl⟩ := rx
    cases y with
    | byt j => obtain ⟨t', rfl⟩ := ry; exact PySem.W.eq_bytes (fin_bl I q dec_byt)
    | _ => exact absurd (show false = true from hs) Bool.false_ne_true
  | _ => cases y <;> exact absurd (show false = true from hs) Bool.false_ne_true
theorem op_ne : OpR X (compareOp .NotEq) rNe := by
  intro pins s σ H x y v u Q I rx ry h
  obtain ⟨hs, q⟩ := h
  cases x with
  | non =>
    cases rx
    cases y with
    | non => cases ry; exact PySem.EqNone.ne_none_none (fin_bl I q (by simp))
    | bl j => cases ry; exact PySem.EqNone.ne_none_bool (fin_bl I q (by simp))
    | int j => obtain ⟨t', rfl⟩ := ry; exact PySem.EqNone.ne_none_int (fin_bl I q (by simp))
    | str j => obtain ⟨t', rfl⟩ := ry; exact PySem.EqNone.ne_none_str (fin_bl I q (by simp))
    | _ => exact absurd (show false = true from hs) Bool.false_ne_true
  | bl i =>
    cases rx
    cases y with
    | non => cases ry; exact PySem.EqNone.ne_bool_none (fin_bl I q (by simp))
    | bl j => cases ry; exact ne_bool (fin_bl I q (congrArg not dec_bl))
    | str j => obtain ⟨t', rfl⟩ := ry; exact PySem.EqMixed.ne_bool_str (fin_bl I q (by simp))
    | _ => exact absurd (show false = true from hs) Bool.false_ne_true
  | int i =>
    obtain ⟨t, rfl⟩ := rx
    cases y with
    | non => cases ry; exact PySem.EqNone.ne_int_none (fin_bl I q (by simp))
    | int j => obtain ⟨t', rfl⟩ := ry; exact ne_int (fin_bl I q (congrArg not dec_int))
    | str j => obtain ⟨t', rfl⟩ := ry; exact PySem.EqMixed.ne_int_str (fin_bl I q (by simp))
    | _ => exact absurd (show false = true from hs) Bool.false_ne_true
  | str i =>
    obtain ⟨t, rfl⟩ := rx
    cases y with
    | non => cases ry; exact PySem.EqNone.ne_str_none (fin_bl I q (by simp))
    | bl j => cases ry; exact PySem.EqMixed.ne_str_bool (fin_bl I q (by simp))
    | int j => obtain ⟨t', rfl⟩ := ry; exact PySem.EqMixed.ne_str_int (fin_bl I q (by simp))
    | str j => obtain ⟨t', rfl⟩ := ry; exact ne_str (fin_bl I q (congrArg not dec_str))
    | _ => exact absurd (show false = true from hs) Bool.false_ne_true
  | byt i =>
    obtain ⟨t, rfl⟩ := rx
    cases y with
    | byt j => obtain ⟨t', rfl⟩ := ry; exact PySem.W.ne_bytes (fin_bl I q (congrArg not dec_byt))
    | _ => exact absurd (show false = true from hs) Bool.false_ne_true
  | _ => cases y <;> exact absurd (show false = true from hs) Bool.false_ne_true

theorem op_lt : OpR X (compareOp .Lt) (rI0 fun i j => .bl (decide (i < j))) := opB0 fun _ _ _ _ _ _ _ q => lt_int q
theorem op_gt : OpR X (compareOp .Gt) (rI0 fun i j => .bl (decide (j < i))) := opB0 fun _ _ _ _ _ _ _ q => gt_int q
theorem op_ge : OpR X (compareOp .GtE) (rI0 fun i j => .bl (decide (j ≤ i))) := opB0 fun _ _ _ _ _ _ _ q => ge_int q
/-- is None, is not None: the right side a value none -/
theorem op_isN : OpR X (compareOp .Is) (fun x y H Q => y = .non ∧ Q (.bl (decide (x = .non))) H) := by
  intro pins s σ H x y v u Q I rx ry h
  obtain ⟨rfl, q⟩ := h
  cases ry
  refine is_none_gen (fin_bl I q ?_)
  cases x <;> first
    | (cases rx; rfl)
    | (obtain ⟨t, rfl⟩ := rx; rfl)
theorem op_notN : OpR X (compareOp .IsNot) (fun x y H Q => y = .non ∧ Q (.bl (!decide (x = .non))) H) := by
  intro pins s σ H x y v u Q I rx ry h
  obtain ⟨rfl, q⟩ := h
  cases ry
  refine isnot_none_gen (fin_bl I q ?_)
  cases x <;> first
    | (cases rx; rfl)
    | (obtain ⟨t, rfl⟩ := rx; rfl)

theorem nomark (b : Expr) {op : CmpOp} (h : op ≠ .In := by decide) (h2 : op ≠ .NotIn := by decide) : behindInMarks op b = false := by
  have e1 : (op == CmpOp.In) = false := by cases op <;> first | rfl | exact absurd rfl h
  have e2 : (op == CmpOp.NotIn) = false := by cases op <;> first | rfl | exact absurd rfl h2
  cases b <;> simp [behindInMarks, e1, e2]
/-- a comparison as a value; hm: nomark b, or (for in, not in) by with_unfolding_all rfl -/
theorem pe_cmpR {op : CmpOp} {r : R2} (ho : OpR X (compareOp op) r) (ha : PE X a ta) (hb : PE X b tb) (hm : behindInMarks op b = false) : PE X (.Compare a [op] [b] pos) (tOp r ta tb) := by
  intro pins s σ H Q I h
  exact wpAny_Compare1 (binT ha hb I h fun v u s2 x y H2 I2 rx ry q => ho pins s2 σ H2 x y v u Q I2 rx ry q) hm
/-- a reading of a value as a test -/
def tTest (t : TE) : TT := fun σ H Q => t σ H fun x H' => ∃ k, x = .bl k ∧ Q k H'
theorem pt_cmpR {op : CmpOp} {r : R2} (ho : OpR X (compareOp op) r) (ha : PE X a ta) (hb : PE X b tb) (hm : behindInMarks op b = false) : PT X (.Compare a [op] [b] pos) (tTest (tOp r ta tb)) := by
  intro pins s σ H Q I h
  refine wpAny_isTrue_Compare1 (thn (ha pins s σ H _ I h) fun v s1 ⟨x, H1, I1, r1, q1⟩ => thn (hb pins s1 σ H1 _ I1 q1) fun u s2 ⟨y, H2, I2, r2, q2⟩ =>
    thn (ho pins s2 σ H2 x y v u _ I2 r1 r2 q2) fun c s3 ⟨z, H3, I3, r3, k, e, q3⟩ => ?_) hm
  subst e
  cases r3
  exact wpAny_truthy_bool ⟨H3, I3, q3⟩
/-! ### truth -/
/-- a value's truth by the abstract heap -/
def TruV (K : PySem.W.Frag) (x : V) (H : Hp) (k : Bool) : Prop :=
  match x with
  | .non => k = false
  | .bl b => k = b
  | .int i => k = (i != 0)
  | .str y => y.length ≤ sizeLine ∧ k = ((y.length : Int) != 0)
  | .byt y => y.size ≤ sizeLine ∧ k = ((y.size : Int) != 0)
  | .ref p => (∃ xs, SqL K H p xs ∧ k = !xs.isEmpty) ∨ (∃ xs, SqT K H p xs ∧ k = !xs.isEmpty) ∨ ∃ kvs, H p = some (.dK kvs) ∧ k = !kvs.isEmpty
  | _ => False
theorem isEmpty_kv {κ : Type} {kvs : List (κ × V)} {vs : List (κ × Value)} (r : KV kvs vs) : (!vs.isEmpty) = !kvs.isEmpty := by
  cases r <;> rfl
theorem isEmpty_of {xs : List V} {its : List Value} (r : Vals xs its) : (!its.toArray.isEmpty) = !xs.isEmpty := by
  cases r <;> simp
theorem line63 : (sizeLine : Nat) < 2 ^ 63 := by rw [sizeLine_eq]; decide
theorem tru_ok : TruR X (fun x H Q => ∃ k, TruV X.K x H k ∧ Q k H) := by
  intro pins s σ H x v Q I rx h
  obtain ⟨k, e, q⟩ := h
  have hl := line63
  have hs : sizeLine = 16777216 := sizeLine_eq
  cases x with
  | non =>
    cases rx
    have e' : k = false := e
    subst e'
    exact truthy_none ⟨H, I, q⟩
  | bl b =>
    cases rx
    have e' : k = b := e
    subst e'
    exact wpAny_truthy_bool ⟨H, I, q⟩
  | int i =>
    obtain ⟨t, rfl⟩ := rx
    have e' : k = (i != 0) := e
    subst e'
    exact PySem.P.truthy_int ⟨H, I, q⟩
  | str y =>
    obtain ⟨t, rfl⟩ := rx
    obtain ⟨hy, e'⟩ : y.length ≤ sizeLine ∧ k = ((y.length : Int) != 0) := e
    subst e'
    exact PySem.P.truthy_str (by omega) ⟨H, I.tok _, q⟩
  | byt y =>
    obtain ⟨t, rfl⟩ := rx
    obtain ⟨hy, e'⟩ : y.size ≤ sizeLine ∧ k = ((y.size : Int) != 0) := e
    subst e'
    exact PySem.W.truthy_bytes (by omega) ⟨H, I.tok _, q⟩
  | ref p =>
    cases rx
    have e' : (∃ xs, SqL X.K H p xs ∧ k = !xs.isEmpty) ∨ (∃ xs, SqT X.K H p xs ∧ k = !xs.isEmpty) ∨ ∃ kvs, H p = some (.dK kvs) ∧ k = !kvs.isEmpty := e
    rcases e' with ⟨xs, hx, e'⟩ | ⟨xs, hx, e'⟩ | ⟨kvs, hx, e'⟩
    · subst e'
      obtain ⟨its, r, pl, hz⟩ := I.list hx
      have hlen := r.length
      exact wpAny_truthy_list pl.isList (by simp only [List.size_toArray]; omega) ⟨H, I.tok _, by rw [isEmpty_of r]; exact q⟩
    · subst e'
      obtain ⟨its, r, pl, hz⟩ := I.tuple hx
      have hlen := r.length
      exact truthy_tuple pl (by simp only [List.size_toArray]; omega) ⟨H, I.tok _, by rw [isEmpty_of r]; exact q⟩
    · subst e'
      obtain ⟨hz, hS, vs, r, m⟩ : kvs.length ≤ sizeLine ∧ (p == sysModules) = false ∧ ∃ vs, KV kvs vs ∧ s.heap.DictOf (mixKind X.prog X.w) p vs := I.hok p _ hx
      have hlen : kvs.length = vs.length := Paired.length r
      exact wpAny_truthy_dict hS m (by omega) ⟨H, I.tok _, by rw [isEmpty_kv r]; exact q⟩
  | _ => exact (show False from e).elim
/-- any expression whose test is its value's truth (a name, a call, a subscript, a field ..: he by fun _ => rfl) -/
theorem pt_truth (ha : PE X a ta) (he : ∀ whole, isTrue a X.env whole = (do let v ← whole; standAt a.pos; holding [v] (truthy v))) :
    PT X a (fun σ H Q => ta σ H fun x H' => ∃ k, TruV X.K x H' k ∧ Q k H') := by
  intro pins s σ H Q I h
  exact isTrue_plain (thn (ha pins s σ H _ I h) fun v s1 ⟨x, H1, I1, r1, q1⟩ => tru_ok pins s1 σ H1 x v Q I1 r1 q1) (he _)

/-! ### strs and bytes -/
theorem op_add_str : OpR X (binaryOp .Add) (fun x y H Q => ∃ i j, x = .str i ∧ y = .str j ∧ i.length + j.length ≤ sizeLine ∧ Q (.str (i ++ j)) H) := by
  intro pins s σ H x y v u Q I rx ry h
  obtain ⟨i, j, rfl, rfl, hz, q⟩ := h
  obtain ⟨t, rfl⟩ := rx
  obtain ⟨t', rfl⟩ := ry
  exact add_str (fun t' tk => ⟨.str (i ++ j), H, I.tok _, ⟨_, rfl⟩, q⟩) hz
/-! ### scalar builtins, by CallR -/
theorem vals1 {x : V} {us : List Value} (r : Vals [x] us) : ∃ u, us = [u] ∧ RelV x u := by
  cases r with
  | cons r1 r2 => cases r2; exact ⟨_, rfl, r1⟩
theorem vals2 {x y : V} {us : List Value} (r : Vals [x, y] us) : ∃ u w', us = [u, w'] ∧ RelV x u ∧ RelV y w' := by
  cases r with
  | cons r1 r2 =>
    cases r2 with
    | cons r3 r4 => cases r4; exact ⟨_, _, rfl, r1, r3⟩
theorem call_abs : CallR X (.builtin "abs") (fun xs H Q => ∃ i, xs = [.int i] ∧ Q (.int (if i < 0 then -i else i)) H) := by
  intro pins s σ H xs us Q I r h
  obtain ⟨i, rfl, q⟩ := h
  obtain ⟨u, rfl, t, rfl⟩ := vals1 r
  exact call_abs_int fun u tk => ⟨.int (if i < 0 then -i else i), H, I.tok _, ⟨_, rfl⟩, q⟩
end
end L2

namespace L2
open PySem PySem.Spec PyProof.Rows

/-! ### an instance, its attributes a map -/
structure ObjM (h : Heap) (x dx C : Addr) (mA : Str → Option Value) : Prop where
  obj : h.get? x = some (PySem.W.instObj C dx)
  ns : h.Ns1 dx mA
  ne : dx ≠ x

theorem lookIn_ns {h : Heap} {dx : Addr} {mA : Str → Option Value} (n : h.Ns1 dx mA) : ∃ od, h.get? dx = some od ∧ ∀ name, PySem.W.lookIn name od = some (mA name) := by
  obtain ⟨o, es, ep, ho, hd, hk, _, hm⟩ := n
  refine ⟨o, ho, fun name => ?_⟩
  have e := hm name
  unfold nsFind findBy at e
  rw [← Array.find?_toList] at e
  unfold PySem.W.lookIn
  rw [hd]
  dsimp only
  split
  · rename_i y q
    rw [q] at e
    exact congrArg some e
  · rename_i q
    rw [q] at e
    have a : es.toList.any (·.refKey) = false := by
      rw [List.any_eq_false]
      intro y hy
      obtain ⟨z, t, hkey⟩ := hk y (Array.mem_toList_iff.mp hy)
      simp [DictEntry.refKey, hkey]
    have a' : ¬ es.toList.any (·.refKey) = true := by rw [a]; exact Bool.false_ne_true
    rw [if_neg a']
    exact congrArg some e

theorem ObjM.look {h : Heap} {x dx C : Addr} {mA : Str → Option Value} (I : ObjM h x dx C mA) : ∃ od, PySem.W.InstAt h x (PySem.W.instObj C dx) C (some od) ∧ ∀ name, PySem.W.lookIn name od = some (mA name) :=
  let ⟨od, ho, hl⟩ := lookIn_ns I.ns
  ⟨od, ⟨I.obj, rfl, rfl, ho⟩, hl⟩

section
variable {prog : Program} {w : World} {A : Around} {E : Value → Shared → Prop} {s : Shared} {K : PySem.W.Frag} {x dx C f : Addr} {mA : Str → Option Value} {name : Str} {v : Value}

end

/-! ### the attributes as a list of pairs -/
theorem RelO.some_of {v : V} {o : Option Value} (r : RelO (some v) o) : ∃ u, o = some u ∧ RelV v u := by
  cases o with
  | none => exact (show False from r).elim
  | some u => exact ⟨u, rfl, r⟩
section
variable {P : Program} {w : World} {H H' : Hp} {h h' : Heap} {a C dx : Addr} {fs fs' : List (Str × V)}
theorem ins_get (hok : HOk P w H h) (e : H a = some (.ins C dx fs)) : ∃ mA, ObjM h a dx C mA ∧ (∀ f, RelO (fs.lookup f) (mA f)) ∧ PySem.Within mA (fs.map (·.1)) ∧ fs.length ≤ 1000 ∧ H dx = some (.own a) := by
  obtain ⟨d, z, ne, ob, mA, n, r, q⟩ := (show ObjOk P w H h a (.ins C dx fs) from hok a _ e)
  exact ⟨mA, ⟨ob, n, ne⟩, r, q, z, d⟩
end

/-! ### what of the text a class must have -/
structure Cls (K : PySem.W.Frag) (C : Addr) : Prop where
  pg : PySem.W.plainGet K C Str.empty = true
  hd : PySem.W.hasDictIn K C = true
  po : PySem.W.plainOver K C = true
  sa : PySem.W.findIn K (.ref C) "__setattr__" = some (some (.builtin "object.__setattr__"))
theorem Cls.get {K : PySem.W.Frag} {C : Addr} (c : Cls K C) (f : Str) : PySem.W.plainGet K C f = true := c.pg
section
variable {X : Cx} {pins : List (Addr × Obj)} {σ : St} {H : Hp} {s : Shared} {a C dx : Addr} {fs : List (Str × V)} {f : Str} {v : V} {A : Around} {E : Value → Shared → Prop}

end

/-! ### readings and rules -/
section
variable {X : Cx} {o e value : Expr} {f : Str} {pos pos' tpos : Pos} {ta tv : TE}
end

/-! ### isinstance -/
section
variable {X : Cx} {pins : List (Addr × Obj)} {σ : St} {H : Hp} {s : Shared} {A : Around} {E : Value → Shared → Prop} {Q : Value → Shared → Prop} {c : Value} {b : Bool}
/-- the type of a value, as the fragment's deciders take it; for an instance its class -/
inductive TyOf (K : PySem.W.Frag) (H : Hp) : V → Value → Prop where
  | non : TyOf K H .non (.type "NoneType")
  | bl (x : Bool) : TyOf K H (.bl x) (.type "bool")
  | int (i : Int) : TyOf K H (.int i) (.type "int")
  | str (x : Str) : TyOf K H (.str x) (.type "str")
  | flt (x : UInt64) : TyOf K H (.flt x) (.type "float")
  | lst {a : Addr} {xs : List V} (e : H a = some (.lst xs)) : TyOf K H (.ref a) (.type "list")
  | frz {a : Addr} {o : Obj} {xs : List V} (e : H a = some (.frz o (.lst xs))) : TyOf K H (.ref a) (.type "list")
  | tup {a : Addr} {xs : List V} (e : H a = some (.tup xs)) : TyOf K H (.ref a) (.type "tuple")
  | dK {a : Addr} {kvs : List (Key × V)} (e : H a = some (.dK kvs)) : TyOf K H (.ref a) (.type "dict")
  | dT {a : Addr} {kvs : List (List Key × V)} (e : H a = some (.dT kvs)) : TyOf K H (.ref a) (.type "dict")
  | ins {a C dx : Addr} {fs : List (Str × V)} (e : H a = some (.ins C dx fs)) (cl : Cls K C) (ha : PySem.W.findIn K (.ref C) "__class__" = some (some (.builtin "object.__class__")))
      (hn : PySem.W.specialIn K (.builtin "object.__class__") "__get__" = some (some (.builtin "getset_descriptor.__get__"))) (htk : PySem.W.takesIn K (.builtin "object.__class__") = some true)
      (hm : PySem.W.mroIn K C (.type "object") = some true) : TyOf K H (.ref a) (.ref C)
/-- isinstance(x, c) for one class c, a built-in or an own one: kitOne's answer -/
theorem isinst_ok {x : V} {u t : Value} (I : Inv X pins σ H s) (rx : RelV x u) (ty : TyOf X.K H x t) (e : PySem.W.kitOne X.K t c = some b) (h : ∀ tk, Q (.bool b) { s with toks := tk }) :
    wpAny (model X.prog X.w) A (call (.builtin "isinstance") [u, c]) Q E s := by
  cases ty with
  | non => cases (show u = Value.none from rx); exact PySem.W.kia_one PySem.W.kitx_none I.kIn True.intro e (fun z => nomatch z) h
  | bl y => cases (show u = Value.bool y from rx); exact PySem.W.kia_one PySem.W.kitx_bool I.kIn True.intro e (fun z => nomatch z) h
  | int i => obtain ⟨t, q⟩ := (show ∃ t, u = Value.int i t from rx); cases q; exact PySem.W.kia_one PySem.W.kitx_int I.kIn True.intro e (fun z => nomatch z) h
  | str y => obtain ⟨t, q⟩ := (show ∃ t, u = Value.str y t from rx); cases q; exact PySem.W.kia_one PySem.W.kitx_str I.kIn True.intro e (fun z => nomatch z) h
  | flt y => obtain ⟨t, q⟩ := (show ∃ t, u = Value.float y t from rx); cases q; exact PySem.W.kia_one PySem.W.kitx_float I.kIn True.intro e (fun z => nomatch z) h
  | @lst a xs ea =>
    cases (show u = Value.ref a from rx)
    obtain ⟨_, _, n, _, h1⟩ := (show ObjOk X.prog X.w H s.heap a (.lst xs) from I.hok a _ ea)
    exact PySem.W.kia_one PySem.W.kitx_list I.kIn ⟨_, h1, rfl⟩ e (fun z => nomatch z) h
  | @frz a ob xs ea =>
    cases (show u = Value.ref a from rx)
    obtain ⟨_, _, _, n, _, h1⟩ := (show ObjOk X.prog X.w H s.heap a (.frz ob (.lst xs)) from I.hok a _ ea)
    exact PySem.W.kia_one PySem.W.kitx_list I.kIn ⟨_, h1, rfl⟩ e (fun z => nomatch z) h
  | @tup a xs ea =>
    cases (show u = Value.ref a from rx)
    obtain ⟨_, _, _, p⟩ := (show ObjOk X.prog X.w H s.heap a (.tup xs) from I.hok a _ ea)
    obtain ⟨o, h1, h2, _⟩ := p
    exact PySem.W.kia_one PySem.W.kitx_tuple I.kIn ⟨o, h1, h2⟩ e (fun z => nomatch z) h
  | @dK a kvs ea =>
    cases (show u = Value.ref a from rx)
    obtain ⟨_, _, vs, _, p⟩ := (show ObjOk X.prog X.w H s.heap a (.dK kvs) from I.hok a _ ea)
    obtain ⟨o, es, ep, h1, h2, _⟩ := p
    exact PySem.W.kia_one PySem.W.kitx_dict I.kIn ⟨o, h1, h2.1⟩ e (fun z => nomatch z) h
  | @dT a kvs ea =>
    cases (show u = Value.ref a from rx)
    obtain ⟨_, _, xs, _, o, es, ep, h1, h2, _⟩ := (show ObjOk X.prog X.w H s.heap a (.dT kvs) from I.hok a _ ea)
    exact PySem.W.kia_one PySem.W.kitx_dict I.kIn ⟨o, h1, h2.1⟩ e (fun z => nomatch z) h
  | @ins a C dx fs ea cl ha hn htk hm =>
    cases (show u = Value.ref a from rx)
    obtain ⟨mA, O, _⟩ := ins_get I.hok ea
    obtain ⟨od, J, _⟩ := O.look
    exact PySem.W.kia_one (PySem.W.kitx_own (cl.get _) cl.hd ha hn htk hm) I.kIn J e (fun z => nomatch z) h
end
end L2

namespace L2
open PySem PySem.Spec PyProof.Rows

/-! ### room -/
structure Room (k : Nat) (A : Around) : Prop where
  hd : A.handled = none
  dp : A.depth + 3 * k + 5 < recursionLimit
  un : A.units + 16 * k + 200 < cLine
theorem Room.mono {j k : Nat} {A : Around} (r : Room k A) (h : j ≤ k) : Room j A := ⟨r.hd, by have := r.dp; omega, by have := r.un; omega⟩
theorem Room.deeper {k : Nat} {A : Around} (r : Room (k + 1) A) (env : Env) : Room k (A.deeper env) :=
  ⟨r.hd, by have := r.dp; show A.depth + 1 + 3 * k + 5 < _; omega, by have := r.un; show A.units + 3 + 16 * k + 200 < _; omega⟩
theorem Room.depth {k : Nat} {A : Around} (r : Room k A) : A.depth < recursionLimit := by have := r.dp; omega
theorem Room.units0 {k : Nat} {A : Around} (r : Room k A) : A.units < cLine := by have := r.un; omega

/-! ### argument lists and displays -/
def tNil : TA := fun _ H Q => Q [] H
def tCons (ta : TE) (tr : TA) : TA := fun σ H Q => ta σ H fun x H1 => tr σ H1 fun xs H2 => Q (x :: xs) H2
section
variable {X : Cx} {e : Expr} {es : List Expr} {te : TE} {t : TA} {pos : Pos}
theorem pa_nil : PA X [] tNil := fun _ _ _ _ H Q I h => Calls.spliced_nil ⟨[], H, I, .nil, h⟩
theorem pa_cons (ha : PE X e te) (hr : PA X es t) (hs : starEach (e :: es) X.env = (false, eval e X.env) :: starEach es X.env := by rfl) : PA X (e :: es) (tCons te t) := by
  intro pos pins s σ H Q I h
  rw [hs]
  show wpAny _ _ (spliced ((false, eval e X.env) :: backTo pos (starEach es X.env))) _ _ s
  refine Calls.spliced_cons (thn (ha pins s σ H _ I h) fun u s1 ⟨x, H1, I1, r1, q1⟩ => ?_)
  exact thn (hr pos pins s1 σ H1 _ I1 q1) fun us s2 ⟨xs, H2, I2, r2, q2⟩ => ⟨x :: xs, H2, I2, .cons r1 r2, q2⟩

/-- a tuple, a list of written items -/
def tTup (t : TA) : TE := fun σ H Q => t σ H fun xs H1 => xs.length ≤ sizeLine ∧ ∀ p, H1 p = none → Q (.ref p) (upd H1 p (.tup xs))
def tLst (t : TA) : TE := fun σ H Q => t σ H fun xs H1 => xs.length ≤ sizeLine ∧ ∀ p, H1 p = none → Q (.ref p) (upd H1 p (.lst xs))
theorem pe_tup {x1} (h : PA X es t) : PE X (.Tuple es x1 pos) (tTup t) := by
  intro pins s σ H Q I hq
  refine wpAny_Tuple_spliced (thn (h pos pins s σ H _ I hq) fun us s1 ⟨xs, H1, I1, r, z, q⟩ => ⟨by rw [← r.length]; exact z, ?_⟩)
  have hf : H1 s1.heap.objs.size = none := I1.hok.fresh (Nat.le_refl _)
  refine ⟨.ref s1.heap.objs.size, upd H1 s1.heap.objs.size (.tup xs), I1.laid (t' := s1.toks) (fun b u e => Heap.get?_push_of_some _ e) (Nat.le_refl _) ?_, rfl, q _ hf⟩
  exact ⟨z, us, r, ⟨_, Heap.get?_push_size _ rfl, rfl, _, rfl⟩⟩
theorem pe_lst (h : PA X es t) : PE X (.List es pos) (tLst t) := by
  intro pins s σ H Q I hq
  refine wpAny_List_spliced (thn (h pos pins s σ H _ I hq) fun us s1 ⟨xs, H1, I1, r, z, q⟩ => ⟨by rw [← r.length]; exact z, ?_⟩)
  have hf : H1 s1.heap.objs.size = none := I1.hok.fresh (Nat.le_refl _)
  refine ⟨.ref s1.heap.objs.size, upd H1 s1.heap.objs.size (.lst xs), I1.laid (t' := s1.toks) (fun b u e => Heap.get?_push_of_some _ e) (Nat.le_refl _) ?_, rfl, q _ hf⟩
  exact ⟨z, us, 0, r, Heap.get?_push_size _ rfl⟩
end

/-! ### what a def promises -/
/-- a def's promise: the bound arguments in the parameters' order, the heap, the wanted end, the wanted exception -/
abbrev Sp := List V → Hp → VK → XK → Prop
/-- how an exception lies behind a call (file 08 gives it): the callers' frames, abstract heap and state ahead of the call, the wish, the exception, the state -/
abbrev CXT := List Env → Hp → Shared → XK → Value → Shared → Prop

/-- the state at a call -/
structure Env0 (P : Program) (w : World) (K : PySem.W.Frag) (mg : Str → Option Value) (base : Heap) (A : Around) (outer : List Env) (s : Shared) (H : Hp) : Prop where
  frames : A.frames = some outer
  mod : Mod K mg base
  bs : ∀ b o, base.get? b = some o → s.heap.get? b = some o ∧ H b = none
  bsz : base.objs.size ≤ s.heap.objs.size
  funs : s.heap.FunFrames base outer
  frf : ∀ b ∈ frs outer, H b = none
  hok : HOk P w H s.heap
  bare : AllBare s.gens
/-- a call's end -/
def CE (outer : List Env) (P : Program) (w : World) (H : Hp) (s : Shared) (Q : VK) (u : Value) (s' : Shared) : Prop :=
  ∃ v H', s'.os = s.os ∧ AllBare s'.gens ∧ Un (frs outer) [] H H' s.heap s'.heap ∧ HOk P w H' s'.heap ∧ RelV v u ∧ Q v H'
def CR (CX : CXT) (outer : List Env) (P : Program) (w : World) (H : Hp) (s : Shared) (Q : VK) (E : XK) (r : Result) (s' : Shared) : Prop :=
  match r with
  | .ok (.ret u) => CE outer P w H s Q u s'
  | .ok _ => False
  | .error e => CX outer H s E e s'
structure FnOk (P : Program) (w : World) (K : PySem.W.Frag) (mg : Str → Option Value) (base : Heap) (CX : CXT) (k : Nat) (f : Addr) (fd : FuncData) (ps : List Str) (sp : Sp) : Prop where
  len : ∀ vs H Q E, sp vs H Q E → vs.length = ps.length
  run : ∀ (A : Around) (outer : List Env) (s : Shared) (H : Hp) (args : Args) (us : List Value) (vs : List V) (Q : VK) (E : XK), Room k A → Env0 P w K mg base A outer s H → BindsTo s fd args (ps.zip us) → Vals vs us → sp vs H Q E →
    codeAny (model P w) A (.call (.ref f) args) (CR CX outer P w H s Q E) s
section
variable {X : Cx} {pins : List (Addr × Obj)} {σ : St} {H : Hp} {s s' : Shared}
/-- from a body: what a callee wants -/
theorem Inv.env0 (I : Inv X pins σ H s) : Env0 X.prog X.w X.K X.mg X.base X.A X.stack s H :=
  ⟨I.ok.frames, I.ok.mod, I.bs, Nat.le_trans I.ok.bsz I.sz, I.stack, I.stkFree, I.hok, I.bare⟩
/-- behind a call -/
theorem Inv.after {Q : VK} {u : Value} (I : Inv X pins σ H s) (h : CE X.stack X.prog X.w H s Q u s') : EP X pins σ Q u s' := by
  obtain ⟨v, H', os, bare, un, hok, r, q⟩ := h
  obtain ⟨hh, g, d, t, os'⟩ := s'
  obtain rfl : os' = s.os := os
  exact ⟨v, H', I.call (h' := hh) (g' := g) (d' := d) (t' := t) (ch := []) un hok bare (fun b z => absurd z (by simp)), r, q⟩
end

/-! ### calls -/
/-- f(..): the written arguments, then the defaults dvs; E: what is wanted of an exception -/
def tCall (sp : Sp) (dvs : List V) (E : XK) (t : TA) : TE := fun σ H Q => t σ H fun vs H1 => sp (vs ++ dvs) H1 Q E
/-- how the parameters are bound: us the positional arguments, kw the keywords' values by name, ds the defaults that fill up -/
def Binds (K : PySem.W.Frag) (fd : FuncData) (ps : List Str) (ds : List Value) : Prop :=
  ∀ (s : Shared) (us : List Value), K.In s.heap → (us ++ ds).length = ps.length → BindsTo s fd ⟨us, []⟩ (ps.zip (us ++ ds))
/-- every parameter is given -/
theorem Binds.all {K : PySem.W.Frag} {fd : FuncData} {ps : List Str} (h : ∀ us : List Value, us.length = ps.length → bindArgs fd ⟨us, []⟩ = pure (ps.zip us)) : Binds K fd ps [] := fun s us _ hl => by
  rw [List.append_nil] at hl ⊢
  exact .of_eq (h us hl)

/-- an exception of a callee reaches what this body wants of exceptions -/
def Passes (CX : CXT) (X : Cx) (E : XK) : Prop := ∀ (pins : List (Addr × Obj)) (σ : St) (H : Hp) (s : Shared) (e : Value) (s' : Shared), Inv X pins σ H s → CX X.stack H s E e s' → X.xe e s'

section
variable {X : Cx} {CX : CXT} {k : Nat} {f C : Addr} {fd : FuncData} {ps : List Str} {sp : Sp} {dvs : List V} {ds : List Value} {E : XK} {x m : Str} {p pos apos : Pos} {e o : Expr} {es : List Expr} {ta : TE} {t : TA}

/-- the callee runs -/
theorem run_fn {pins : List (Addr × Obj)} {σ : St} {H : Hp} {s : Shared} {Q : VK} {us : List Value} {vs : List V} (F : FnOk X.prog X.w X.K X.mg X.base CX k f fd ps sp) (hr : Room k X.A) (hb : Binds X.K fd ps ds) (hd : Vals dvs ds) (hx : Passes CX X E)
    (I : Inv X pins σ H s) (r : Vals vs us) (h : sp (vs ++ dvs) H Q E) : wpAny (model X.prog X.w) X.A (call (.ref f) us) (EP X pins σ Q) X.xe s := by
  have r2 : Vals (vs ++ dvs) (us ++ ds) := r.append hd
  have hl : (us ++ ds).length = ps.length := by rw [← r2.length]; exact F.len _ _ _ _ h
  refine wpAny_call (codeAny_mono (F.run X.A X.stack s H ⟨us, []⟩ (us ++ ds) (vs ++ dvs) Q E hr I.env0 (hb s us I.kIn hl) r2 h) fun r s' hq => ?_)
  cases r with
  | error e => exact hx pins σ H s e s' I hq
  | ok fl =>
    cases fl with
    | ret u => exact I.after hq
    | next => exact False.elim hq
    | brk => exact False.elim hq
    | cont => exact False.elim hq

theorem pe_call (F : FnOk X.prog X.w X.K X.mg X.base CX k f fd ps sp) (hr : Room k X.A) (hg : Gl X x) (hm : X.mg x = some (.ref f)) (hk : PySem.W.keepIn X.K (.ref f) = true) (hb : Binds X.K fd ps ds) (hd : Vals dvs ds) (hx : Passes CX X E)
    (ha : PA X (e :: es) t) (hdb : (x == ("__debug__" : Str)) = false := by decide) (he : starEach (e :: es) X.env = (false, eval e X.env) :: starEach es X.env := by rfl) (hpl : (backTo pos (starEach es X.env)).any (·.1) = false := by rfl) :
    PE X (.Call (.Name x p) (e :: es) [] pos) (tCall sp dvs E t) := by
  intro pins s σ H Q I h
  refine wpAny_Call_Name_kw (ld_glob I hg hm ?_ hdb)
  refine PySem.W.callWith_K (h₀ := X.base) I.ok.mod.kin hk (thn (ha pos pins s σ H _ I h) fun us s1 ⟨vs, H1, I1, r, q⟩ => ⟨I1.kIn, ?_⟩) he hpl
  exact run_fn F hr hb hd hx I1 r q
end

/-! ### keywords -/
section
variable {X : Cx} {CX : CXT} {k : Nat} {f C : Addr} {fd : FuncData} {ps ks : List Str} {sp : Sp} {E : XK} {x m : Str} {p pos apos kpos : Pos} {e o : Expr} {es : List Expr} {kws : List Keyword} {te ta : TE} {t tk : TA} {nm : Option Str}
variable {g : List Value → List Value → List Value} {gV : List V → List V → List V}
end

/-! ### a def's body keeps its promise -/
/-- names: the parameters first -/
structure FnScope (N P : List Str) (sc : Scope) : Prop where
  kind : sc.kind = .function
  co : sc.isCoroutine = false
  gen : sc.isGenerator = false
  nd : N.Nodup
  pre : N.take P.length = P
  par : ∀ x ∈ P, sc.names.lookup x = some .local ∨ sc.names.lookup x = some .cell
  nofree : ∀ y ∈ sc.names, y.2 ≠ .free

theorem bindL_out {kindOf : Str → Option NameKind} {x : Str} : ∀ {binds : List (Str × Value)} {m : Str → Option Value}, (∀ v, (x, v) ∉ binds) → bindL kindOf binds m x = m x
  | [], _, _ => rfl
  | (n, v) :: r, m, h => by
    unfold bindL
    rw [bindL_out fun w hw => h w (List.mem_cons_of_mem _ hw)]
    split
    · have : x ≠ n := by rintro rfl; exact h v List.mem_cons_self
      simp [this]
    · rfl
theorem bindC_out {kindOf : Str → Option NameKind} {x : Str} : ∀ {binds : List (Str × Value)} {m : Str → Option Value}, (∀ v, (x, v) ∉ binds) → bindC kindOf binds m x = m x
  | [], _, _ => rfl
  | (n, v) :: r, m, h => by
    unfold bindC
    rw [bindC_out fun w hw => h w (List.mem_cons_of_mem _ hw)]
    split
    · rfl
    · have : x ≠ n := by rintro rfl; exact h v List.mem_cons_self
      simp [this]
theorem bindL_get {kindOf : Str → Option NameKind} {x : Str} {v : Value} : ∀ {P : List Str} {vs : List Value} {i : Nat} {m : Str → Option Value}, P.Nodup → P[i]? = some x → vs[i]? = some v → kindOf x = some .local →
    bindL kindOf (P.zip vs) m x = some v
  | [], _, _, _, _, h, _, _ => by simp at h
  | _ :: _, [], _, _, _, _, h, _ => by simp at h
  | p :: P, w :: vs, 0, m, nd, h1, h2, hk => by
    simp at h1 h2; subst h1; subst h2
    show bindL kindOf ((p, w) :: P.zip vs) m p = _
    unfold bindL
    rw [bindL_out fun v hv => (List.nodup_cons.mp nd).1 (List.of_mem_zip hv).1, if_pos hk]
    simp
  | p :: P, w :: vs, i + 1, m, nd, h1, h2, hk => by
    show bindL kindOf ((p, w) :: P.zip vs) m x = _
    unfold bindL
    exact bindL_get (i := i) (List.nodup_cons.mp nd).2 (by simpa using h1) (by simpa using h2) hk
theorem bindC_get {kindOf : Str → Option NameKind} {x : Str} {v : Value} : ∀ {P : List Str} {vs : List Value} {i : Nat} {m : Str → Option Value}, P.Nodup → P[i]? = some x → vs[i]? = some v → kindOf x ≠ some .local →
    bindC kindOf (P.zip vs) m x = some v
  | [], _, _, _, _, h, _, _ => by simp at h
  | _ :: _, [], _, _, _, _, h, _ => by simp at h
  | p :: P, w :: vs, 0, m, nd, h1, h2, hk => by
    simp at h1 h2; subst h1; subst h2
    show bindC kindOf ((p, w) :: P.zip vs) m p = _
    unfold bindC
    rw [bindC_out fun v hv => (List.nodup_cons.mp nd).1 (List.of_mem_zip hv).1, if_neg hk]
    simp
  | p :: P, w :: vs, i + 1, m, nd, h1, h2, hk => by
    show bindC kindOf ((p, w) :: P.zip vs) m x = _
    unfold bindC
    exact bindC_get (i := i) (List.nodup_cons.mp nd).2 (by simpa using h1) (by simpa using h2) hk

/-- the names' values at the entry -/
def start (N : List Str) (vs : List V) : St := vs.map some ++ List.replicate (N.length - vs.length) none

/-- the context of a def's body, at its entry; an exception leaves the frame, then lies as CX says -/
def cxOf (CX : CXT) (P : Program) (w : World) (K : PySem.W.Frag) (mg : Str → Option Value) (base : Heap) (N : List Str) (qual : Str) (scope : Scope) (f : Addr) (cd : Value) (A : Around) (outer : List Env) (s : Shared) (H : Hp) (E : XK) : Cx where
  prog := P
  w := w
  K := K
  mg := mg
  base := base
  A := A.deeper (envOfC qual scope s.heap.objs.size f cd)
  N := N
  s₀ := s
  H₀ := H
  env := envOfC qual scope s.heap.objs.size f cd
  outer := outer
  stack := envOfC qual scope s.heap.objs.size f cd :: outer
  ex := []
  calm := true
  fn := fun _ => true
  pn := []
  xe := fun e s' => wpAny (model P w) (A.deeper (envOfC qual scope s.heap.objs.size f cd)) (leaving (envOfC qual scope s.heap.objs.size f cd) e) (fun _ s'' => CX outer H s E e s'') (fun e' s'' => CX outer H s E e' s'') s'

theorem cell_has {sc : Scope} {n : Nat} {x : Str} (h : sc.names.lookup x = some .cell) : ∃ c, (cellsFrom n sc.names []).lookup x = some c := by
  have q := PySem.W.cellsFrom_some sc.names n [] (.inl h)
  exact Option.isSome_iff_exists.mp q

theorem inv_start {CX : CXT} {P : Program} {w : World} {K : PySem.W.Frag} {mg : Str → Option Value} {base : Heap} {N ps : List Str} {qual : Str} {scope : Scope} {f : Addr} {cd : Value} {A : Around} {outer : List Env} {s s1 : Shared} {H : Hp} {E : XK} {us : List Value} {vs : List V}
    (S : FnScope N ps scope) (hd : A.handled = none) (e0 : Env0 P w K mg base A outer s H) (hl : vs.length = ps.length) (r : Vals vs us)
    (x : InCallC s s.heap.objs.size (bindL (envOfC qual scope s.heap.objs.size f cd).kindOf (ps.zip us) fun _ => none) (cellsFrom (s.heap.objs.size + 1) scope.names []) (bindC (envOfC qual scope s.heap.objs.size f cd).kindOf (ps.zip us) fun _ => none) s1) :
    Inv (cxOf CX P w K mg base N qual scope f cd A outer s H E) [] (start N vs) H s1 := by
  have hpl : ps.length ≤ N.length := by have := congrArg List.length S.pre; rw [List.length_take] at this; omega
  obtain ⟨h1, tk, rfl, hk⟩ := x.done
  have noA : ∀ b : Addr, b ∉ (cxOf CX P w K mg base N qual scope f cd A outer s H E).ex := fun b z => absurd (show b ∈ ([] : List Addr) from z) (by simp)
  refine ⟨⟨e0.mod, S.kind, rfl, rfl, Nat.le_refl _, fun y z c h1 h2 => ?_, fun y hy => ?_, fun y c _ h => ?_, fun _ => hd, Around.frames_deeper e0.frames, .inr ⟨rfl, rfl⟩, fun b z => absurd z (noA b), e0.bs, e0.bsz, fun b _ _ => noA b, fun b z => absurd z (noA b), e0.funs, e0.frf⟩,
    rfl, e0.bare, Un.kept hk, ⟨_, x.toInCall.ns, fun i y v h1 h2 h3 => ?_⟩, fun y c h => ⟨_, x.cell y c h⟩, e0.hok.fresh (Nat.le_refl _), fun y c h => ?_, fun p hp => absurd (show p ∈ ([] : List (Addr × Obj)) from hp) (by simp), e0.hok.kept hk, ?_⟩
  · exact name_of_addr x.apart (PySem.mem_of_lookup h1) (PySem.mem_of_lookup h2)
  · have hy : scope.names.lookup y = some .cell ∨ scope.names.lookup y = some .free := hy
    rcases hy with hy | hy
    · exact cell_has hy
    · exact absurd rfl (S.nofree _ (PySem.mem_of_lookup hy))
  · exact Nat.le_of_lt (x.above y c (PySem.mem_of_lookup h))
  · have hi : i < vs.length := by
      unfold start at h2
      by_cases hi : i < vs.length
      · exact hi
      · rw [List.getElem?_append_right (by simpa using hi)] at h2
        rw [List.getElem?_replicate] at h2
        split at h2 <;> cases h2
    have ha : vs[i]? = some v := by
      unfold start at h2
      rw [List.getElem?_append_left (by simpa using hi), List.getElem?_map] at h2
      cases e : vs[i]? with
      | none => rw [e] at h2; cases h2
      | some a => rw [e] at h2; cases h2; rfl
    obtain ⟨u, hu, rv⟩ := r.get ha
    have hp : ps[i]? = some y := by
      rw [← S.pre, List.getElem?_take_of_lt (by omega)]; exact h1
    have ndP : ps.Nodup := by rw [← S.pre]; exact S.nd.sublist (List.take_sublist _ _)
    refine ⟨u, rv, ?_⟩
    rcases S.par y (List.mem_of_getElem? hp) with k | k
    · exact .inl ⟨k, bindL_get ndP hp hu k⟩
    · obtain ⟨c, e⟩ := cell_has (n := s.heap.objs.size + 1) k
      refine .inr ⟨.inl k, c, e, ?_⟩
      have q := x.cell y c e
      rw [bindC_get ndP hp hu (by show scope.names.lookup y ≠ _; rw [k]; decide)] at q
      exact q
  · exact e0.hok.fresh (Nat.le_of_lt (x.above y c (PySem.mem_of_lookup h)))
  · unfold start
    show _ = N.length
    rw [List.length_append, List.length_map, List.length_replicate]
    omega

/-- THE RULE: a def (or a method) of the text, by its body. The body's reading t is chosen for each entry; it is run at the parameters' values -/
theorem fn_of {CX : CXT} {P : Program} {w : World} {K : PySem.W.Frag} {mg : Str → Option Value} {base : Heap} {k : Nat} {f : Addr} {name qual : Str} {params : Arguments} {body : List Stmt} {scope : Scope} {dV kV doc pm cdv ct oc : Value} {an od : Option Addr}
    {osl : Array (Option Value)} {N ps : List Str} {sp : Sp} (lk : K.lookup f = some ⟨oc, od, .func (PySem.W.fnOf name qual params body scope dV kV doc pm an cdv ct), osl⟩) (hcd : PySem.W.codeIn K cdv qual = true) (S : FnScope N ps scope)
    (len : ∀ vs H Q E, sp vs H Q E → vs.length = ps.length)
    (hbody : ∀ (A : Around) (outer : List Env) (s : Shared) (H : Hp) (vs : List V) (Q : VK) (E : XK), Room k (A.deeper (envOfC qual scope s.heap.objs.size f cdv)) → sp vs H Q E →
      ∃ t, PSs (cxOf CX P w K mg base N qual scope f cdv A outer s H E) body t ∧ t { nx := fun _ H' => Q .non H', rt := Q } (start N vs) H) :
    FnOk P w K mg base CX (k + 1) f (PySem.W.fnOf name qual params body scope dV kV doc pm an cdv ct) ps sp := by
  refine ⟨len, fun A outer s H args us vs Q E hr e0 hb r hsp => ?_⟩
  have hl := len _ _ _ _ hsp
  have KX : K.In s.heap := e0.mod.kin.keeps fun b o e => (e0.bs b o e).1
  have lim : s.heap.NoLimit := e0.mod.nolimit.keeps fun b o e => (e0.bs b o e).1
  have hkind : ∀ y ∈ ps.zip us, scope.names.lookup y.1 = some .local ∨ (scope.names.lookup y.1 = some .cell ∧ ((cellsFrom (s.heap.objs.size + 1) scope.names []).lookup y.1).isSome = true) := fun ⟨n, v⟩ hy => by
    rcases S.par n (List.of_mem_zip hy).1 with q | q
    · exact .inl q
    · exact .inr ⟨q, PySem.W.cellsFrom_some _ _ _ (.inl q)⟩
  refine codeAny_call_function hr.depth (KX _ _ lk) rfl S.co S.gen rfl (PySem.W.codeRec_of KX hcd) (hb _ _ _ _ ?_)
  refine wpAny_newFunctionEnv_cells S.kind hkind fun env he s1 x => ?_
  subst he
  refine ⟨lim.keeps x.toInCall.keep, codeAny_func ?_⟩
  obtain ⟨t, ht, hq⟩ := hbody A outer s H vs Q E (hr.deeper _) hsp
  have I : Inv (cxOf CX P w K mg base N qual scope f cdv A outer s H E) [] (start N vs) H s1 := inv_start S hr.hd e0 hl r x
  refine wpAny_mono (ht [] s1 (start N vs) H _ I hq) (fun fl s' hs => ?_) fun e s' hs => hs
  have fin : ∀ {σ' : St} {H' : Hp} {v : V} {u : Value}, Inv (cxOf CX P w K mg base N qual scope f cdv A outer s H E) [] σ' H' s' → RelV v u → Q v H' → CE outer P w H s Q u s' :=
    fun {σ' H' v u} J rv q => ⟨v, H', J.os, J.bare, J.base, J.hok, rv, q⟩
  cases fl with
  | ret u =>
    obtain ⟨v, σ', H', J, rv, q⟩ := hs
    exact fin J rv q
  | next =>
    obtain ⟨σ', H', J, q⟩ := hs
    exact fin (v := V.non) (u := Value.none) J rfl q
  | brk =>
    obtain ⟨_, _, _, q⟩ := hs
    exact False.elim q
  | cont =>
    obtain ⟨_, _, _, q⟩ := hs
    exact False.elim q
end L2

namespace L2
open PySem PySem.Spec PyProof.Rows
section
variable {X : Cx} {x : Str} {p pos : Pos} {e : Expr} {es : List Expr} {t : TA} {id T : String} {r : List V → Hp → VK → Prop}

def tCB (r : List V → Hp → VK → Prop) (t : TA) : TE := fun σ H Q => t σ H fun vs H1 => r vs H1 Q
/-- f(e, ..), f a built-in function -/
theorem pe_callB (hc : CallR X (.builtin id) r) (hg : Gl X x) (hm : X.mg x = none) (hv : bootBuiltins x = some (.builtin id)) (ha : PA X (e :: es) t) (hn : x ≠ "__name__" := by decide) (hdb : (x == ("__debug__" : Str)) = false := by decide)
    (he : starEach (e :: es) X.env = (false, eval e X.env) :: starEach es X.env := by rfl) (hpl : (backTo pos (starEach es X.env)).any (·.1) = false := by rfl) : PE X (.Call (.Name x p) (e :: es) [] pos) (tCB r t) := by
  intro pins s σ H Q I h
  refine wpAny_Call_Name_kw (ld_blt I hg hm hv ?_ hn hdb)
  exact PyProof.Rows.callWith_builtin1 (thn (ha pos pins s σ H _ I h) fun us s1 ⟨vs, H1, I1, r1, q1⟩ => hc pins s1 σ H1 vs us Q I1 r1 q1) he hpl
/-- T(e, ..), T a built-in type -/
theorem pe_callTy (hc : CallR X (.type T) r) (hg : Gl X x) (hm : X.mg x = none) (hv : bootBuiltins x = some (.type T)) (ha : PA X (e :: es) t) (hn : x ≠ "__name__" := by decide) (hdb : (x == ("__debug__" : Str)) = false := by decide)
    (he : starEach (e :: es) X.env = (false, eval e X.env) :: starEach es X.env := by rfl) (hpl : (backTo pos (starEach es X.env)).any (·.1) = false := by rfl) : PE X (.Call (.Name x p) (e :: es) [] pos) (tCB r t) := by
  intro pins s σ H Q I h
  refine wpAny_Call_Name_kw (ld_blt I hg hm hv ?_ hn hdb)
  exact PyProof.Rows.callWith_type1 (thn (ha pos pins s σ H _ I h) fun us s1 ⟨vs, H1, I1, r1, q1⟩ => hc pins s1 σ H1 vs us Q I1 r1 q1) he hpl
end
end L2

namespace HT
open PySem PyProof.Rows

section
open PySem.SeqAt
open PySem.AutoSeq1 (wpAny_loadPart')
open PySem.MeetsSeq PySem.MeetsSeq2 PySem.MeetsSeq3

end

section
variable {prog : Program} {w : World} {A : Around} {E : Value → Shared → Prop} {s : Shared}

/-! ### t[a:b], not the whole -/
/-- a slice's bound as a place among n (d where it is left out) -/
def sIx (n d : Nat) : Option Int → Nat
  | none => d
  | some v => if v < 0 then (v + (n : Int)).toNat else min v.toNat n
theorem sIx_none (n d : Nat) : sIx n d none = d := rfl
theorem sIx_nat (n d k : Nat) : sIx n d (some (k : Int)) = min k n := by
  show (if (k : Int) < 0 then ((k : Int) + (n : Int)).toNat else min (k : Int).toNat n) = min k n
  rw [if_neg (by omega), Int.toNat_natCast]
end
end HT

namespace L2
open PySem PySem.Spec PyProof.Rows

/-! ### the parts of a slice -/
abbrev TO := St → Hp → (Option Int → Hp → Prop) → Prop
/-- a slice's part (left out, or an int) -/
def PO (X : Cx) (e : Option Expr) (t : TO) : Prop :=
  ∀ (pins : List (Addr × Obj)) (s : Shared) (σ : St) (H : Hp) (Q : Option Int → Hp → Prop), Inv X pins σ H s → t σ H Q →
    wpAny (model X.prog X.w) X.A (evalPart e X.env) (fun u s' => ∃ o H', Inv X pins σ H' s' ∧ IsPart u o ∧ Q o H') X.xe s
def tNoPart : TO := fun _ H Q => Q none H
def tPart (t : TE) : TO := fun σ H Q => t σ H fun x H1 => ∃ i, x = .int i ∧ Q (some i) H1

section
variable {X : Cx} {e : Expr} {te : TE} {lo hi : Option Expr} {tl th : TO} {pos p2 : Pos}

theorem po_none : PO X none tNoPart := by
  intro pins s σ H Q I h
  rw [evalPart_none]
  exact wpAny_pure ⟨none, H, I, .none, h⟩
theorem po_some (h : PE X e te) : PO X (some e) (tPart te) := by
  intro pins s σ H Q I hw
  rw [evalPart_some]
  refine thn (h pins s σ H _ I hw) fun u s1 ⟨x, H1, I1, r1, q1⟩ => ?_
  obtain ⟨i, rfl, q⟩ := q1
  obtain ⟨t, rfl⟩ := r1
  exact ⟨some i, H1, I1, .int i t, q⟩

/-- what a slice of a value is, by values: the slice object stands at sl -/
def SlR (X : Cx) (r : V → Option Int → Option Int → Hp → VK → Prop) : Prop :=
  ∀ (pins : List (Addr × Obj)) (s : Shared) (σ : St) (H : Hp) (x : V) (v vl vu : Value) (lo hi : Option Int) (sl : Addr) (Q : VK), Inv X pins σ H s → RelV x v → s.heap.IsSliceOf sl vl vu .none → IsPart vl lo → IsPart vu hi → r x lo hi H Q →
    ∃ T id, typeLookup (.type T) "__getitem__" = pure (some (.builtin id)) ∧ s.TypeIs v T ∧ wpAny (model X.prog X.w) X.A (getItem v (.ref sl)) (EP X pins σ Q) X.xe s
def tSl (r : V → Option Int → Option Int → Hp → VK → Prop) (te : TE) (tl th : TO) : TE := fun σ H Q => te σ H fun x H1 => tl σ H1 fun l H2 => th σ H2 fun u H3 => r x l u H3 Q
/-- a[lo:hi], any a -/
theorem pe_slice {r : V → Option Int → Option Int → Hp → VK → Prop} (hr : SlR X r) (he : PE X e te) (hl : PO X lo tl) (hu : PO X hi th) : PE X (.Subscript e (.Slice lo hi none p2) pos) (tSl r te tl th) := by
  intro pins s σ H Q I h
  refine Subscript_ (thn (he pins s σ H _ I h) fun v s1 ⟨x, H1, I1, r1, q1⟩ => ?_)
  refine wpAny_Slice (thn (hl pins s1 σ H1 _ I1 q1) fun vl s2 ⟨l, H2, I2, pl, q2⟩ => thn (hu pins s2 σ H2 _ I2 q2) fun vu s3 ⟨u, H3, I3, pu, q3⟩ => ?_)
  rw [evalPart_none]
  refine wpAny_pure ?_
  have I4 : Inv X pins σ H3 { s3 with heap := s3.heap.push { cls := .type "slice", data := .fields #[vl, vu, .none] } } := I3.kept (t' := s3.toks) fun b ob q => Heap.get?_push_of_some _ q
  obtain ⟨T, id, hT, ht, hg⟩ := hr pins { s3 with heap := s3.heap.push { cls := .type "slice", data := .fields #[vl, vu, .none] } } σ H3 x v vl vu l u s3.heap.objs.size Q I4 r1 (Heap.IsSliceOf.new ..) pl pu q3
  show wpAny (model X.prog X.w) X.A (subscriptTail e (.Slice lo hi none p2) v (.ref s3.heap.objs.size)) (EP X pins σ Q) X.xe { s3 with heap := s3.heap.push { cls := .type "slice", data := .fields #[vl, vu, .none] } }
  exact tail_any (ops := [.ref s3.heap.objs.size, v]) ht hT hg (by with_unfolding_all rfl)

/-- the items of xs[lo:hi] -/
def cutV (xs : List V) (lo hi : Option Int) : List V := (xs.drop (HT.sIx xs.length 0 lo)).take (HT.sIx xs.length xs.length hi - HT.sIx xs.length 0 lo)
theorem cutV_length (xs : List V) (lo hi : Option Int) : (cutV xs lo hi).length ≤ xs.length := by
  unfold cutV
  rw [List.length_take, List.length_drop]
  omega
/-! ### t < u, t + u -/
end
end L2

namespace L2
open PySem PySem.Spec PyProof.Rows

/-! ### places -/
/-- the place that an index of any sign means -/
def ixN (n : Nat) (i : Int) : Option Nat := if 0 ≤ i then (if i < n then some i.toNat else none) else if -(n : Int) ≤ i then some (i + n).toNat else none
def atI {α : Type} (xs : List α) (i : Int) : Option α := (ixN xs.length i).bind fun j => xs[j]?
theorem ixN_seq {n : Nat} {i : Int} {j : Nat} (h : ixN n i = some j) : seqIndex? i n = some j ∧ j < n ∧ -(n : Int) ≤ i ∧ i < n := by
  unfold ixN at h
  by_cases h0 : 0 ≤ i
  · rw [if_pos h0] at h
    by_cases h1 : i < n
    · rw [if_pos h1] at h
      have e : i.toNat = j := Option.some.inj h
      exact ⟨by rw [seqIndex_of h0 h1, e], by omega, by omega, h1⟩
    · rw [if_neg h1] at h; cases h
  · rw [if_neg h0] at h
    by_cases h1 : -(n : Int) ≤ i
    · rw [if_pos h1] at h
      have e : (i + n).toNat = j := Option.some.inj h
      exact ⟨by rw [seqIndex_neg (by omega) h1, e], by omega, h1, by omega⟩
    · rw [if_neg h1] at h; cases h
theorem atI_get {α : Type} {xs : List α} {i : Int} {v : α} (h : atI xs i = some v) : ∃ j, seqIndex? i xs.length = some j ∧ xs[j]? = some v ∧ j < xs.length ∧ -(xs.length : Int) ≤ i ∧ i < xs.length := by
  unfold atI at h
  cases e : ixN xs.length i with
  | none => rw [e] at h; cases h
  | some j =>
    rw [e] at h
    obtain ⟨h1, h2, h3, h4⟩ := ixN_seq e
    exact ⟨j, h1, h, h2, h3, h4⟩
theorem atI_nat {α : Type} {xs : List α} {j : Nat} {v : α} (h : xs[j]? = some v) : atI xs (j : Int) = some v := by
  have hj : j < xs.length := (List.getElem?_eq_some_iff.mp h).1
  have e : ixN xs.length (j : Int) = some j := by
    unfold ixN
    rw [if_pos (by omega), if_pos (by omega)]; simp
  unfold atI; rw [e]; exact h
/-! ### what may be subscripted -/
/-- what stands as an index of a plain subscript -/
def PlainIx (b : Expr) : Prop := ∀ o i, subscripted b false o i = operate [o, i] (getItem o i)
/-- a subscript by values -/
def IxR (X : Cx) (r : R2) : Prop :=
  ∀ (value slice : Expr) (pins : List (Addr × Obj)) (s : Shared) (σ : St) (H : Hp) (x y : V) (v u : Value) (Q : VK), Inv X pins σ H s → RelV x v → RelV y u → r x y H Q →
    subscripted slice false v u = operate [v, u] (getItem v u) → wpAny (model X.prog X.w) X.A (subscriptTail value slice v u) (EP X pins σ Q) X.xe s
/-- a call of a builtin's method by values: the receiver, the arguments -/
def MtR (X : Cx) (id : String) (r : V → List V → Hp → VK → Prop) : Prop :=
  ∀ (pins : List (Addr × Obj)) (s : Shared) (σ : St) (H : Hp) (x : V) (xs : List V) (v : Value) (us : List Value) (Q : VK), Inv X pins σ H s → RelV x v → Vals xs us → r x xs H Q →
    wpAny (model X.prog X.w) X.A (call (.builtin id) (v :: us)) (EP X pins σ Q) X.xe s
section
variable {X : Cx} {a b : Expr} {ta tb : TE} {pos : Pos}
theorem IxR.or {r r' : R2} (h : IxR X r) (h' : IxR X r') : IxR X (fun x y H Q => r x y H Q ∨ r' x y H Q) := by
  intro value slice pins s σ H x y v u Q I rx ry q hs
  rcases q with q | q
  · exact h value slice pins s σ H x y v u Q I rx ry q hs
  · exact h' value slice pins s σ H x y v u Q I rx ry q hs
/-- a[b] -/
theorem pe_ix {r : R2} (hr : IxR X r) (ha : PE X a ta) (hb : PE X b tb) (hs : PlainIx b) : PE X (.Subscript a b pos) (tOp r ta tb) := by
  intro pins s σ H Q I h
  exact Subscript_ (binT ha hb I h fun v u s2 x y H2 I2 rx ry q => hr a b pins s2 σ H2 x y v u Q I2 rx ry q (hs _ _))

def rIxL (K : PySem.W.Frag) : R2 := fun x y H Q => ∃ p xs i v, x = .ref p ∧ y = .int i ∧ SqL K H p xs ∧ atI xs i = some v ∧ Q v H
def rIxT (K : PySem.W.Frag) : R2 := fun x y H Q => ∃ p xs i v, x = .ref p ∧ y = .int i ∧ SqT K H p xs ∧ atI xs i = some v ∧ Q v H
def rIxS : R2 := fun x y H Q => ∃ z i c, x = .str z ∧ y = .int i ∧ z.length ≤ sizeLine ∧ atI z.cps.toList i = some c ∧ Q (.str ⟨#[c]⟩) H
theorem ix_list : IxR X (rIxL X.K) := by
  intro value slice pins s σ H x y v u Q I rx ry h hs
  obtain ⟨p, xs, i, z, rfl, rfl, hq, he, q⟩ := h
  cases rx
  obtain ⟨t, rfl⟩ := ry
  obtain ⟨its, r, pl, hz⟩ := I.list hq
  obtain ⟨j, h1, h2, h3, h4, h5⟩ := atI_get he
  obtain ⟨w, ew, rw'⟩ := r.get h2
  have hl := r.length
  have hn := line63
  have fin : EP X pins σ Q w s := ⟨z, H, I, rw', q⟩
  by_cases h0 : 0 ≤ i
  · have hj : i.toNat = j := by
      rw [seqIndex_of h0 h5] at h1
      exact Option.some.inj h1
    exact item_listR pl.isList h0 (by omega) (by rw [hj]; simpa using ew) fin hs
  · have hj : (i + (its.toArray.size : Int)).toNat = j := by
      rw [seqIndex_neg (by omega) h4] at h1
      rw [List.size_toArray, ← hl]
      exact Option.some.inj h1
    exact subscriptTail_builtinR (x := w) pl.isList.typeIs slot_list_getitem.lookup
      (wpAny_getItem_list_neg (Q := fun r s' => r = w ∧ EP X pins σ Q r s') pl.isList (by omega) (by rw [List.size_toArray] <;> omega) (by omega) (by rw [hj]; simpa using ew) ⟨rfl, fin⟩) hs
theorem ix_tup : IxR X (rIxT X.K) := by
  intro value slice pins s σ H x y v u Q I rx ry h hs
  obtain ⟨p, xs, i, z, rfl, rfl, hq, he, q⟩ := h
  cases rx
  obtain ⟨t, rfl⟩ := ry
  obtain ⟨its, r, pl, hz⟩ := I.tuple hq
  obtain ⟨j, h1, h2, h3, h4, h5⟩ := atI_get he
  obtain ⟨w, ew, rw'⟩ := r.get h2
  have hl := r.length
  have hn := line63
  have fin : EP X pins σ Q w s := ⟨z, H, I, rw', q⟩
  exact subscriptTail_builtinR (x := w) pl.typeIs slot_tuple_getitem.lookup
    (getItem_tuple (j := j) (Q := fun r s' => r = w ∧ EP X pins σ Q r s') pl (by omega) (by omega) (by rw [List.size_toArray, ← hl]; exact h1) (by simpa using ew) ⟨rfl, fin⟩) hs
theorem ix_str : IxR X rIxS := by
  intro value slice pins s σ H x y v u Q I rx ry h hs
  obtain ⟨z, i, c, rfl, rfl, hz, he, q⟩ := h
  obtain ⟨t, rfl⟩ := rx
  obtain ⟨t', rfl⟩ := ry
  obtain ⟨j, h1, h2, h3, h4, h5⟩ := atI_get he
  have hl : z.cps.toList.length = z.length := by simp [Str.length]
  rw [hl] at h1 h4 h5
  have hn := line63
  exact tail_any (typeIs_str s z t) slot_str_getitem.lookup (getItem_str (c := c) (by
    have e1 : decide (i < -(2 ^ 63 : Int)) = false := decide_eq_false (by omega)
    have e2 : decide (i ≥ 2 ^ 63) = false := decide_eq_false (by omega)
    rw [e1, e2, Bool.or_false]) (by rw [h1]; simpa using h2) ⟨.str ⟨#[c]⟩, H, I.tok _, ⟨_, rfl⟩, q⟩) hs
/-- list, tuple or str -/
def rIx (K : PySem.W.Frag) : R2 := fun x y H Q => rIxL K x y H Q ∨ rIxT K x y H Q ∨ rIxS x y H Q
theorem ix_seq : IxR X (rIx X.K) := ix_list.or (ix_tup.or ix_str)

/-! ### xs[i] = v, any sign -/
/-! ### slices -/
theorem slice_bounds (lo hi : Option Int) (n : Nat) : (sliceBounds lo hi none n).1 = ((HT.sIx n 0 lo : Nat) : Int) ∧ (sliceBounds lo hi none n).2.1 = ((HT.sIx n n hi : Nat) : Int) ∧ (sliceBounds lo hi none n).2.2 = 1 := by
  refine ⟨?_, ?_, rfl⟩
  · cases lo with
    | none => simp [sliceBounds, HT.sIx]
    | some i =>
      simp only [sliceBounds, HT.sIx, Option.getD_none, show (1 : Int) > 0 by decide, if_true]
      by_cases h : i < 0
      · simp only [h, if_true] <;> omega
      · simp only [h, if_false] <;> omega
  · cases hi with
    | none => simp [sliceBounds, HT.sIx]
    | some i =>
      simp only [sliceBounds, HT.sIx, Option.getD_none, show (1 : Int) > 0 by decide, if_true]
      by_cases h : i < 0
      · simp only [h, if_true] <;> omega
      · simp only [h, if_false] <;> omega
theorem slicePick_cut (its : List Value) (lo hi : Option Int) : slicePick its.toArray lo hi none = ((its.drop (HT.sIx its.length 0 lo)).take (HT.sIx its.length its.length hi - HT.sIx its.length 0 lo)).toArray := by
  obtain ⟨h1, h2, h3⟩ := slice_bounds lo hi its.toArray.size
  unfold slicePick
  rw [h1, h2, h3]
  simp only [sliceRange_one, pick_run, List.size_toArray] <;> rfl
/-- xs[lo:hi] of a list: a new list -/
def rSlL (K : PySem.W.Frag) : V → Option Int → Option Int → Hp → VK → Prop := fun x lo hi H Q => ∃ a xs, x = .ref a ∧ SqL K H a xs ∧ ∀ p, H p = none → Q (.ref p) (upd H p (.lst (cutV xs lo hi)))
theorem sl_list : SlR X (rSlL X.K) := by
  intro pins s σ H x v vl vu lo hi sl Q I rx hs pl pu h
  obtain ⟨a, xs, rfl, hx, q⟩ := h
  cases rx
  obtain ⟨its, r, ht, hz⟩ := I.list hx
  have hlen := r.length
  refine ⟨"list", _, slot_list_getitem.lookup, ht.isList.typeIs, ?_⟩
  refine wpAny_getItem_list_slice ht.isList hs pl pu .none (by simp) ?_ (by rw [List.size_toArray] <;> omega)
  rw [slicePick_cut, ← hlen]
  refine ⟨.ref s.heap.objs.size, _, I.laid (t' := s.toks) (o := .lst (cutV xs lo hi)) (fun b ob q => Heap.get?_push_of_some _ q) (Nat.le_refl _) ?_, rfl, q _ (I.hok.fresh (Nat.le_refl _))⟩
  exact ⟨Nat.le_trans (cutV_length xs lo hi) hz, _, 0, (r.drop (HT.sIx xs.length 0 lo)).take (HT.sIx xs.length xs.length hi - HT.sIx xs.length 0 lo), Heap.get?_push_size _ rfl⟩

/-! ### in, not in: flat items -/
def flatV : V → Bool
  | .non => true
  | .bl _ => true
  | .int _ => true
  | .str _ => true
  | _ => false
/-- == of flat values -/
def eqV : V → V → Bool
  | .non, .non => true
  | .bl a, .bl b => a == b
  | .bl a, .int b => (if a then 1 else 0) == b
  | .int a, .bl b => a == (if b then 1 else 0)
  | .int a, .int b => a == b
  | .str a, .str b => a == b
  | _, _ => false
theorem eqAt_V {A : Around} {s : Shared} {y x : V} {u v : Value} (ry : RelV y u) (rx : RelV x v) (fy : flatV y = true) (fx : flatV x = true) : SeqAt.EqAt A s u v (eqV y x) := by
  cases y with
  | non =>
    cases ry
    cases x with
    | non => cases rx; exact SeqAt.EqAt.same _
    | bl b => cases rx; exact SeqAt.EqAt.none_bool b
    | int b => obtain ⟨t, rfl⟩ := rx; exact SeqAt.EqAt.none_int b t
    | str b => obtain ⟨t, rfl⟩ := rx; exact SeqAt.EqAt.none_str b t
    | _ => exact absurd (show false = true from fx) Bool.false_ne_true
  | bl a =>
    cases ry
    cases x with
    | non => cases rx; exact SeqAt.EqAt.bool_none a
    | bl b => cases rx; exact SeqAt.EqAt.bool_bool a b
    | int b => obtain ⟨t, rfl⟩ := rx; exact SeqAt.EqAt.bool_int a b t
    | str b => obtain ⟨t, rfl⟩ := rx; exact SeqAt.EqAt.bool_str a b t
    | _ => exact absurd (show false = true from fx) Bool.false_ne_true
  | int a =>
    obtain ⟨t', rfl⟩ := ry
    cases x with
    | non => cases rx; exact SeqAt.EqAt.int_none a t'
    | bl b => cases rx; exact SeqAt.EqAt.int_bool a t' b
    | int b => obtain ⟨t, rfl⟩ := rx; exact SeqAt.EqAt.int_int a t' b t
    | str b => obtain ⟨t, rfl⟩ := rx; exact SeqAt.EqAt.int_str a t' b t
    | _ => exact absurd (show false = true from fx) Bool.false_ne_true
  | str a =>
    obtain ⟨t', rfl⟩ := ry
    cases x with
    | non => cases rx; exact SeqAt.EqAt.str_none a t'
    | bl b => cases rx; exact SeqAt.EqAt.str_bool a t' b
    | int b => obtain ⟨t, rfl⟩ := rx; exact SeqAt.EqAt.str_int a t' b t
    | str b => obtain ⟨t, rfl⟩ := rx; exact SeqAt.EqAt.str_str a t' b t
    | _ => exact absurd (show false = true from fx) Bool.false_ne_true
  | _ => exact absurd (show false = true from fy) Bool.false_ne_true
/-- the items' answers, read off the values (a value's own answer does not lean on its token) -/
def eqU (x : V) (u : Value) : Bool := match u with
  | .none => eqV .non x
  | .bool b => eqV (.bl b) x
  | .int i _ => eqV (.int i) x
  | .str z _ => eqV (.str z) x
  | _ => false
theorem eqU_of {x y : V} {u : Value} (r : RelV y u) (f : flatV y = true) : eqU x u = eqV y x := by
  cases y with
  | non => cases r; rfl
  | bl b => cases r; rfl
  | int i => obtain ⟨t, rfl⟩ := r; rfl
  | str z => obtain ⟨t, rfl⟩ := r; rfl
  | _ => exact absurd (show false = true from f) Bool.false_ne_true
theorem any_eqU {x : V} : ∀ {xs : List V} {us : List Value}, Vals xs us → xs.all flatV = true → us.any (eqU x) = xs.any fun y => eqV y x
  | _, _, .nil, _ => rfl
  | y :: xs, u :: us, .cons r t, f => by
    rw [List.all_cons, Bool.and_eq_true] at f
    rw [List.any_cons, List.any_cons, eqU_of r f.1, any_eqU t f.2]
theorem mem_eqAt {A : Around} {s : Shared} {x : V} {v : Value} (rx : RelV x v) (fx : flatV x = true) : ∀ {xs : List V} {us : List Value}, Vals xs us → xs.all flatV = true → ∀ u ∈ us, SeqAt.EqAt A s u v (eqU x u)
  | _, _, .nil, _ => fun u hu => by cases hu
  | y :: xs, u :: us, .cons r t, f => fun u' hu => by
    rw [List.all_cons, Bool.and_eq_true] at f
    rcases List.mem_cons.mp hu with rfl | hu
    · rw [eqU_of r f.1]; exact eqAt_V r rx f.1 fx
    · exact mem_eqAt rx fx t f.2 u' hu
def inV (x : V) (xs : List V) : Bool := xs.any fun y => eqV y x
/-- x in a list or tuple of flat items -/
def rIn (K : PySem.W.Frag) (neg : Bool) : R2 := fun x y H Q => ∃ p xs, y = .ref p ∧ (SqL K H p xs ∨ SqT K H p xs) ∧ flatV x = true ∧ xs.all flatV = true ∧ Q (.bl (if neg then !inV x xs else inV x xs)) H
theorem op_notIn_seq : OpR X (compareOp .NotIn) (rIn X.K true) := by
  intro pins s σ H x y v u Q I rx ry h
  obtain ⟨p, xs, rfl, hq, fx, fs, q⟩ := h
  cases ry
  rcases hq with hq | hq
  · obtain ⟨its, r, pl, hz⟩ := I.list hq
    refine SeqAt.notIn_listAt (eqU x) pl.isList (fun w hw => mem_eqAt rx fx r fs w (by simpa using hw)) ⟨.bl _, H, I, rfl, ?_⟩
    rw [show its.toArray.any (eqU x) = its.any (eqU x) by simp, any_eqU r fs]
    exact q
  · obtain ⟨its, r, pl, hz⟩ := I.tuple hq
    refine SeqAt.notIn_tupleAt (eqU x) pl (fun w hw => mem_eqAt rx fx r fs w (by simpa using hw)) ⟨.bl _, H, I, rfl, ?_⟩
    rw [show its.toArray.any (eqU x) = its.any (eqU x) by simp, any_eqU r fs]
    exact q
/-! ### len, list(x), tuple(x) of any list or tuple that is read -/
theorem call_len_seq : CallR X (.builtin "len") (fun xs H Q => ∃ p ys, xs = [.ref p] ∧ (SqL X.K H p ys ∨ SqT X.K H p ys) ∧ Q (.int ys.length) H) := by
  intro pins s σ H xs us Q I r h
  obtain ⟨p, ys, rfl, hq, q⟩ := h
  obtain ⟨u, rfl, rx⟩ := vals1 r
  cases rx
  have hn := line63
  rcases hq with hq | hq
  · obtain ⟨its, r', pl, hz⟩ := I.list hq
    have hlen := r'.length
    exact Calls.call_len_list pl.isList (by simp only [List.size_toArray] <;> omega) ⟨.int ys.length, H, I.tok _, ⟨s.toks + 1, by rw [List.size_toArray, hlen]⟩, q⟩
  · obtain ⟨its, r', pl, hz⟩ := I.tuple hq
    have hlen := r'.length
    exact len_tuple pl (by simp only [List.size_toArray] <;> omega) ⟨.int ys.length, H, I.tok _, ⟨s.toks + 1, by rw [List.size_toArray, hlen]⟩, q⟩
theorem call_list_of : CallR X (.type "list") (fun xs H Q => ∃ p ys, xs = [.ref p] ∧ (SqL X.K H p ys ∨ SqT X.K H p ys) ∧ ∀ l, H l = none → Q (.ref l) (upd H l (.lst ys))) := by
  intro pins s σ H xs us Q I r h
  obtain ⟨p, ys, rfl, hq, q⟩ := h
  obtain ⟨u, rfl, rx⟩ := vals1 r
  cases rx
  have fin : ∀ (its : List Value), Vals ys its → ys.length ≤ sizeLine → ∀ (h' : Heap) (c' : Nat), (∀ b o', s.heap.get? b = some o' → h'.get? b = some o') →
      h'.get? s.heap.objs.size = some { cls := .type "list", dict := none, data := .seq its.toArray c', slots := #[] } → EP X pins σ Q (.ref s.heap.objs.size) { s with heap := h' } := fun its r' hz h' c' kp e =>
    ⟨.ref s.heap.objs.size, _, I.laid (t' := s.toks) kp (Nat.le_refl _) (show ObjOk X.prog X.w _ h' _ (.lst ys) from ⟨hz, its, c', r', e⟩), rfl, q _ (I.hok.fresh (Nat.le_refl _))⟩
  rcases hq with hq | hq
  · obtain ⟨its, r', pl, hz⟩ := I.list hq
    have hlen := r'.length
    obtain ⟨o, ho, hc, n, hd⟩ := pl.isList
    exact call_list_seq p (.inl rfl) ho hc hd (fun h' c' kp e => fin its r' hz h' c' kp e) (by simp only [List.size_toArray] <;> omega)
  · obtain ⟨its, r', pl, hz⟩ := I.tuple hq
    have hlen := r'.length
    obtain ⟨o, ho, hc, n, hd⟩ := pl
    exact call_list_seq p (.inr rfl) ho hc hd (fun h' c' kp e => fin its r' hz h' c' kp e) (by simp only [List.size_toArray] <;> omega)
theorem call_tuple_of : CallR X (.type "tuple") (fun xs H Q => ∃ p ys, xs = [.ref p] ∧ ((SqL X.K H p ys ∧ ∀ l, H l = none → Q (.ref l) (upd H l (.tup ys))) ∨ (SqT X.K H p ys ∧ Q (.ref p) H))) := by
  intro pins s σ H xs us Q I r h
  obtain ⟨p, ys, rfl, h⟩ := h
  obtain ⟨u, rfl, rx⟩ := vals1 r
  cases rx
  rcases h with ⟨hq, q⟩ | ⟨hq, q⟩
  · obtain ⟨its, r', pl, hz⟩ := I.list hq
    have hlen := r'.length
    refine call_tuple_list pl.isList (fun h' kp => ?_) (by simp only [List.size_toArray] <;> omega)
    have I1 : Inv X pins σ H { s with heap := h' } := I.kept (t' := s.toks) kp
    have I2 : Inv X pins σ (upd H h'.objs.size (.tup ys)) { s with heap := h'.push { cls := .type "tuple", data := .seq its.toArray } } :=
      I1.laid (t' := s.toks) (fun b o e => Heap.get?_push_of_some _ e) (Nat.le_refl _) (show ObjOk X.prog X.w _ _ _ (.tup ys) from ⟨hz, its, r', IsTup.new _ _⟩)
    exact ⟨.ref h'.objs.size, _, I2, rfl, q _ (I1.hok.fresh (Nat.le_refl _))⟩
  · obtain ⟨its, r', pl, hz⟩ := I.tuple hq
    exact call_tuple_same pl ⟨.ref p, H, I, rfl, q⟩

/-! ### the call of a builtin's method: o.m(..) -/
/-- the value is of that builtin type -/
def tyV (K : PySem.W.Frag) (T : String) (x : V) (H : Hp) : Prop := match x with
  | .str _ => T = "str"
  | .int _ => T = "int"
  | .ref p => (T = "list" ∧ ∃ xs, SqL K H p xs) ∨ (T = "tuple" ∧ ∃ o, K.lookup p = some o ∧ o.cls = .type "tuple" ∧ o.dict = none) ∨
      (T = "dict" ∧ ((∃ kvs, H p = some (.dK kvs)) ∨ ∃ kvs, H p = some (.dT kvs))) ∨ (T = "set" ∧ ∃ S n, H p = some (.set S n))
  | _ => False
theorem tyV_is {pins : List (Addr × Obj)} {σ : St} {H : Hp} {s : Shared} {T : String} {x : V} {v : Value} (I : Inv X pins σ H s) (r : RelV x v) (ty : tyV X.K T x H) :
    s.TypeIs v T ∧ ∀ a, v = .ref a → ∃ ob, s.heap.get? a = some ob ∧ ob.dict = none := by
  cases x with
  | str z =>
    obtain ⟨t, rfl⟩ := r
    cases (show T = "str" from ty)
    exact ⟨typeIs_str s z t, fun _ e => nomatch e⟩
  | int i =>
    obtain ⟨t, rfl⟩ := r
    cases (show T = "int" from ty)
    exact ⟨typeIs_int s i t, fun _ e => nomatch e⟩
  | ref p =>
    cases r
    rcases ty with ⟨rfl, xs, hq⟩ | ⟨rfl, o, hk, hc, hd⟩ | ⟨rfl, hk⟩ | ⟨rfl, S, n, hk⟩
    · obtain ⟨its, _, pl, _⟩ := I.list hq
      refine ⟨pl.isList.typeIs, fun a e => ?_⟩
      cases e
      obtain ⟨o, n, e, c, hd, _⟩ := pl
      exact ⟨o, e, hd⟩
    · refine ⟨⟨o, I.kIn p o hk, hc⟩, fun a e => ?_⟩
      cases e
      exact ⟨o, I.kIn _ o hk, hd⟩
    · have z : ∃ o, s.heap.get? p = some o ∧ o.ExactDict := by
        rcases hk with ⟨kvs, hk⟩ | ⟨kvs, hk⟩
        · obtain ⟨_, _, _, _, o, _, _, e, ex, _⟩ := I.hok p _ hk
          exact ⟨o, e, ex⟩
        · obtain ⟨_, _, _, _, o, _, _, e, ex, _⟩ := I.hok p _ hk
          exact ⟨o, e, ex⟩
      obtain ⟨o, e, ex⟩ := z
      refine ⟨⟨o, e, ex.1⟩, fun a e2 => ?_⟩
      cases e2
      exact ⟨o, e, ex.2.1⟩
    · obtain ⟨o, _, _, _, e, ex, _⟩ := I.hok p _ hk
      refine ⟨⟨o, e, ex.1⟩, fun a e2 => ?_⟩
      cases e2
      exact ⟨o, e, ex.2.1⟩
  | _ => exact False.elim ty
def tBM0 (K : PySem.W.Frag) (T : String) (r : V → List V → Hp → VK → Prop) (to : TE) : TE := fun σ H Q => to σ H fun x H1 => tyV K T x H1 ∧ r x [] H1 Q
def tBM (K : PySem.W.Frag) (T : String) (r : V → List V → Hp → VK → Prop) (to : TE) (t : TA) : TE := fun σ H Q => to σ H fun x H1 => tyV K T x H1 ∧ t σ H1 fun xs H2 => r x xs H2 Q
variable {o e : Expr} {es : List Expr} {to : TE} {t : TA} {name : Str} {apos cpos : Pos} {T id : String} {r : V → List V → Hp → VK → Prop}
theorem pe_bm0 (pa : PlainAttrs T) (slot : Slot T name id) (hty : typeOf (.builtin id) = pure (.type "method_descriptor")) (hm : MtR X id r) (ho : PE X o to)
    (hbase : attributeBase o name X.env (eval o X.env) = eval o X.env := by rfl) (hline : (apos.endLine == cpos.line) = true := by rfl) : PE X (.Call (.Attribute o name apos) [] [] cpos) (tBM0 X.K T r to) := by
  intro pins s σ H Q I h
  refine wpAny_Call_method0_late hbase hline (thn (ho pins s σ H _ I h) fun v s1 ⟨x, H1, I1, r1, ty, q1⟩ => ?_)
  obtain ⟨h1, h2⟩ := tyV_is I1 r1 ty
  exact ⟨T, id, pa, slot, hty, h1, h2, Calls.callWith_builtin rfl (PySem.evalArgs_none (hm pins s1 σ H1 x [] v [] Q I1 r1 .nil q1))⟩
theorem pe_bm (pa : PlainAttrs T) (slot : Slot T name id) (hty : typeOf (.builtin id) = pure (.type "method_descriptor")) (hm : MtR X id r) (ho : PE X o to) (ha : PA X (e :: es) t)
    (hbase : attributeBase o name X.env (eval o X.env) = eval o X.env := by rfl)
    (hfew : ((backTo cpos (starEach (e :: es) X.env)).all (fun x => !x.1) && (backToKw cpos (keywordEach [] X.env)).all (fun x => x.1.isSome)
      && decide ((e :: es).length + ([] : List Keyword).length + (if ([] : List Keyword).isEmpty then 0 else 1) < 30)) = true := by rfl)
    (hline : (apos.endLine == cpos.line) = true := by rfl) (hs : starEach (e :: es) X.env = (false, eval e X.env) :: starEach es X.env := by rfl) (hplain : (backTo cpos (starEach es X.env)).any (·.1) = false := by rfl) :
    PE X (.Call (.Attribute o name apos) (e :: es) [] cpos) (tBM X.K T r to t) := by
  intro pins s σ H Q I h
  refine wpAny_Call_method_late hbase hfew hline rfl (thn (ho pins s σ H _ I h) fun v s1 ⟨x, H1, I1, r1, ty, q1⟩ => ?_)
  obtain ⟨h1, h2⟩ := tyV_is I1 r1 ty
  refine ⟨T, id, pa, slot, hty, h1, h2, ?_⟩
  have hA := ha cpos pins s1 σ H1 _ I1 q1
  rw [hs] at hA ⊢
  refine Calls.callWith_builtin (by show (false || (backTo cpos (starEach es X.env)).any (·.1)) = false; rw [hplain] <;> rfl) (Calls.evalArgs_plain ?_)
  exact thn hA fun us s2 ⟨vs, H2, I2, r2, q2⟩ => hm pins s2 σ H2 x vs v us Q I2 r1 r2 q2
/- xs.append(e), list.index on a module's tuple .. are MtR facts of 06m -/
end
end L2

namespace L2
open PySem PySem.Spec PyProof.Rows

def MtM (X : Cx) (id : String) (r : V → List V → Hp → VK → Prop) : Prop :=
  ∀ (pins : List (Addr × Obj)) (s : Shared) (σ : St) (H : Hp) (x : V) (xs : List V) (v : Value) (us : List Value) (Q : VK), Inv X pins σ H s → RelV x v → Vals xs us → r x xs H Q →
    wpAny (model X.prog X.w) X.A (call (.builtin id) (v :: us)) (EP X pins σ Q) X.xe s

/-! ### lists of values -/
theorem Vals.one : ∀ {x : V} {us : List Value}, Vals [x] us → ∃ u, us = [u] ∧ RelV x u
  | _, _, .cons r .nil => ⟨_, rfl, r⟩
theorem Vals.zero : ∀ {us : List Value}, Vals [] us → us = []
  | _, .nil => rfl
theorem Vals.dropLast {xs : List V} {us : List Value} (h : Vals xs us) : Vals xs.dropLast us.dropLast := by
  induction h with
  | nil => exact .nil
  | cons r t ih =>
    cases t with
    | nil => exact .nil
    | cons q t' => exact .cons r ih
theorem erase_last {α : Type} (l : List α) : l.eraseIdx (l.length - 1) = l.dropLast := by
  induction l with
  | nil => rfl
  | cons a r ih =>
    cases r with
    | nil => rfl
    | cons b r =>
      have e : (a :: b :: r).length - 1 = ((b :: r).length - 1) + 1 := by
        have h1 : (a :: b :: r).length = r.length + 2 := rfl
        have h2 : (b :: r).length = r.length + 1 := rfl
        omega
      rw [e, List.eraseIdx_cons_succ, ih]
      all_goals rfl
section
variable {X : Cx} {pins : List (Addr × Obj)} {σ : St} {H : Hp} {s : Shared} {l b : Addr} {xs ys zs : List V}

/-! ### the two steps: a tracked list is rewritten, a new list is laid -/
theorem Inv.lset {its its' : List Value} {n : Nat} {f : Array Value → Array Value} {t' : Nat} (I : Inv X pins σ H s) (hH : H l = some (.lst xs))
    (e : s.heap.get? l = some { cls := .type "list", data := .seq its.toArray n }) (hf : f its.toArray = its'.toArray) (hv : Vals ys its') (hz : ys.length ≤ sizeLine) :
    Inv X pins σ (upd H l (.lst ys)) { s with heap := s.heap.update l (Obj.mapSeq f), toks := t' } := by
  have q := PySem.IsL.update e f
  rw [hf] at q
  refine I.write (x := l) (e := l) (by rw [hH]; exact trivial) (.inl rfl) (fun b' u hb hu => (Heap.get?_update_other s.heap (Obj.mapSeq f) (Ne.symm hb)).trans hu) ⟨_, q⟩ ?_
  exact ⟨hz, its', _, hv, q⟩
theorem Inv.lnew {its : List Value} {t' : Nat} (I : Inv X pins σ H s) (hv : Vals ys its) (hz : ys.length ≤ sizeLine) :
    Inv X pins σ (upd H s.heap.objs.size (.lst ys)) { s with heap := s.heap.push { cls := .type "list", data := .seq its.toArray }, toks := t' } :=
  I.laid (fun _ _ q => Heap.get?_push_of_some _ q) (Nat.le_refl _) ⟨hz, its, 0, hv, Heap.get?_push_size _ rfl⟩
theorem Inv.fresh (I : Inv X pins σ H s) : H s.heap.objs.size = none := I.hok.fresh (Nat.le_refl _)
theorem Inv.lstM (I : Inv X pins σ H s) (hH : H l = some (.lst xs)) : xs.length ≤ sizeLine ∧ ∃ (its : List Value) (n : Nat), Vals xs its ∧ xs.length = its.length ∧ s.heap.get? l = some { cls := .type "list", data := .seq its.toArray n } := by
  obtain ⟨z, its, n, r, e⟩ := I.hok l _ hH
  exact ⟨z, its, n, r, r.length, e⟩

theorem notLongL {n : Nat} (h : n ≤ sizeLine) : Builtin.List.listTooLong n = false := by
  unfold Builtin.List.listTooLong
  exact decide_eq_false (by omega)
end

section
variable {X : Cx}

/-! ### methods -/
def rAppend : V → List V → Hp → VK → Prop := fun x vs H Q => ∃ l xs y, x = .ref l ∧ vs = [y] ∧ H l = some (.lst xs) ∧ xs.length < sizeLine ∧ Q .non (upd H l (.lst (xs ++ [y])))
theorem mt_append : MtM X "list.append" rAppend := by
  intro pins s σ H x vs v us Q I rx rv h
  obtain ⟨l, xs, y, rfl, rfl, hH, hz, q⟩ := h
  cases rx
  obtain ⟨u, rfl, ru⟩ := rv.one
  obtain ⟨z, its, n, r, hl, e⟩ := I.lstM hH
  refine call_meets F.slot_list_append ⟨_, e, rfl⟩ F.entry_list_append (F.args_list_append_2 _ _) (PySem.list_append l its.toArray n u (by rw [List.size_toArray]; omega)) ⟨e, ?_⟩
  refine ⟨.non, _, I.lset (its' := its ++ [u]) hH e (by simp) (r.append (.cons ru .nil)) ?_, rfl, q⟩
  rw [List.length_append, List.length_singleton]
  omega

def rExtend : V → List V → Hp → VK → Prop := fun x vs H Q => ∃ l b xs zs, x = .ref l ∧ vs = [.ref b] ∧ H l = some (.lst xs) ∧ H b = some (.lst zs) ∧ xs.length + zs.length ≤ sizeLine ∧ Q .non (upd H l (.lst (xs ++ zs)))
theorem mt_extend : MtM X "list.extend" rExtend := by
  intro pins s σ H x vs v us Q I rx rv h
  obtain ⟨l, b, xs, zs, rfl, rfl, hH, hB, hz, q⟩ := h
  cases rx
  obtain ⟨u, rfl, ru⟩ := rv.one
  cases ru
  obtain ⟨z, its, n, r, hl, e⟩ := I.lstM hH
  obtain ⟨z2, its2, n2, r2, hl2, e2⟩ := I.lstM hB
  have hsz : its.toArray.size + its2.toArray.size ≤ sizeLine := by rw [List.size_toArray, List.size_toArray]; omega
  have hlong : ¬ (!its.toArray.isEmpty && Builtin.List.listTooLong (its.toArray.size + its2.toArray.size)) = true := by
    rw [notLongL hsz, Bool.and_false]
    exact Bool.false_ne_true
  refine call_meets F.slot_list_extend ⟨_, e, rfl⟩ F.entry_list_extend (F.args_list_extend_2 _ _)
    (AutoSeq1.list_extend_list_list_0 l its.toArray n b its2.toArray n2 hlong (by rw [List.size_toArray]; omega) (by omega)) ⟨e, e2, ?_⟩
  refine ⟨.non, _, I.lset (its' := its ++ its2) hH e (by simp) (r.append r2) ?_, rfl, q⟩
  rw [List.length_append]
  omega

def rPop : V → List V → Hp → VK → Prop := fun x vs H Q => ∃ l xs y, x = .ref l ∧ vs = [] ∧ H l = some (.lst xs) ∧ xs[xs.length - 1]? = some y ∧ Q y (upd H l (.lst xs.dropLast))
theorem mt_pop : MtM X "list.pop" rPop := by
  intro pins s σ H x vs v us Q I rx rv h
  obtain ⟨l, xs, y, rfl, rfl, hH, hy, q⟩ := h
  cases rx
  have hus := rv.zero
  subst hus
  obtain ⟨z, its, n, r, hl, e⟩ := I.lstM hH
  obtain ⟨u, hu, ru⟩ := r.get hy
  have hy' : its.toArray[its.toArray.size - 1]? = some u := by
    show its.toArray[its.length - 1]? = some u
    rw [← Array.getElem?_toList, ← hl]
    exact hu
  refine call_meets F.slot_list_pop ⟨_, e, rfl⟩ F.entry_list_pop (F.args_list_pop_1 _) (MeetsSeq.list_pop_last l its.toArray n u hy' (by rw [List.size_toArray]; omega)) ⟨e, ?_⟩
  refine ⟨y, _, I.lset (its' := its.dropLast) hH e ?_ r.dropLast ?_, ru, q⟩
  · show its.toArray.eraseIdxIfInBounds (its.toArray.size - 1) = its.dropLast.toArray
    rw [List.size_toArray, List.eraseIdxIfInBounds_toArray, erase_last]
  · rw [List.length_dropLast]
    omega

/-! ### list + list, list += list, list * int -/
def rCat : R2 := fun x y H Q => ∃ l b xs zs, x = .ref l ∧ y = .ref b ∧ H l = some (.lst xs) ∧ H b = some (.lst zs) ∧ xs.length + zs.length ≤ sizeLine ∧ ∀ p, H p = none → Q (.ref p) (upd H p (.lst (xs ++ zs)))
theorem op_cat : OpR X (binaryOp .Add) rCat := by
  intro pins s σ H x y v u Q I rx ry h
  obtain ⟨l, b, xs, zs, rfl, rfl, hH, hB, hz, q⟩ := h
  cases rx
  cases ry
  obtain ⟨z, its, n, r, hl, e⟩ := I.lstM hH
  obtain ⟨z2, its2, n2, r2, hl2, e2⟩ := I.lstM hB
  refine PySem.P.add_list e e2 ?_ (by rw [List.size_toArray, List.size_toArray]; omega)
  have ea : its.toArray ++ its2.toArray = (its ++ its2).toArray := by simp
  rw [ea]
  exact ⟨.ref _, _, I.lnew (t' := s.toks) (r.append r2) (by rw [List.length_append]; omega), rfl, q _ I.fresh⟩
/-! ### del xs[i] -/
end

/-! ### xs[a:b] = ys -/
section
variable {prog : Program} {w : World} {A : Around} {E : Value → Shared → Prop} {s : Shared}
end

section
variable {X : Cx}
end
end L2

namespace L2
open PySem PySem.Spec PyProof.Rows

/-! ### lists of pairs as tables -/
section
variable {κ : Type} [DecidableEq κ]
def valV (kvs : List (κ × V)) (k : κ) : Option V := (kvs.find? fun kv => decide (kv.1 = k)).map (·.2)
/-- in its place, or at the end -/
def putK (kvs : List (κ × V)) (k : κ) (v : V) : List (κ × V) :=
  if (kvs.any fun kv => decide (kv.1 = k)) = true then kvs.map (fun kv => if kv.1 = k then (kv.1, v) else kv) else kvs ++ [(k, v)]
theorem valV_pos {p : κ × V} {r : List (κ × V)} {k : κ} (e : p.1 = k) : valV (p :: r) k = some p.2 := by simp [valV, List.find?_cons, e]
theorem valV_neg {p : κ × V} {r : List (κ × V)} {k : κ} (e : ¬ p.1 = k) : valV (p :: r) k = valV r k := by simp [valV, List.find?_cons, e]
theorem valV_any (k : κ) : ∀ kvs : List (κ × V), (kvs.any fun kv => decide (kv.1 = k)) = (valV kvs k).isSome
  | [] => rfl
  | p :: r => by
    rw [List.any_cons]
    by_cases e : p.1 = k
    · simp only [valV_pos e, decide_eq_true e, Bool.true_or, Option.isSome_some]
    · rw [valV_neg e, decide_eq_false e, Bool.false_or]; exact valV_any k r
theorem valV_map (k j : κ) (y : V) : ∀ kvs : List (κ × V), valV (kvs.map fun kv => if kv.1 = k then (kv.1, y) else kv) j = (valV kvs j).map fun x => if j = k then y else x
  | [] => rfl
  | p :: r => by
    have ih := valV_map k j y r
    rw [List.map_cons]
    by_cases h : p.1 = k
    · rw [if_pos h]
      by_cases e : p.1 = j
      · rw [valV_pos (p := (p.1, y)) e, valV_pos e, Option.map_some, if_pos (e.symm.trans h)]
      · rw [valV_neg (p := (p.1, y)) e, valV_neg e, ih]
    · rw [if_neg h]
      by_cases e : p.1 = j
      · rw [valV_pos (p := p) e, valV_pos e, Option.map_some, if_neg (fun z => h (e.trans z))]
      · rw [valV_neg (p := p) e, valV_neg e, ih]
theorem valV_snoc (k j : κ) (y : V) : ∀ kvs : List (κ × V), valV kvs k = none → valV (kvs ++ [(k, y)]) j = if j = k then some y else valV kvs j
  | [], _ => by
    by_cases e : k = j
    · rw [if_pos e.symm]; exact valV_pos (p := (k, y)) e
    · rw [if_neg (fun z => e z.symm)]; exact valV_neg (p := (k, y)) e
  | p :: r, hn => by
    rw [List.cons_append]
    have hk : ¬ p.1 = k := fun z => by rw [valV_pos z] at hn; cases hn
    rw [valV_neg hk] at hn
    have ih := valV_snoc k j y r hn
    by_cases e : p.1 = j
    · rw [valV_pos e, valV_pos e, if_neg (fun z => hk (e.trans z))]
    · rw [valV_neg e, valV_neg e, ih]
theorem valV_put (kvs : List (κ × V)) (k j : κ) (y : V) : valV (putK kvs k y) j = if j = k then some y else valV kvs j := by
  unfold putK
  by_cases a : (kvs.any fun kv => decide (kv.1 = k)) = true
  · rw [if_pos a, valV_map]
    rw [valV_any] at a
    by_cases e : j = k
    · obtain ⟨x, hx⟩ := Option.isSome_iff_exists.mp a
      rw [if_pos e, e, hx, Option.map_some, if_pos rfl]
    · rw [if_neg e]
      cases valV kvs j with
      | none => rfl
      | some x => rw [Option.map_some, if_neg e]
  · rw [if_neg a]
    refine valV_snoc k j y kvs ?_
    rw [valV_any] at a
    cases q : valV kvs k with
    | none => rfl
    | some x => rw [q] at a; exact (a rfl).elim
theorem length_putK (kvs : List (κ × V)) (k : κ) (v : V) : (putK kvs k v).length ≤ kvs.length + 1 := by
  unfold putK
  split
  · rw [List.length_map]; omega
  · rw [List.length_append, List.length_cons, List.length_nil]; omega
theorem RelO.isSome_eq {o : Option V} {u : Option Value} (r : RelO o u) : o.isSome = u.isSome := by
  cases o with
  | none => cases u with
    | none => rfl
    | some _ => exact (show False from r).elim
  | some _ => cases u with
    | none => exact (show False from r).elim
    | some _ => rfl
theorem RelO.getD {o : Option V} {u : Option Value} {d : V} {d' : Value} (r : RelO o u) (rd : RelV d d') : RelV (o.getD d) (u.getD d') := by
  cases o with
  | none => cases u with
    | none => exact rd
    | some _ => exact (show False from r).elim
  | some _ => cases u with
    | none => exact (show False from r).elim
    | some _ => exact r

/-- raw tables of the same keys -/
theorem KV.val {kvs : List (κ × V)} {vs : List (κ × Value)} (r : KV kvs vs) (k : κ) : RelO (valV kvs k) (valueAt vs k) := by
  unfold KV at r
  induction r with
  | nil => exact True.intro
  | @cons p q ps qs h t ih =>
    obtain ⟨h1, h2⟩ := h
    by_cases e : p.1 = k
    · have e' : q.1 = k := h1.symm.trans e
      have b : valueAt (q :: qs) k = some q.2 := by simp [valueAt, List.find?_cons, e']
      rw [valV_pos e, b]; exact h2
    · have e' : ¬ q.1 = k := fun z => e (h1.trans z)
      have b : valueAt (q :: qs) k = valueAt qs k := by simp [valueAt, List.find?_cons, e']
      rw [valV_neg e, b]; exact ih
theorem KV.any {kvs : List (κ × V)} {vs : List (κ × Value)} (r : KV kvs vs) (k : κ) : (kvs.any fun kv => decide (kv.1 = k)) = vs.any fun kv => decide (kv.1 = k) := by
  unfold KV at r
  induction r with
  | nil => rfl
  | cons h t ih => rw [List.any_cons, List.any_cons, ih, h.1]
theorem KV.repl {kvs : List (κ × V)} {vs : List (κ × Value)} (r : KV kvs vs) (k : κ) {y : V} {u : Value} (ry : RelV y u) :
    KV (kvs.map fun kv => if kv.1 = k then (kv.1, y) else kv) (vs.map fun kv => if kv.1 = k then (kv.1, u) else kv) := by
  unfold KV at r ⊢
  induction r with
  | nil => exact .nil
  | @cons p q ps qs h t ih =>
    rw [List.map_cons, List.map_cons]
    refine .cons ?_ ih
    obtain ⟨h1, h2⟩ := h
    by_cases e : p.1 = k
    · rw [if_pos e, if_pos (h1.symm.trans e)]; exact ⟨h1, ry⟩
    · rw [if_neg e, if_neg (fun z => e (h1.trans z))]; exact ⟨h1, h2⟩
theorem KV.put {kvs : List (κ × V)} {vs : List (κ × Value)} (r : KV kvs vs) (k : κ) {y : V} {u : Value} (ry : RelV y u) : KV (putK kvs k y) (stored vs k u) := by
  unfold putK stored
  rw [r.any k]
  by_cases e : (vs.any fun kv => decide (kv.1 = k)) = true
  · rw [if_pos e, if_pos e]; exact r.repl k ry
  · rw [if_neg e, if_neg e]; exact Paired.snoc r ⟨rfl, ry⟩
theorem KV.keys {kvs : List (κ × V)} {vs : List (κ × Value)} (r : KV kvs vs) : kvs.map (·.1) = vs.map (·.1) := by
  unfold KV at r
  induction r with
  | nil => rfl
  | cons h t ih => rw [List.map_cons, List.map_cons, ih, h.1]
theorem KV.length {kvs : List (κ × V)} {vs : List (κ × Value)} (r : KV kvs vs) : kvs.length = vs.length := Paired.length r
end


/-! ### a tracked dict, its keys ints and texts or tuples of these -/
theorem kV_is {P : Program} {w : World} {k : Key} {u : Value} (r : RelV (kV k) u) : (mixKind P w).is k u = true := by
  cases k with
  | inl i => obtain ⟨t, e⟩ := (show ∃ t, u = Value.int i t from r); subst e; exact mixKind_int P w i t
  | inr x => obtain ⟨t, e⟩ := (show ∃ t, u = Value.str x t from r); subst e; exact mixKind_str P w x t
theorem items_are {P : Program} {w : World} : ∀ {ks : List Key} {us : List Value}, Vals (ks.map kV) us → ItemsAre (mixKind P w) ks us
  | [], _, r => by rw [List.map_nil] at r; cases r; exact .nil
  | k :: ks, _, r => by
    rw [List.map_cons] at r
    cases r with
    | cons h t => exact .cons (kV_is h) (items_are t)

/-- raw entries of a dict with tuple keys -/
abbrev KT (H : Hp) : List (List Key × V) → List (List Key × Addr × Value) → Prop := Paired fun p q => p.1 = q.1 ∧ H q.2.1 = some (.tup (p.1.map kV)) ∧ RelV p.2 q.2.2
theorem KT.val {H : Hp} {kvs : List (List Key × V)} {xs : List (List Key × Addr × Value)} (r : KT H kvs xs) (k : List Key) : RelO (valV kvs k) ((atKey xs k).map (·.2)) := by
  induction r with
  | nil => exact True.intro
  | @cons p q ps qs h t ih =>
    obtain ⟨h1, _, h2⟩ := h
    by_cases e : p.1 = k
    · have e' : q.1 = k := h1.symm.trans e
      have b : atKey (q :: qs) k = some q.2 := by simp [atKey, List.find?_cons, e']
      rw [valV_pos e, b]; exact h2
    · have e' : ¬ q.1 = k := fun z => e (h1.trans z)
      have b : atKey (q :: qs) k = atKey qs k := by simp [atKey, List.find?_cons, e']
      rw [valV_neg e, b]; exact ih
theorem KT.repl {H : Hp} {kvs : List (List Key × V)} {xs : List (List Key × Addr × Value)} (r : KT H kvs xs) (k : List Key) {y : V} {u : Value} (ry : RelV y u) :
    KT H (kvs.map fun kv => if kv.1 = k then (kv.1, y) else kv) (xs.map (putAt k u)) := by
  induction r with
  | nil => exact .nil
  | @cons p q ps qs h t ih =>
    rw [List.map_cons, List.map_cons]
    refine .cons ?_ ih
    obtain ⟨h1, h2, h3⟩ := h
    unfold putAt
    by_cases e : p.1 = k
    · rw [if_pos e, if_pos (h1.symm.trans e)]; exact ⟨h1, h2, ry⟩
    · rw [if_neg e, if_neg (fun z => e (h1.trans z))]; exact ⟨h1, h2, h3⟩
theorem KT.put {H : Hp} {kvs : List (List Key × V)} {xs : List (List Key × Addr × Value)} (r : KT H kvs xs) (k : List Key) {b : Addr} {y : V} {u : Value} (hb : H b = some (.tup (k.map kV))) (ry : RelV y u) :
    KT H (putK kvs k y) (storedH xs k b u) := by
  have e : (kvs.any fun kv => decide (kv.1 = k)) = (atKey xs k).isSome := by
    rw [valV_any, (r.val k).isSome_eq, Option.isSome_map]
  unfold putK storedH
  rw [e]
  by_cases q : (atKey xs k).isSome = true
  · rw [if_pos q, if_pos q]; exact r.repl k ry
  · rw [if_neg q, if_neg q]; exact Paired.snoc r ⟨rfl, hb, ry⟩
theorem KT.keeps {H H' : Hp} {kvs : List (List Key × V)} {xs : List (List Key × Addr × Value)} (r : KT H kvs xs) (ht : ∀ b ys, H b = some (.tup ys) → H' b = some (.tup ys)) : KT H' kvs xs :=
  Paired.mapP r fun _ _ z => ⟨z.1, ht _ _ z.2.1, z.2.2⟩

section
variable {P : Program} {w : World} {H : Hp} {h : Heap} {a : Addr}
theorem rd_of {u : HO} (ok : HOk P w H h) (e : Rd H a u) : ObjOk P w H h a u := e.ok ok
theorem dk_rd {kvs : List (Key × V)} (ok : HOk P w H h) (e : Rd H a (.dK kvs)) : kvs.length ≤ sizeLine ∧ (a == sysModules) = false ∧ ∃ vs, KV kvs vs ∧ h.DictOf (mixKind P w) a vs :=
  show ObjOk P w H h a (.dK kvs) from rd_of ok e
theorem dk_of {kvs : List (Key × V)} (ok : HOk P w H h) (e : H a = some (.dK kvs)) : kvs.length ≤ sizeLine ∧ (a == sysModules) = false ∧ ∃ vs, KV kvs vs ∧ h.DictOf (mixKind P w) a vs := dk_rd ok (.inl e)
/-- a tracked tuple of ints and texts is a key -/
theorem key_of {ks : List Key} (ok : HOk P w H h) (e : H a = some (.tup (ks.map kV))) : (tupleKind (mixKind P w)).is h ks a := by
  obtain ⟨_, its, r, o, h1, h2, n, h3⟩ := (show ObjOk P w H h a (.tup (ks.map kV)) from ok a _ e)
  exact ⟨o, its.toArray, n, h1, h2, h3, by simpa using items_are r⟩
theorem dt_rd {kvs : List (List Key × V)} (ok : HOk P w H h) (e : Rd H a (.dT kvs)) : kvs.length ≤ sizeLine ∧ (a == sysModules) = false ∧
    ∃ xs, KT H kvs xs ∧ h.DictOfH (tupleKind (mixKind P w)) a xs := by
  obtain ⟨z, y, xs, r, o, es, ep, h1, h2, h3, h4, h5⟩ := (show ObjOk P w H h a (.dT kvs) from rd_of ok e)
  refine ⟨z, y, xs, r, o, es, ep, h1, h2, h3, h4, fun x hx => ?_, h5⟩
  have all : ∀ {l : List (List Key × V)} {m : List (List Key × Addr × Value)}, KT H l m → ∀ x ∈ m, (tupleKind (mixKind P w)).is h x.1 x.2.1 := by
    intro l m q
    induction q with
    | nil => intro x hx; exact nomatch hx
    | @cons p q ps qs hq t ih =>
      intro x hx
      rcases List.mem_cons.mp hx with e | hx
      · subst e
        exact key_of ok (by rw [← hq.1]; exact hq.2.1)
      · exact ih x hx
  exact all r x hx
theorem dt_of {kvs : List (List Key × V)} (ok : HOk P w H h) (e : H a = some (.dT kvs)) : kvs.length ≤ sizeLine ∧ (a == sysModules) = false ∧
    ∃ xs, KT H kvs xs ∧ h.DictOfH (tupleKind (mixKind P w)) a xs := dt_rd ok (.inl e)
end

/-- what the dict at a holds at the key y -/
def DGet (H : Hp) (a : Addr) (y : V) (r : Option V) : Prop :=
  (∃ kvs k, Rd H a (.dK kvs) ∧ y = kV k ∧ r = valV kvs k) ∨ ∃ kvs k b, Rd H a (.dT kvs) ∧ y = .ref b ∧ H b = some (.tup (k.map kV)) ∧ r = valV kvs k
/-- the heap behind a[y] = v -/
def DPut (H : Hp) (a : Addr) (y v : V) (H' : Hp) : Prop :=
  (∃ kvs k, H a = some (.dK kvs) ∧ y = kV k ∧ kvs.length < sizeLine ∧ H' = upd H a (.dK (putK kvs k v))) ∨
  ∃ kvs k b, H a = some (.dT kvs) ∧ y = .ref b ∧ H b = some (.tup (k.map kV)) ∧ kvs.length < sizeLine ∧ H' = upd H a (.dT (putK kvs k v))
theorem DGet.k {H : Hp} {a : Addr} {kvs : List (Key × V)} {k : Key} (e : H a = some (.dK kvs)) : DGet H a (kV k) (valV kvs k) := .inl ⟨kvs, k, .inl e, rfl, rfl⟩
theorem DPut.k {H : Hp} {a : Addr} {kvs : List (Key × V)} {k : Key} {v : V} (e : H a = some (.dK kvs)) (hl : kvs.length < sizeLine) : DPut H a (kV k) v (upd H a (.dK (putK kvs k v))) := .inl ⟨kvs, k, e, rfl, hl, rfl⟩
section
variable {X : Cx} {pins : List (Addr × Obj)} {σ : St} {H : Hp} {s : Shared} {a : Addr} {y v : V} {u r : Value} {o : Option V} {A : Around} {E : Value → Shared → Prop}

theorem Inv.big (I : Inv X pins σ H s) : sysModules < s.heap.objs.size := by
  have h : mainGlobals < s.heap.objs.size := (I.mod.glob.keeps I.bk).lt
  exact Nat.lt_trans (by decide) h

/-- d[y], there -/
theorem d_getItem {Q : Value → Shared → Prop} (hu : A.units + 1 < cLine) (I : Inv X pins σ H s) (g : DGet H a y (some v)) (ry : RelV y u) (h : ∀ w' s', Inv X pins σ H s' → RelV v w' → Q w' s') :
    wpAny (model X.prog X.w) A (getItem (.ref a) u) Q E s := by
  rcases g with ⟨kvs, k, e, ey, l⟩ | ⟨kvs, k, b, e, ey, eb, l⟩
  · subst ey
    obtain ⟨z, hd, vs, rel, dd⟩ := dk_rd I.hok e
    obtain ⟨w', hw, rw'⟩ := RelO.some_of (v := v) (o := valueAt vs k) (by rw [l]; exact rel.val k)
    exact wpAny_getItem_of (kV_is ry) dd.mapOf hw (h w' _ (I.tok _) rw')
  · subst ey
    cases (show u = Value.ref b from ry)
    obtain ⟨z, hd, xs, rel, dd⟩ := dt_rd I.hok e
    obtain ⟨w', hw, rw'⟩ := RelO.some_of (v := v) (o := (atKey xs k).map (·.2)) (by rw [l]; exact rel.val k)
    obtain ⟨p, hp, hp2⟩ := Option.map_eq_some_iff.mp hw
    refine wpAny_getItem_heap (tupleKind_room_in1 hu) (key_of I.hok eb) dd hp ?_
    rw [hp2]
    exact h w' _ (I.tok _) rw'
/-- y in d -/
theorem d_in {Q : Value → Shared → Prop} (hu : A.units + 1 < cLine) (I : Inv X pins σ H s) (g : DGet H a y o) (ry : RelV y u) (h : ∀ s', Inv X pins σ H s' → Q (.bool o.isSome) s') :
    wpAny (model X.prog X.w) A (compareOp .In u (.ref a)) Q E s := by
  rcases g with ⟨kvs, k, e, ey, l⟩ | ⟨kvs, k, b, e, ey, eb, l⟩
  · subst ey
    obtain ⟨z, hd, vs, rel, dd⟩ := dk_rd I.hok e
    refine wpAny_in_of (kV_is ry) hd dd.mapOf ?_
    rw [← (rel.val k).isSome_eq, ← l]
    exact h _ (I.tok _)
  · subst ey
    cases (show u = Value.ref b from ry)
    obtain ⟨z, hd, xs, rel, dd⟩ := dt_rd I.hok e
    refine wpAny_in_heap (tupleKind_room_in1 hu) (key_of I.hok eb) hd dd ?_
    have q := (rel.val k).isSome_eq
    rw [Option.isSome_map] at q
    rw [← q, ← l]
    exact h _ (I.tok _)
theorem d_notIn {Q : Value → Shared → Prop} (hu : A.units + 1 < cLine) (I : Inv X pins σ H s) (g : DGet H a y o) (ry : RelV y u) (h : ∀ s', Inv X pins σ H s' → Q (.bool (!o.isSome)) s') :
    wpAny (model X.prog X.w) A (compareOp .NotIn u (.ref a)) Q E s := by
  rcases g with ⟨kvs, k, e, ey, l⟩ | ⟨kvs, k, b, e, ey, eb, l⟩
  · subst ey
    obtain ⟨z, hd, vs, rel, dd⟩ := dk_rd I.hok e
    refine wpAny_notIn_of (kV_is ry) hd dd.mapOf ?_
    rw [← (rel.val k).isSome_eq, ← l]
    exact h _ (I.tok _)
  · subst ey
    cases (show u = Value.ref b from ry)
    obtain ⟨z, hd, xs, rel, dd⟩ := dt_rd I.hok e
    refine wpAny_notIn_heap (tupleKind_room_in1 hu) (key_of I.hok eb) hd dd ?_
    have q := (rel.val k).isSome_eq
    rw [Option.isSome_map] at q
    rw [← q, ← l]
    exact h _ (I.tok _)
/-- a dict's object is replaced -/
theorem d_write {h' : Heap} {t' : Nat} {ob : HO} (I : Inv X pins σ H s) (mu : Mut (H a)) (hs : Heap.SameBut a s.heap h') (he : ∃ q, h'.get? a = some q) (new : ObjOk X.prog X.w (upd H a ob) h' a ob) :
    Inv X pins σ (upd H a ob) { s with heap := h', toks := t' } :=
  I.write (x := a) (e := a) mu (.inl rfl) (fun b q hb z => (hs.2 b hb).trans z) he new
theorem dk_new {P : Program} {w : World} {H' : Hp} {h' : Heap} {kvs : List (Key × V)} {vs : List (Key × Value)} (z : kvs.length ≤ sizeLine) (hd : (a == sysModules) = false) (rel : KV kvs vs) (dd : h'.DictOf (mixKind P w) a vs) :
    ObjOk P w H' h' a (.dK kvs) := ⟨z, hd, vs, rel, dd⟩
/-- d[y] = v -/
theorem d_setItem {H' : Hp} {Q : Unit → Shared → Prop} (hu : A.units + 1 < cLine) (I : Inv X pins σ H s) (g : DPut H a y v H') (ry : RelV y u) (rv : RelV v r) (h : ∀ s', Inv X pins σ H' s' → Q () s') :
    wpAny (model X.prog X.w) A (setItem (.ref a) u r) Q E s := by
  rcases g with ⟨kvs, k, e, ey, l, eH⟩ | ⟨kvs, k, b, e, ey, eb, l, eH⟩
  · subst ey eH
    obtain ⟨z, hd, vs, rel, dd⟩ := dk_of I.hok e
    have hz : vs.length ≤ sizeLine := by rw [← rel.length]; exact z
    have hl : (putK kvs k v).length ≤ sizeLine := by have := length_putK kvs k v; omega
    refine wpAny_setItem_pairs (hsz := hz) (kV_is ry) dd fun h' dd' hs => h _ ?_
    have he : ∃ q, h'.get? a = some q := let ⟨q, _, _, hq, _⟩ := dd'; ⟨q, hq⟩
    exact d_write I (by rw [e]; exact True.intro) hs he (dk_new hl hd (rel.put k rv) dd')
  · subst ey eH
    cases (show u = Value.ref b from ry)
    obtain ⟨z, hd, xs, rel, dd⟩ := dt_of I.hok e
    have hz : xs.length ≤ sizeLine := by rw [← Paired.length rel]; exact z
    have hl : (putK kvs k v).length ≤ sizeLine := by have := length_putK kvs k v; omega
    refine wpAny_setItem_heap (hsz := hz) (tupleKind_room_in1 hu) (key_of I.hok eb) dd fun h' dd' hs => h _ ?_
    obtain ⟨q, es, ep, hq, h2, h3, h4, _, h5⟩ := dd'
    refine d_write I (by rw [e]; exact True.intro) hs ⟨q, hq⟩ ⟨hl, hd, _, (rel.put k eb rv).keeps fun c ys ec => ?_, q, es, ep, hq, h2, h3, h4, h5⟩
    rw [upd_ne (ne_of ec e (fun z => nomatch z))]
    exact ec
end

section
variable {X : Cx} {pins : List (Addr × Obj)} {σ : St} {H : Hp} {s : Shared} {a : Addr} {kvs : List (Key × V)} {k : Key} {u : Value} {A : Around} {E : Value → Shared → Prop}
end


/-! ### readings and rules -/
/-- the element of a subscription, not a slice -/
def NoSl (i : Expr) : Prop := ∀ ov iv, subscripted i false ov iv = operate [ov, iv] (getItem ov iv)
theorem subD_of {prog : Program} {w : World} {A : Around} {E : Value → Shared → Prop} {s : Shared} {env : Env} {value slice : Expr} {pos : Pos} {T id : String} {Q : Value → Shared → Prop}
    (hl : typeLookup (.type T) "__getitem__" = pure (some (.builtin id))) (hs : NoSl slice)
    (h : wpAny (model prog w) A (eval value env) (fun o s₁ => wpAny (model prog w) A (eval slice env) (fun i s₂ => s₂.TypeIs o T ∧ wpAny (model prog w) A (getItem o i) Q E s₂) E s₁) E s) :
    wpAny (model prog w) A (eval (.Subscript value slice pos) env) Q E s := by
  refine Subscript_ (wpAny_mono h (fun o s₁ h₁ => wpAny_mono h₁ (fun i s₂ h₂ => ?_) fun _ _ x => x) fun _ _ x => x)
  obtain ⟨hT, h₂⟩ := h₂
  unfold subscriptTail
  refine wpAny_bind ?_
  rw [getitemInPython_of_ne hT.not_modules]
  refine wpAny_bind (wpAny_specialOf hT hl ?_)
  have fin : wpAny (model prog w) A (subscripted slice false o i) (fun r s₃ => wpAny (model prog w) A (letTemporaryGo value o r >>= fun _ => pure r) Q E s₃) E s₂ := by
    rw [hs o i]
    exact wpAny_operating (wpAny_mono h₂ (fun r s₃ h₃ => wpAny_bind (wpAny_letTemporaryGo (wpAny_pure h₃))) fun _ _ x => x)
  first
    | exact wpAny_pure (wpAny_bind fin)
    | exact wpAny_bind (wpAny_pure (wpAny_bind fin))
    | exact wpAny_bind fin

theorem dict_typeIs {X : Cx} {pins : List (Addr × Obj)} {σ : St} {H : Hp} {s : Shared} {a : Addr} {y : V} {o : Option V} (I : Inv X pins σ H s) (g : DGet H a y o) : s.TypeIs (.ref a) "dict" := by
  rcases g with ⟨kvs, k, e, _, _⟩ | ⟨kvs, k, b, e, _, _, _⟩
  · obtain ⟨_, _, vs, _, dd⟩ := dk_rd I.hok e
    exact dd.typeIs
  · obtain ⟨_, _, xs, _, dd⟩ := dt_rd I.hok e
    exact dd.typeIs
/-- d[y] -/
def tDGet (td ty : TE) : TE := fun σ H Q => td σ H fun x H1 => ty σ H1 fun y H2 => ∃ a v, x = .ref a ∧ DGet H2 a y (some v) ∧ Q v H2
/-- y in d, y not in d -/
def tDIn (ty td : TE) : TE := fun σ H Q => ty σ H fun y H1 => td σ H1 fun x H2 => ∃ a o, x = .ref a ∧ DGet H2 a y o ∧ Q (.bl o.isSome) H2
def tDNotIn (ty td : TE) : TE := fun σ H Q => ty σ H fun y H1 => td σ H1 fun x H2 => ∃ a o, x = .ref a ∧ DGet H2 a y o ∧ Q (.bl (!o.isSome)) H2
/-- d[y] = v -/
def sDPut (td ty tv : TE) : TS := fun D σ H => tv σ H fun v H1 => td σ H1 fun x H2 => ty σ H2 fun y H3 => ∃ a H4, x = .ref a ∧ DPut H3 a y v H4 ∧ D.nx σ H4
section
variable {X : Cx} {o i e value : Expr} {pos pos' tpos : Pos} {td ty tv : TE}
theorem pe_dget (hu : X.A.units + 1 < cLine) (ho : PE X o td) (hi : PE X i ty) (hs : NoSl i) : PE X (.Subscript o i pos) (tDGet td ty) := by
  intro pins s σ H Q I h
  refine subD_of PySem.F.slot_dict_getitem.lookup hs (thn (ho pins s σ H _ I h) fun u s1 ⟨x, H1, I1, rx, q1⟩ => thn (hi pins s1 σ H1 _ I1 q1) fun iv s2 ⟨y, H2, I2, ry, a, v, ex, g, q2⟩ => ?_)
  subst ex
  obtain rfl : u = Value.ref a := rx
  exact ⟨dict_typeIs I2 g, d_getItem hu I2 g ry fun w' s3 I3 rw' => ⟨v, H2, I3, rw', q2⟩⟩
theorem pc_din (hu : X.A.units + 1 < cLine) (hi : PE X i ty) (ho : PE X o td) : PC X .In i o (tDIn ty td) := by
  intro pins s σ H Q I h
  refine thn (hi pins s σ H _ I h) fun iv s1 ⟨y, H1, I1, ry, q1⟩ => thn (ho pins s1 σ H1 _ I1 q1) fun u s2 ⟨x, H2, I2, rx, a, ov, ex, g, q2⟩ => ?_
  subst ex
  obtain rfl : u = Value.ref a := rx
  exact d_in hu I2 g ry fun s3 I3 => ⟨.bl ov.isSome, H2, I3, rfl, q2⟩
theorem pc_dnotin (hu : X.A.units + 1 < cLine) (hi : PE X i ty) (ho : PE X o td) : PC X .NotIn i o (tDNotIn ty td) := by
  intro pins s σ H Q I h
  refine thn (hi pins s σ H _ I h) fun iv s1 ⟨y, H1, I1, ry, q1⟩ => thn (ho pins s1 σ H1 _ I1 q1) fun u s2 ⟨x, H2, I2, rx, a, ov, ex, g, q2⟩ => ?_
  subst ex
  obtain rfl : u = Value.ref a := rx
  exact d_notIn hu I2 g ry fun s3 I3 => ⟨.bl (!ov.isSome), H2, I3, rfl, q2⟩
theorem ps_dput (hu : X.A.units + 1 < cLine) (ho : PE X o td) (hi : PE X i ty) (hv : PE X value tv) (hs : swapsWith value (some (.Subscript o i pos')) pos.line X.env = pure false) :
    PS X (.Assign [.Subscript o i pos'] value pos) (sDPut td ty tv) := by
  intro pins s σ H D I h
  refine wpAny_Assign_Subscript (thn (hv pins s σ H _ I h) fun r s1 ⟨v, H1, I1, rv, q1⟩ => thn (ho pins s1 σ H1 _ I1 q1) fun u s2 ⟨x, H2, I2, rx, q2⟩ => thn (hi pins s2 σ H2 _ I2 q2) fun iv s3 ⟨y, H3, I3, ry, a, H4, ex, g, q3⟩ => ?_) hs
  subst ex
  obtain rfl : u = Value.ref a := rx
  exact d_setItem hu I3 g ry rv fun s4 I4 => ⟨σ, H4, I4, q3⟩
end


/-! ### displays -/
theorem dk_empty {P : Program} {w : World} {H : Hp} (h : Heap) (hb : sysModules < h.objs.size) : ObjOk P w H (h.push { cls := .type "dict", data := .dict #[] }) h.objs.size (.dK []) :=
  ⟨Nat.zero_le _, beq_eq_false_iff_ne.mpr (Ne.symm (Nat.ne_of_lt hb)), [], .nil, Heap.DictOf.new h⟩
/-- {}, to be a dict of the kind that is wanted -/
def tDNewK : TE := fun _ H Q => ∀ p, H p = none → Q (.ref p) (upd H p (.dK []))
section
variable {X : Cx} {pos : Pos}
theorem pe_dnewK : PE X (.Dict [] [] pos) tDNewK := fun pins s σ H Q I h =>
  wpAny_Dict_empty ⟨.ref s.heap.objs.size, _, I.laid (a := s.heap.objs.size) (o := .dK []) (t' := s.toks) (fun _ _ q => Heap.get?_push_of_some _ q) (Nat.le_refl _) (dk_empty s.heap I.big), rfl, h _ (I.hok.fresh (Nat.le_refl _))⟩
end

/-! ### methods -/
structure M2 (X : Cx) (o : Expr) (m : Str) (apos : Pos) (e f : Expr) (cpos : Pos) : Prop where
  base : attributeBase o m X.env (eval o X.env) = eval o X.env
  few : ((backTo cpos (starEach [e, f] X.env)).all (fun x => !x.1) && (backToKw cpos (keywordEach [] X.env)).all (fun x => x.1.isSome)
    && decide (([e, f] : List Expr).length + ([] : List Keyword).length + (if ([] : List Keyword).isEmpty then 0 else 1) < 30)) = true
  line : (apos.endLine == cpos.line) = true
  trees : backTo cpos (starEach [e, f] X.env) = [(false, eval e X.env), (false, eval f X.env)]

/-- a is a dict, whatever its keys -/
def IsD (H : Hp) (a : Addr) : Prop := (∃ kvs, Rd H a (.dK kvs)) ∨ ∃ kvs, Rd H a (.dT kvs)
theorem isD_at {X : Cx} {pins : List (Addr × Obj)} {σ : St} {H : Hp} {s : Shared} {a : Addr} (I : Inv X pins σ H s) (d : IsD H a) :
    s.TypeIs (.ref a) "dict" ∧ (∀ b, Value.ref a = .ref b → ∃ ob, s.heap.get? b = some ob ∧ ob.dict = none) ∧ (a == sysModules) = false := by
  rcases d with ⟨kvs, e⟩ | ⟨kvs, e⟩
  · obtain ⟨_, hd, vs, _, dd⟩ := dk_rd I.hok e
    refine ⟨dd.typeIs, fun b q => ?_, hd⟩
    cases q
    obtain ⟨ob, _, _, h1, h2, _⟩ := dd
    exact ⟨ob, h1, h2.2.1⟩
  · obtain ⟨_, hd, xs, _, dd⟩ := dt_rd I.hok e
    refine ⟨dd.typeIs, fun b q => ?_, hd⟩
    cases q
    obtain ⟨ob, _, _, h1, h2, _⟩ := dd
    exact ⟨ob, h1, h2.2.1⟩

section
variable {X : Cx} {pins : List (Addr × Obj)} {σ : St} {H : Hp} {s : Shared} {a : Addr} {y d : V} {u r : Value} {o : Option V} {A : Around} {E : Value → Shared → Prop}
/-- d.get(y, x) -/
theorem d_get2 {Q : Value → Shared → Prop} (hu : A.units + 1 < cLine) (I : Inv X pins σ H s) (g : DGet H a y o) (ry : RelV y u) (rd : RelV d r) (h : ∀ w' s', Inv X pins σ H s' → RelV (o.getD d) w' → Q w' s') :
    wpAny (model X.prog X.w) A (call (.builtin "dict.get") [.ref a, u, r]) Q E s := by
  rcases g with ⟨kvs, k, e, ey, l⟩ | ⟨kvs, k, b, e, ey, eb, l⟩
  · subst ey
    obtain ⟨z, hd, vs, rel, dd⟩ := dk_rd I.hok e
    refine call_meetsIn PySem.F.slot_dict_get dd.typeIs PySem.F.entry_dict_get (PySem.F.args_dict_get_3 _ _ _) (meets_dict_get_default (mixKind X.prog X.w) a (kV_is ry) hd r) ⟨_, dd.mapOf, h _ _ (I.tok _) ?_⟩
    rw [l]
    exact (rel.val k).getD rd
  · subst ey
    cases (show u = Value.ref b from ry)
    obtain ⟨z, hd, xs, rel, dd⟩ := dt_rd I.hok e
    refine call_meetsIn PySem.F.slot_dict_get dd.typeIs PySem.F.entry_dict_get (PySem.F.args_dict_get_3 _ _ _) (meetsH_dict_get_default (tupleKind (mixKind X.prog X.w)) a b hd r) ⟨tupleKind_room_in1 hu, k, xs, key_of I.hok eb, dd, h _ _ (I.tok _) ?_⟩
    rw [l]
    exact (rel.val k).getD rd
end

def tDGet2 (td ty tx : TE) : TE := fun σ H Q => td σ H fun x H1 => ∃ a, x = .ref a ∧ IsD H1 a ∧ ty σ H1 fun y H2 => tx σ H2 fun z H3 => ∃ o, DGet H3 a y o ∧ Q (o.getD z) H3
section
variable {X : Cx} {o e f : Expr} {apos cpos : Pos} {td ty tx : TE}
theorem pe_dget2 (hu : X.A.units + 1 < cLine) (ho : PE X o td) (he : PE X e ty) (hf : PE X f tx) (m : M2 X o "get" apos e f cpos) : PE X (.Call (.Attribute o "get" apos) [e, f] [] cpos) (tDGet2 td ty tx) := by
  intro pins s σ H Q I h
  refine wpAny_Call_method m.base m.few m.line PySem.F.plainAttrs_dict PySem.F.slot_dict_get PySem.F.type_dict_get (thn (ho pins s σ H _ I h) fun u s1 ⟨x, H1, I1, rx, a, ex, d, q1⟩ => ?_)
  subst ex
  obtain rfl : u = Value.ref a := rx
  obtain ⟨t1, t2, _⟩ := isD_at I1 d
  refine ⟨t1, t2, ?_⟩
  rw [m.trees]
  refine Calls.callWith_builtin rfl (Calls.evalArgs_plain (Calls.spliced_cons (thn (he pins s1 σ H1 _ I1 q1) fun iv s2 ⟨y, H2, I2, ry, q2⟩ =>
    Calls.spliced_cons (thn (hf pins s2 σ H2 _ I2 q2) fun fv s3 ⟨z, H3, I3, rz, ov, g, q3⟩ => Calls.spliced_nil ?_))))
  exact d_get2 hu I3 g ry rz fun w' s4 I4 rw' => ⟨_, H3, I4, rw', q3⟩
end

/-! ### dict(d): a copy -/
section
variable {X : Cx} {pins : List (Addr × Obj)} {σ : St} {H : Hp} {s : Shared} {a : Addr} {kvs : List (Key × V)} {A : Around} {E : Value → Shared → Prop}
end


section
variable {X : Cx} {pins : List (Addr × Obj)} {σ : St} {H : Hp} {s : Shared} {a : Addr} {y : V} {u : Value} {A : Around} {E : Value → Shared → Prop}
end
end L2

namespace Att
open PySem PySem.W PySem.Calls PyProof.Rows

/-! ### the script -/
theorem ints_of_wellAll {P : Params} {h : Heap} : ∀ (ns : List Int) (vs : List Value), WellAll P h vs (ns.map WData.int) → IntsAre vs ns := by
  intro ns
  induction ns with
  | nil =>
    intro vs w
    rw [List.map_nil] at w
    cases w
    exact .nil
  | cons n ns ih =>
    intro vs w
    rw [List.map_cons] at w
    cases w with
    | cons a b =>
      cases a
      exact .cons _ _ (ih _ b)

theorem script_of {l : OpenLaw} {n : Nat} (hn : l.most = some n) {P : Params} {h : Heap} {args : List WData} {vals : List Value}
    (hpre : l.row.toRowW.claim.pre args = true) (hwl : WellAll P h vals args) :
    ∃ a vs ns, vals = [Value.ref a] ∧ args = [WData.list (ns.map WData.int)] ∧ h.get? a = some { cls := .type "list", data := .seq vs.toArray } ∧ IntsAre vs ns ∧ ns.length ≤ n := by
  have hsh : WShape.hasAll [] args [.list .int] = true := (pre_splitW hpre).1
  have hc : l.pre.holds [] { args := args } = true := (pre_splitW hpre).2
  obtain ⟨d, r, rfl, h1, h2⟩ := hasAllW_cons hsh
  obtain rfl := hasAllW_nil h2
  obtain ⟨xs, rfl, h3⟩ := hasW_list h1
  obtain ⟨ns, rfl⟩ := items_int h3
  have hlen : ns.length ≤ n := by
    unfold OpenLaw.pre at hc
    have h4 : (WTm.not (.lt (.lit (.int (n : Int))) (.len (.arg 0)))).holds [] { args := [.list (ns.map .int)] } = true := by
      have h4 := (holds_andW hc).1
      rw [hn] at h4
      exact h4
    have h5 := condW_of h4 (w_not (w_lt w_lit (w_len_list (w_arg rfl))))
    rw [List.length_map] at h5
    refine Nat.le_of_not_lt fun q => ?_
    have q' : (n : Int) < ((ns.length : Nat) : Int) := by omega
    first
      | (rw [decide_eq_true q'] at h5; exact absurd h5 (by decide))
      | (simp at h5; omega)
  cases hwl with
  | cons w1 w2 =>
    cases w2
    cases w1 with
    | list ho hall => exact ⟨_, _, ns, rfl, rfl, ho, ints_of_wellAll ns _ hall, hlen⟩

theorem post_true (l : OpenLaw) (args : List WData) : l.row.toRowW.claim.post args (.bool true) args = true :=
  postW_of (r := l.row.toRowW) (X := (true == true))
    (show WShape.has [] (.bool true) .bool = true by first | rfl | decide | simp [WShape.has, WShape.arms, WShape.armsAll])
    (show (WTm.eq .res (.lit (.bool true))).value [] { args := args, res := some (.bool true), after := args } = some (.bool (true == true)) from w_eq_bool (w_res rfl) w_lit) rfl

/-! ### the attachment: holds_open's last premise (the goal 'hc' behind k_head) from a wpAny of the law's body -/
/-- the same from a codeAny of the CALL (for a layer whose function contracts speak of calls) -/
theorem attach_call {l : OpenLaw} {n : Nat} {q : Program} {loose : List Str} {XP : (Str → Option Value) → Heap → Prop} {YP : World → Heap → Prop} {d : DefRec}
    (hn : l.most = some n) (hdf : d.params.defaults = [])
    (call : ∀ (w : World) (s₀ s₁ : Shared) (mg mb : Str → Option Value) (fa : Addr) (o : Obj) (pm cd doc : Value) (a : Addr) (vs : List Value) (ns : List Int),
      Ground q loose [] XP w s₀ mg mb s₁.heap → YP w s₁.heap →
      s₁.heap.get? fa = some o → o.data = .func (docDef d.name d.params d.body d.scope pm cd doc) → s₁.heap.CodeRec cd d.name → mg d.name = some (.ref fa) →
      s₁.heap.get? a = some { cls := .type "list", data := .seq vs.toArray } → IntsAre vs ns → ns.length ≤ n → s₁.gens = #[] →
      codeAny (model l.prog w) callerA (.call (.ref fa) ⟨[.ref a], []⟩) (fun r s' => r = .ok (.ret (.bool true)) ∧ OldK s₁.heap s'.heap ∧ s'.os = s₁.os ∧ AllBare s'.gens) s₁) :
    WalkO q loose XP YP l.row.toRowW d [] (fun f vs => PySem.call f vs) := by
  intro w s₀ s₁ mg mb G Y fa o pm cd doc dV kV ho hd hcd hD hmg hg args vals as hpre hlay hrd hwl hlo
  obtain rfl : dV = .none := Dflts.none hD hdf
  obtain rfl : kV = .none := Dflts.noKw hD
  obtain ⟨a, vs, ns, rfl, rfl, hobj, hints, hlen⟩ := script_of hn hpre hwl
  refine enter_call (codeAny_mono (call w s₀ s₁ mg mb fa o pm cd doc a vs ns G Y ho (fd_plain hd) hcd hmg hobj hints hlen hg) fun r s' hq => ?_)
  obtain ⟨rfl, h2, h3, h4⟩ := hq
  exact ⟨.inl ⟨.bool true, .bool true, [], rfl, fun _ => rfl, .bool true, post_true l _, fun _ => ⟨List.Pairwise.nil, fun _ hm => (nomatch hm)⟩⟩, h2, h3, h4⟩

/-! ### rules over ANY heap (no ledger) from facts about the written part K: the library's own take a ledger (News) for what they write -/
section
variable {prog : Program} {w : World} {A : Around} {E : Value → Shared → Prop} {s : Shared} {K : Frag}

/-! the whole heap as the ledger: makes every rule that writes through a ledger a rule over any heap -/
end
end Att

namespace L2
open PySem PySem.Spec PyProof.Rows

theorem vals_ints : ∀ {vs : List Value} {ns : List Int}, IntsAre vs ns → Vals (ns.map V.int) vs
  | _, _, .nil => .nil
  | _, _, .cons n t h => .cons ⟨t, rfl⟩ (vals_ints h)

/-- nothing is tracked but the script, known to the object (or it is an object of the module) -/
def Only (H : Hp) : Prop := ∀ b, H b = none ∨ ∃ o xs, H b = some (.frz o (.lst xs))

/-- THE HEAD: the law's promise, at the heap behind the top. F, the promise of the law's def, may use that base is part of the heap (so K.In base, base.Ns mainGlobals mg stand in Mod) -/
theorem law_call {P : Program} {w : World} {K : PySem.W.Frag} {mg mb : Str → Option Value} {CX : CXT} {k : Nat} {fa a : Addr} {fd : FuncData} {x : Str} {sp : Sp} {s₁ : Shared} {vs : List Value} {ns : List Int}
    (KX : K.In s₁.heap) (hns : s₁.heap.Ns mainGlobals mg) (hb : s₁.heap.Ns builtinsNs mb) (hbb : ∀ x : Str, x ≠ "__name__" → mb x = bootBuiltins x) (hlim : s₁.heap.NoLimit) (hg : s₁.gens = #[])
    (ha : s₁.heap.get? a = some { cls := .type "list", data := .seq vs.toArray }) (hi : IntsAre vs ns) (hl : ns.length ≤ sizeLine) (hr : Room k callerA)
    (F : ∀ base : Heap, K.In base → base.Ns mainGlobals mg → FnOk P w K mg base CX k fa fd [x] sp) (hbind : ∀ (s : Shared) (u : Value), BindsTo s fd ⟨[u], []⟩ [(x, u)])
    (hsp : ∀ H : Hp, Only H → SqL K H a (ns.map V.int) → sp [.ref a] H (fun v _ => v = .bl true) fun _ _ _ => False)
    (hCX : ∀ H e s', CX [] H s₁ (fun _ _ _ => False) e s' → False) :
    codeAny (model P w) callerA (.call (.ref fa) ⟨[.ref a], []⟩) (fun r s' => r = .ok (.ret (.bool true)) ∧ OldK s₁.heap s'.heap ∧ s'.os = s₁.os ∧ AllBare s'.gens) s₁ := by
  have rv := vals_ints hi
  have lenV := hi.length
  -- from an abstract heap in which nothing but the script may be tracked
  have core : ∀ H : Hp, Only H → SqL K H a (ns.map V.int) → HOk P w H s₁.heap → (∀ b, H b ≠ none → b = a) → (H a ≠ none → K.lookup a = none) →
      codeAny (model P w) callerA (.call (.ref fa) ⟨[.ref a], []⟩) (fun r s' => r = .ok (.ret (.bool true)) ∧ OldK s₁.heap s'.heap ∧ s'.os = s₁.os ∧ AllBare s'.gens) s₁ := by
    intro H hO hS hok hA hK
    have base_of : ∀ {b : Addr} {o : Obj}, s₁.heap.get? b = some o → H b = none → (hidT s₁.heap H).get? b = some o := fun e n => hidT_get e n
    have noA : ∀ {b : Addr} {o : Obj} {es : Array DictEntry} {ep : Nat}, s₁.heap.get? b = some o → o.data = .dict es ep → H b = none := fun {b o es ep} e d => by
      cases q : H b with
      | none => rfl
      | some u =>
        have e' : b = a := hA b (by rw [q]; simp)
        subst e'
        rw [ha] at e; cases e
        have d' : Data.seq vs.toArray _ = Data.dict es ep := d
        cases d'
    have nsK : ∀ {b : Addr} {m : Str → Option Value}, s₁.heap.Ns b m → (hidT s₁.heap H).Ns b m := fun {b m} ⟨o, es, ep, e, d, r⟩ => ⟨o, es, ep, base_of e (noA e d), d, r⟩
    have hKb : K.In (hidT s₁.heap H) := fun b o e => base_of (KX b o e) (by
      cases q : H b with
      | none => rfl
      | some u =>
        have e' : b = a := hA b (by rw [q]; simp)
        subst e'
        rw [hK (by rw [q]; simp)] at e; cases e)
    have hM : Mod K mg (hidT s₁.heap H) := ⟨hKb, nsK hns, ⟨mb, nsK hb, hbb⟩, let ⟨mc, h1, h2⟩ := hlim; ⟨mc, nsK h1, h2⟩⟩
    have e0 : Env0 P w K mg (hidT s₁.heap H) callerA [] s₁ H := ⟨rfl, hM, fun b o e => of_hidT e, Nat.le_of_eq (hidT_size _ _), trivial, fun b hb => absurd (show b ∈ ([] : List Addr) from hb) (by simp), hok, .of_eq hg⟩
    refine codeAny_mono ((F _ hKb (nsK hns)).run callerA [] s₁ H ⟨[.ref a], []⟩ [.ref a] [.ref a] _ _ hr e0 (hbind s₁ (.ref a)) (.cons rfl .nil) (hsp H hO hS)) fun r s' h => ?_
    cases r with
    | error e => exact (hCX H e s' h).elim
    | ok fl =>
      cases fl with
      | next => exact False.elim h
      | brk => exact False.elim h
      | cont => exact False.elim h
      | ret u =>
        obtain ⟨v, H', os, bare, un, hok', r', q⟩ := h
        have q' : v = .bl true := q
        subst q'
        obtain rfl : u = Value.bool true := r'
        refine ⟨rfl, OldK.of_keep fun b o e => ?_, os, bare⟩
        cases q : H b with
        | none => exact un.keep b o e q (by intro z; exact absurd (show b ∈ ([] : List Addr) from z) (by simp)) (by simp)
        | some u =>
          rcases hO b with z | ⟨ob, xs, z⟩
          · rw [q] at z; cases z
          · have z2 := un.frzs b ob _ z
            obtain ⟨e1, _⟩ := hok b _ z
            obtain ⟨e2, _⟩ := hok' b _ z2
            rw [e] at e1; cases e1
            exact e2
  cases hk : K.lookup a with
  | some o =>
    -- the script is one of the module's own objects
    have e := KX a o hk
    rw [ha] at e
    cases e
    refine core (fun _ => none) (fun _ => .inl rfl) (.inr ⟨_, vs.toArray, _, hk, rfl, rfl, rfl, by rw [List.size_toArray, lenV]; exact hl, by simpa using rv⟩) (fun b u z => by have z' : (none : Option HO) = some u := z; cases z') (fun b z => absurd rfl z) fun z => absurd rfl z
  | none =>
    refine core (fun b => if b = a then some (.frz { cls := .type "list", data := .seq vs.toArray } (.lst (ns.map V.int))) else none) (fun b => ?_) (.inl (.inr ⟨{ cls := .type "list", data := .seq vs.toArray }, if_pos rfl⟩)) (fun b u z => ?_) (fun b z => ?_) fun _ => hk
    · by_cases hb : b = a
      · exact .inr ⟨_, _, if_pos hb⟩
      · exact .inl (if_neg hb)
    · by_cases hb : b = a
      · have z' := (if_pos hb).symm.trans z
        cases z'
        subst hb
        exact ⟨ha, by rw [List.length_map]; exact hl, vs, _, rv, ha⟩
      · have z' := (if_neg hb).symm.trans z
        cases z'
    · by_cases hb : b = a
      · exact hb
      · exact absurd (if_neg hb) z
end L2

namespace L2
open PySem PySem.Spec PyProof.Rows

/-- the goal that k_head leaves (case hc), from the law's promise. F gives the function object fd (K's own) once, then the promise over every base -/
theorem walk_of {l : PySem.W.OpenLaw} {n k : Nat} {q : Program} {loose : List Str} {XP : (Str → Option Value) → Heap → Prop} {YP : World → Heap → Prop} {d : DefRec} {K : Params → PySem.W.Frag} {CX : World → CXT} {sp : World → Sp} {x : Str}
    (hn : l.most = some n) (hn2 : n ≤ sizeLine) (hdf : d.params.defaults = []) (hr : Room k callerA)
    (hY : ∀ (w : World) (h : Heap), YP w h → (K w.params).In h)
    (F : ∀ (w : World) (mg : Str → Option Value) (fa : Addr) (h : Heap), (K w.params).In h → h.Ns mainGlobals mg → mg d.name = some (.ref fa) →
      ∃ fd : FuncData, (∀ (s : Shared) (u : Value), BindsTo s fd ⟨[u], []⟩ [(x, u)]) ∧
        ∀ base : Heap, (K w.params).In base → base.Ns mainGlobals mg → FnOk l.prog w (K w.params) mg base (CX w) k fa fd [x] (sp w))
    (hsp : ∀ (w : World) (H : Hp) (a : Addr) (ns : List Int), ns.length ≤ n → Only H → SqL (K w.params) H a (ns.map V.int) → sp w [.ref a] H (fun v _ => v = .bl true) fun _ _ _ => False)
    (hCX : ∀ (w : World) (H : Hp) (s : Shared) (e : Value) (s' : Shared), CX w [] H s (fun _ _ _ => False) e s' → False) :
    PySem.W.WalkO q loose XP YP l.row.toRowW d [] (fun f vs => PySem.call f vs) := by
  refine Att.attach_call hn hdf fun w s₀ s₁ mg mb fa o pm cd doc a vs ns G Y ho hd hcd hmg hobj hints hlen hg => ?_
  have KX := hY w _ Y
  obtain ⟨fd, hb, hF⟩ := F w mg fa _ KX G.T.g hmg
  exact law_call KX G.T.g G.T.b G.T.builtins G.T.nolimit hg hobj hints (Nat.le_trans hlen hn2) hr hF hb (fun H hO hS => hsp w H a ns hlen hO hS) fun H e s' => hCX w H s₁ e s'
end L2

/- THE LAST THEOREM (shape; LID, My.* are yours):
   My.Adr: a structure of the addresses that your layer names (classes, functions); My.Txt K t: a structure (Prop) of the equations over K;
   My.txt_mk : {K} {implicit addresses ..} (e1 : nsIn K mainGlobals "law" = some (some (.ref f))) (e2 : K.lookup f = some ⟨oc, od, .func (fnOf "law" "law" params body scope dV kV doc pm an cdv ct), sl⟩) (e3 : codeIn K cdv "law" = true) .. : ∃ t, My.Txt K t

(the tactic k_is has no namespace: write k_is) -/

/-! SHORT WORDS over the layer: a def of the text, its body, what a loop and a test want. -/
namespace L2
open PySem PySem.Spec PyProof.Rows

/-! ### the text by places -/
def defArgs (s : Stmt) : Arguments := match s with
  | .FunctionDef _ a _ _ _ _ _ _ _ _ => a
  | _ => { posonlyargs := [], args := [], vararg := none, kwonlyargs := [], kw_defaults := [], kwarg := none, defaults := [] }
def defBody (s : Stmt) : List Stmt := match s with
  | .FunctionDef _ _ b _ _ _ _ _ _ _ => b
  | _ => []
def defScope (s : Stmt) : Scope := match s with
  | .FunctionDef _ _ _ _ _ _ sc _ _ _ => sc
  | _ => { kind := .function, names := [], isGenerator := false, isCoroutine := false }

/-! ### no exception leaves a def -/
abbrev CX0 : CXT := fun _ _ _ _ _ _ => False
abbrev E0 : XK := fun _ _ _ => False
theorem pass0 {X : Cx} : Passes CX0 X E0 := fun _ _ _ _ _ _ _ h => h.elim

/-! ### a def (or method) of the text as it stands behind the top -/
structure Fun (K : PySem.W.Frag) (x qual : Str) (st : Stmt) (f : Addr) (fd : FuncData) : Prop where
  ex : ∃ (oc : Value) (od : Option Addr) (kV doc pm : Value) (an : Option Addr) (cdv ct : Value) (osl : Array (Option Value)),
    fd = PySem.W.fnOf x qual (defArgs st) (defBody st) (defScope st) .none kV doc pm an cdv ct ∧ K.lookup f = some ⟨oc, od, .func fd, osl⟩ ∧ PySem.W.codeIn K cdv qual = true
  kp : PySem.W.keepIn K (.ref f) = true
section
variable {P : Program} {w : World} {K : PySem.W.Frag} {mg : Str → Option Value} {base : Heap}
/-- THE RULE for a def: its body as a term of rules, and the reading of that term -/
theorem Fun.ok {x qual : Str} {st : Stmt} {f : Addr} {fd : FuncData} {N ps : List Str} {k : Nat} {sp : Sp} (F : Fun K x qual st f fd) (S : FnScope N ps (defScope st)) (len : ∀ vs H Q E, sp vs H Q E → vs.length = ps.length)
    (hbody : ∀ (cdv : Value) (A : Around) (outer : List Env) (s : Shared) (H : Hp) (vs : List V) (Q : VK) (E : XK), Room k (A.deeper (envOfC qual (defScope st) s.heap.objs.size f cdv)) → sp vs H Q E →
      ∃ t, PSs (cxOf CX0 P w K mg base N qual (defScope st) f cdv A outer s H E).nox (defBody st) t ∧ t { nx := fun _ H' => Q .non H', rt := Q } (start N vs) H) : FnOk P w K mg base CX0 (k + 1) f fd ps sp := by
  obtain ⟨oc, od, kV, doc, pm, an, cdv, ct, osl, rfl, lk, hcd⟩ := F.ex
  refine fn_of lk hcd S len fun A outer s H vs Q E hr hsp => ?_
  obtain ⟨t, h, q⟩ := hbody cdv A outer s H vs Q E hr hsp
  exact ⟨t, h.nox, q⟩
/-- how its arguments bind (no defaults): h is «fun _ _ _ _ _ _ us hl => match us, hl with | [_, _], _ => rfl», one _ a parameter -/
theorem Fun.binds {x qual : Str} {st : Stmt} {f : Addr} {fd : FuncData} {ps : List Str} (F : Fun K x qual st f fd)
    (h : ∀ (kV doc pm : Value) (an : Option Addr) (cdv ct : Value) (us : List Value), us.length = ps.length → bindArgs (PySem.W.fnOf x qual (defArgs st) (defBody st) (defScope st) .none kV doc pm an cdv ct) ⟨us, []⟩ = pure (ps.zip us)) : Binds K fd ps [] := by
  obtain ⟨oc, od, kV, doc, pm, an, cdv, ct, osl, rfl, lk, hcd⟩ := F.ex
  exact .all (h kV doc pm an cdv ct)
theorem fun_mk {x qual : Str} {st : Stmt} {f : Addr} {oc : Value} {od an : Option Addr} {osl : Array (Option Value)} {kV doc pm cdv ct : Value} (l : K.lookup f = some ⟨oc, od, .func (PySem.W.fnOf x qual (defArgs st) (defBody st) (defScope st) .none kV doc pm an cdv ct), osl⟩)
    (c : PySem.W.codeIn K cdv qual = true) (k : PySem.W.keepIn K (.ref f) = true) : Fun K x qual st f (PySem.W.fnOf x qual (defArgs st) (defBody st) (defScope st) .none kV doc pm an cdv ct) := ⟨⟨oc, od, kV, doc, pm, an, cdv, ct, osl, rfl, l, c⟩, k⟩
end
theorem small1000 {n : Nat} (h : n ≤ 1000) : n < sizeLine := Nat.lt_of_le_of_lt h (by decide)

/-! ### expressions in short: the name that stands in the i-th slot -/
section
variable {X : Cx}
theorem pv (i : Nat) {x : Str} {pos : Pos} (hN : X.N[i]? = some x := by rfl) (hv : Vis X.env.scope x := by first | exact Or.inl rfl | exact Or.inr (Or.inl rfl) | exact Or.inr (Or.inr rfl)) (hd : (x == ("__debug__" : Str)) = false := by decide)
    (hcd : (x == ("__classdict__" : Str)) = false := by decide) : PE X (.Name x pos) (tVar i) := pe_var hN hv hd hcd
end

/-! ### tests -/
theorem iteF {A B : Prop} (h : B) : if false = true then A else B := by
  rw [if_neg Bool.false_ne_true]
  exact h
theorem iteT {A B : Prop} (h : A) : if true = true then A else B := by
  rw [if_pos rfl]
  exact h
theorem ite2 {c A B : Prop} [Decidable c] (h1 : c → A) (h2 : ¬ c → B) : if c then A else B := by
  by_cases h : c
  · rw [if_pos h]
    exact h1 h
  · rw [if_neg h]
    exact h2 h
/-! ### heaps -/
/-- all that was tracked is as it was -/
def Same (H H' : Hp) : Prop := ∀ b o, H b = some o → H' b = some o
theorem Same.refl (H : Hp) : Same H H := fun _ _ h => h
theorem Same.trans {H H1 H2 : Hp} (a : Same H H1) (b : Same H1 H2) : Same H H2 := fun c o h => b c o (a c o h)
theorem Same.free {H H' : Hp} (e : Same H H') {l : Addr} (h : H' l = Option.none) : H l = Option.none := by
  cases q : H l with
  | none => rfl
  | some o =>
    rw [e l o q] at h
    cases h
theorem Same.seq {K : PySem.W.Frag} {H H' : Hp} {a : Addr} {xs : List V} (e : Same H H') (h : SqL K H a xs) : SqL K H' a xs := by
  rcases h with (h | ⟨o, h⟩) | h
  · exact .inl (.inl (e _ _ h))
  · exact .inl (.inr ⟨o, e _ _ h⟩)
  · exact .inr h

section
variable {X : Cx}
end
/-! ### a dict's pairs: keys that differ -/
section
variable {κ : Type} [DecidableEq κ]
end
end L2
namespace BF
open PySem

/-- a word: letters from a to z, one at least -/
def Wd (w : Str) : Prop := 1 ≤ w.cps.toList.length ∧ w.cps.toList.length ≤ 40 ∧ ∀ c ∈ w.cps.toList, 97 ≤ c ∧ c ≤ 122

inductive Tm where
  | num (n : Int)
  | name (w : Str)
  | blank (w : Str)
  | thing (w : Str) (ps : List Tm)

mutual
def Tm.nodes : Tm → Nat
  | .num _ => 1
  | .name _ => 1
  | .blank _ => 1
  | .thing _ ps => 1 + nodesL ps
def nodesL : List Tm → Nat
  | [] => 0
  | p :: r => p.nodes + nodesL r
end
mutual
def Tm.Ok : Tm → Prop
  | .num n => -(10 ^ 61) ≤ n ∧ n ≤ 10 ^ 61
  | .name w => Wd w
  | .blank w => Wd w
  | .thing w ps => Wd w ∧ ps ≠ [] ∧ OkL ps
def OkL : List Tm → Prop
  | [] => True
  | p :: r => p.Ok ∧ OkL r
end
theorem Tm.nodes_pos (t : Tm) : 1 ≤ t.nodes := by
  cases t <;> simp only [Tm.nodes] <;> omega
theorem nodesL_append (a b : List Tm) : nodesL (a ++ b) = nodesL a + nodesL b := by
  induction a with
  | nil => simp [nodesL]
  | cons x r ih => simp only [List.cons_append, nodesL, ih]; omega
theorem okL_append (a b : List Tm) : OkL (a ++ b) ↔ OkL a ∧ OkL b := by
  induction a with
  | nil => simp [OkL]
  | cons x r ih => simp only [List.cons_append, OkL, ih, and_assoc]
theorem len_le_nodes (a : List Tm) : a.length ≤ nodesL a := by
  induction a with
  | nil => simp [nodesL]
  | cons x r ih => have := x.nodes_pos; simp only [List.length_cons, nodesL]; omega
theorem nodesL_reverse (a : List Tm) : nodesL a.reverse = nodesL a := by
  induction a with
  | nil => rfl
  | cons x r ih => rw [List.reverse_cons, nodesL_append, ih]; simp only [nodesL]; omega

/-- induction -/
theorem Tm.ind {P : Tm → Prop} (h1 : ∀ n, P (.num n)) (h2 : ∀ w, P (.name w)) (h3 : ∀ w, P (.blank w)) (h4 : ∀ w ps, (∀ p ∈ ps, P p) → P (.thing w ps)) : ∀ t, P t
  | .num n => h1 n
  | .name w => h2 w
  | .blank w => h3 w
  | .thing w ps => h4 w ps fun p hp => Tm.ind h1 h2 h3 h4 p
termination_by t => sizeOf t
decreasing_by
  have := List.sizeOf_lt_of_mem hp
  simp only [Tm.thing.sizeOf_spec]; omega

/-- plain data -/
inductive Dt where
  | int (i : Int)
  | str (x : Str)
  | tup (l : List Dt)
  | lst (l : List Dt)
mutual
def Dt.dep : Dt → Nat
  | .int _ => 0
  | .str _ => 0
  | .tup l => 1 + depL l
  | .lst l => 1 + depL l
def depL : List Dt → Nat
  | [] => 0
  | d :: r => max d.dep (depL r)
end
theorem dep_mem {d : Dt} : ∀ {l : List Dt}, d ∈ l → d.dep ≤ depL l
  | x :: r, h => by
    rcases List.mem_cons.mp h with rfl | h
    · simp only [depL]; omega
    · have := dep_mem h; simp only [depL]; omega
mutual
def Tm.dt : Tm → Dt
  | .num n => .tup [.str "number", .int n]
  | .name w => .tup [.str "name", .str w]
  | .blank w => .tup [.str "blank", .str w]
  | .thing w ps => .tup [.str "thing", .str w, .tup (dtL ps)]
def dtL : List Tm → List Dt
  | [] => []
  | p :: r => p.dt :: dtL r
end
theorem dtL_map (ps : List Tm) : dtL ps = ps.map Tm.dt := by
  induction ps with
  | nil => rfl
  | cons p r ih => simp only [dtL, List.map_cons, ih]
theorem nm_ne1 : (("number" : Str) = "name") = False := by simp only [eq_iff_iff, iff_false]; decide +kernel
theorem nm_ne2 : (("number" : Str) = "blank") = False := by simp only [eq_iff_iff, iff_false]; decide +kernel
theorem nm_ne3 : (("number" : Str) = "thing") = False := by simp only [eq_iff_iff, iff_false]; decide +kernel
theorem nm_ne4 : (("name" : Str) = "blank") = False := by simp only [eq_iff_iff, iff_false]; decide +kernel
theorem nm_ne5 : (("name" : Str) = "thing") = False := by simp only [eq_iff_iff, iff_false]; decide +kernel
theorem nm_ne6 : (("blank" : Str) = "thing") = False := by simp only [eq_iff_iff, iff_false]; decide +kernel
theorem nm_ne1' : (("name" : Str) = "number") = False := by simp only [eq_iff_iff, iff_false]; decide +kernel
theorem nm_ne2' : (("blank" : Str) = "number") = False := by simp only [eq_iff_iff, iff_false]; decide +kernel
theorem nm_ne3' : (("thing" : Str) = "number") = False := by simp only [eq_iff_iff, iff_false]; decide +kernel
theorem nm_ne4' : (("blank" : Str) = "name") = False := by simp only [eq_iff_iff, iff_false]; decide +kernel
theorem nm_ne5' : (("thing" : Str) = "name") = False := by simp only [eq_iff_iff, iff_false]; decide +kernel
theorem nm_ne6' : (("thing" : Str) = "blank") = False := by simp only [eq_iff_iff, iff_false]; decide +kernel
theorem dtL_inj_of : ∀ {ps qs : List Tm}, (∀ p ∈ ps, ∀ q : Tm, p.dt = q.dt → p = q) → dtL ps = dtL qs → ps = qs
  | [], [], _, _ => rfl
  | [], _ :: _, _, e => by simp [dtL] at e
  | _ :: _, [], _, e => by simp [dtL] at e
  | p :: ps, q :: qs, h, e => by
    simp only [dtL, List.cons.injEq] at e
    rw [h p (by simp) q e.1, dtL_inj_of (fun x hx y => h x (by simp [hx]) y) e.2]
theorem Tm.dt_inj : ∀ (t u : Tm), t.dt = u.dt → t = u := by
  intro t
  induction t using Tm.ind with
  | h1 n => intro u e; cases u <;> simp [Tm.dt, nm_ne1, nm_ne2] at e ⊢; exact e
  | h2 w => intro u e; cases u <;> simp [Tm.dt, nm_ne1', nm_ne4] at e ⊢; exact e
  | h3 w => intro u e; cases u <;> simp [Tm.dt, nm_ne2', nm_ne4'] at e ⊢; exact e
  | h4 w ps ih =>
    intro u e
    cases u with
    | num => simp [Tm.dt] at e
    | name => simp [Tm.dt] at e
    | blank => simp [Tm.dt] at e
    | thing w' qs =>
      simp only [Tm.dt, Dt.tup.injEq, List.cons.injEq, Dt.str.injEq, true_and, and_true] at e
      rw [e.1, dtL_inj_of ih e.2]
theorem depL_le {n : Nat} : ∀ {l : List Dt}, (∀ d ∈ l, d.dep ≤ n) → depL l ≤ n
  | [], _ => by simp [depL]
  | x :: r, h => by
    have h1 := h x (by simp)
    have h2 := depL_le (l := r) fun d hd => h d (by simp [hd])
    simp only [depL]; omega
theorem nodes_mem {t : Tm} : ∀ {l : List Tm}, t ∈ l → t.nodes ≤ nodesL l
  | x :: r, h => by
    rcases List.mem_cons.mp h with rfl | h
    · simp only [nodesL]; omega
    · have := nodes_mem h; simp only [nodesL]; omega
theorem Tm.dep_le (t : Tm) : t.dt.dep ≤ 2 * t.nodes := by
  induction t using Tm.ind with
  | h1 n => simp [Tm.dt, Tm.nodes, Dt.dep, depL]
  | h2 n => simp [Tm.dt, Tm.nodes, Dt.dep, depL]
  | h3 n => simp [Tm.dt, Tm.nodes, Dt.dep, depL]
  | h4 w ps ih =>
    have : depL (dtL ps) ≤ 2 * nodesL ps := by
      rw [dtL_map]
      refine depL_le fun d hd => ?_
      obtain ⟨p, hp, rfl⟩ := List.mem_map.mp hd
      have a := ih p hp
      have b := nodes_mem hp
      omega
    simp only [Tm.dt, Tm.nodes, Dt.dep, depL]
    omega
end BF
namespace BF
open PySem

/-! ### pieces on a pile: a text, or a term -/
/-! ### things begun: the word, the parts that are read, the parts to come; the innermost first -/
end BF
set_option Elab.async false
set_option linter.all false
set_option maxRecDepth 100000
namespace BF
open PySem PySem.Spec PyProof.Rows L2

/-! ### plain data on the heap -/
mutual
def DatAt (H : Hp) : V → Dt → Prop
  | v, .int i => v = .int i
  | v, .str x => v = .str x
  | v, .tup l => ∃ a vs, v = .ref a ∧ H a = some (.tup vs) ∧ DatsAt H vs l
  | v, .lst l => ∃ a vs, v = .ref a ∧ H a = some (.lst vs) ∧ DatsAt H vs l
def DatsAt (H : Hp) : List V → List Dt → Prop
  | vs, [] => vs = []
  | vs, d :: r => ∃ v us, vs = v :: us ∧ DatAt H v d ∧ DatsAt H us r
end
theorem Dt.ind {P : Dt → Prop} (h1 : ∀ n, P (.int n)) (h2 : ∀ w, P (.str w)) (h3 : ∀ l, (∀ p ∈ l, P p) → P (.tup l)) (h4 : ∀ l, (∀ p ∈ l, P p) → P (.lst l)) : ∀ t, P t
  | .int n => h1 n
  | .str w => h2 w
  | .tup l => h3 l fun p hp => Dt.ind h1 h2 h3 h4 p
  | .lst l => h4 l fun p hp => Dt.ind h1 h2 h3 h4 p
termination_by t => sizeOf t
decreasing_by
  · have := List.sizeOf_lt_of_mem hp
    simp only [Dt.tup.sizeOf_spec]; omega
  · have := List.sizeOf_lt_of_mem hp
    simp only [Dt.lst.sizeOf_spec]; omega
theorem DatsAt.length {H : Hp} : ∀ {vs : List V} {l : List Dt}, DatsAt H vs l → vs.length = l.length
  | vs, [], h => by simp only [DatsAt] at h; subst h; rfl
  | vs, d :: r, h => by
    simp only [DatsAt] at h
    obtain ⟨v, us, rfl, _, h2⟩ := h
    simp only [List.length_cons, h2.length]
theorem DatsAt.get {H : Hp} : ∀ {vs : List V} {l : List Dt}, DatsAt H vs l → ∀ (i : Nat) (h1 : i < vs.length) (h2 : i < l.length), DatAt H vs[i] l[i]
  | vs, [], h, i, h1, h2 => absurd h2 (Nat.not_lt_zero _)
  | vs, d :: r, h, i, h1, h2 => by
    simp only [DatsAt] at h
    obtain ⟨v, us, rfl, h3, h4⟩ := h
    cases i with
    | zero => exact h3
    | succ i => exact h4.get i _ _
theorem DatsAt.of_get {H : Hp} : ∀ {vs : List V} {l : List Dt}, vs.length = l.length → (∀ (i : Nat) (h1 : i < vs.length) (h2 : i < l.length), DatAt H vs[i] l[i]) → DatsAt H vs l
  | [], [], _, _ => by simp only [DatsAt]
  | v :: us, d :: r, hl, h => by
    simp only [DatsAt]
    refine ⟨v, us, rfl, h 0 (by simp) (by simp), DatsAt.of_get (by simpa using hl) fun i h1 h2 => h (i + 1) (by simpa using h1) (by simpa using h2)⟩
  | [], _ :: _, hl, _ => by simp at hl
  | _ :: _, [], hl, _ => by simp at hl
theorem DatsAt.append {H : Hp} : ∀ {vs us : List V} {l m : List Dt}, DatsAt H vs l → DatsAt H us m → DatsAt H (vs ++ us) (l ++ m)
  | vs, us, [], m, h, h' => by simp only [DatsAt] at h; subst h; exact h'
  | vs, us, d :: r, m, h, h' => by
    simp only [DatsAt] at h
    obtain ⟨v, ws, rfl, h1, h2⟩ := h
    simp only [List.cons_append, DatsAt]
    exact ⟨v, ws ++ us, rfl, h1, h2.append h'⟩
/-- tuples stay -/
def TSame (H H' : Hp) : Prop := ∀ b xs, H b = some (.tup xs) → H' b = some (.tup xs)
theorem TSame.refl (H : Hp) : TSame H H := fun _ _ h => h
theorem TSame.trans {H H1 H2 : Hp} (a : TSame H H1) (b : TSame H1 H2) : TSame H H2 := fun c o h => b c o (a c o h)
theorem TSame.of {H H' : Hp} (e : Same H H') : TSame H H' := fun b xs h => e b _ h
theorem same_new {H : Hp} {p : Addr} (h : H p = none) (o : HO) : Same H (upd H p o) := fun b u q => by rw [upd_ne (ne_of_none q h)]; exact q
theorem TSame.lst {H : Hp} {a : Addr} {xs : List V} {o : HO} (h : H a = some (.lst xs)) : TSame H (upd H a o) := fun b ys q => by
  rw [upd_ne (ne_of q h (by intro z; cases z))]; exact q
theorem TSame.new {H : Hp} {a : Addr} {o : HO} (h : H a = none) : TSame H (upd H a o) := fun b ys q => by
  rw [upd_ne (ne_of_none q h)]; exact q
/-! no list within -/
mutual
def Dt.noL : Dt → Prop
  | .int _ => True
  | .str _ => True
  | .tup l => noLs l
  | .lst _ => False
def noLs : List Dt → Prop
  | [] => True
  | d :: r => d.noL ∧ noLs r
end
theorem noLs_iff (l : List Dt) : noLs l ↔ ∀ d ∈ l, d.noL := by
  induction l with
  | nil => simp [noLs]
  | cons d r ih => simp [noLs, ih]
theorem Tm.noL (t : Tm) : t.dt.noL := by
  induction t using Tm.ind with
  | h1 n => simp [Tm.dt, Dt.noL, noLs]
  | h2 n => simp [Tm.dt, Dt.noL, noLs]
  | h3 n => simp [Tm.dt, Dt.noL, noLs]
  | h4 w ps ih =>
    simp only [Tm.dt, Dt.noL, noLs, true_and, and_true]
    rw [noLs_iff, dtL_map]
    intro d hd
    obtain ⟨p, hp, rfl⟩ := List.mem_map.mp hd
    exact ih p hp
theorem DatAt.mono {H H' : Hp} (k : TSame H H') : ∀ (d : Dt) (v : V), d.noL → DatAt H v d → DatAt H' v d := by
  intro d
  induction d using Dt.ind with
  | h1 n => intro v _ h; simpa only [DatAt] using h
  | h2 n => intro v _ h; simpa only [DatAt] using h
  | h3 l ih =>
    intro v hn h
    simp only [DatAt] at h ⊢
    simp only [Dt.noL] at hn
    rw [noLs_iff] at hn
    obtain ⟨a, vs, rfl, h1, h2⟩ := h
    exact ⟨a, vs, rfl, k _ _ h1, .of_get h2.length fun i g1 g2 => ih _ (List.getElem_mem _) _ (hn _ (List.getElem_mem _)) (h2.get i g1 g2)⟩
  | h4 l ih => intro v hn h; exact absurd hn (by simp [Dt.noL])
theorem DatAt.same {H H' : Hp} (k : Same H H') : ∀ (d : Dt) (v : V), DatAt H v d → DatAt H' v d := by
  intro d
  induction d using Dt.ind with
  | h1 n => intro v h; simpa only [DatAt] using h
  | h2 n => intro v h; simpa only [DatAt] using h
  | h3 l ih =>
    intro v h
    simp only [DatAt] at h ⊢
    obtain ⟨a, vs, rfl, h1, h2⟩ := h
    exact ⟨a, vs, rfl, k _ _ h1, .of_get h2.length fun i g1 g2 => ih _ (List.getElem_mem _) _ (h2.get i g1 g2)⟩
  | h4 l ih =>
    intro v h
    simp only [DatAt] at h ⊢
    obtain ⟨a, vs, rfl, h1, h2⟩ := h
    exact ⟨a, vs, rfl, k _ _ h1, .of_get h2.length fun i g1 g2 => ih _ (List.getElem_mem _) _ (h2.get i g1 g2)⟩
theorem DatAt.inj {H : Hp} : ∀ (d d' : Dt) (v : V), DatAt H v d → DatAt H v d' → d = d' := by
  intro d
  induction d using Dt.ind with
  | h1 n =>
    intro d' v h h'
    simp only [DatAt] at h; subst h
    cases d' <;> simp_all [DatAt]
  | h2 n =>
    intro d' v h h'
    simp only [DatAt] at h; subst h
    cases d' <;> simp_all [DatAt]
  | h3 l ih =>
    intro d' v h h'
    simp only [DatAt] at h
    obtain ⟨a, vs, rfl, h1, h2⟩ := h
    cases d' with
    | int i => simp [DatAt] at h'
    | str i => simp [DatAt] at h'
    | lst m =>
      simp only [DatAt] at h'
      obtain ⟨b, us, e, h3, _⟩ := h'
      cases e; rw [h1] at h3; cases h3
    | tup m =>
      simp only [DatAt] at h'
      obtain ⟨b, us, e, h3, h4⟩ := h'
      cases e; rw [h1] at h3; cases h3
      congr 1
      refine List.ext_getElem (by rw [← h2.length, ← h4.length]) fun i g1 g2 => ?_
      exact ih _ (List.getElem_mem _) _ _ (h2.get i (by rw [h2.length]; exact g1) g1) (h4.get i (by rw [h2.length]; exact g1) g2)
  | h4 l ih =>
    intro d' v h h'
    simp only [DatAt] at h
    obtain ⟨a, vs, rfl, h1, h2⟩ := h
    cases d' with
    | int i => simp [DatAt] at h'
    | str i => simp [DatAt] at h'
    | tup m =>
      simp only [DatAt] at h'
      obtain ⟨b, us, e, h3, _⟩ := h'
      cases e; rw [h1] at h3; cases h3
    | lst m =>
      simp only [DatAt] at h'
      obtain ⟨b, us, e, h3, h4⟩ := h'
      cases e; rw [h1] at h3; cases h3
      congr 1
      refine List.ext_getElem (by rw [← h2.length, ← h4.length]) fun i g1 g2 => ?_
      exact ih _ (List.getElem_mem _) _ _ (h2.get i (by rw [h2.length]; exact g1) g1) (h4.get i (by rw [h2.length]; exact g1) g2)

/-! ### terms on the heap -/
abbrev TermAt (H : Hp) (v : V) (t : Tm) : Prop := DatAt H v t.dt
abbrev TermsAt (H : Hp) (vs : List V) (ts : List Tm) : Prop := DatsAt H vs (dtL ts)
theorem TermAt.mono {H H' : Hp} {v : V} {t : Tm} (k : TSame H H') (h : TermAt H v t) : TermAt H' v t := DatAt.mono k _ _ t.noL h
theorem TermsAt.mono {H H' : Hp} {vs : List V} {ts : List Tm} (k : TSame H H') (h : TermsAt H vs ts) : TermsAt H' vs ts :=
  .of_get h.length fun i g1 g2 => DatAt.mono k _ _ (by
    have : (dtL ts)[i] ∈ ts.map Tm.dt := by rw [← dtL_map]; exact List.getElem_mem _
    obtain ⟨p, _, e⟩ := List.mem_map.mp this
    rw [← e]; exact p.noL) (h.get i g1 g2)
theorem termAt_num {H : Hp} {v : V} {n : Int} : TermAt H v (.num n) ↔ ∃ a, v = .ref a ∧ H a = some (.tup [.str "number", .int n]) := by
  simp only [TermAt, Tm.dt, DatAt, DatsAt]
  constructor
  · rintro ⟨a, vs, rfl, h, _, _, rfl, rfl, _, _, rfl, rfl, rfl⟩; exact ⟨a, rfl, h⟩
  · rintro ⟨a, rfl, h⟩; exact ⟨a, _, rfl, h, _, _, rfl, rfl, _, _, rfl, rfl, rfl⟩
theorem termAt_name {H : Hp} {v : V} {w : Str} : TermAt H v (.name w) ↔ ∃ a, v = .ref a ∧ H a = some (.tup [.str "name", .str w]) := by
  simp only [TermAt, Tm.dt, DatAt, DatsAt]
  constructor
  · rintro ⟨a, vs, rfl, h, _, _, rfl, rfl, _, _, rfl, rfl, rfl⟩; exact ⟨a, rfl, h⟩
  · rintro ⟨a, rfl, h⟩; exact ⟨a, _, rfl, h, _, _, rfl, rfl, _, _, rfl, rfl, rfl⟩
theorem termAt_blank {H : Hp} {v : V} {w : Str} : TermAt H v (.blank w) ↔ ∃ a, v = .ref a ∧ H a = some (.tup [.str "blank", .str w]) := by
  simp only [TermAt, Tm.dt, DatAt, DatsAt]
  constructor
  · rintro ⟨a, vs, rfl, h, _, _, rfl, rfl, _, _, rfl, rfl, rfl⟩; exact ⟨a, rfl, h⟩
  · rintro ⟨a, rfl, h⟩; exact ⟨a, _, rfl, h, _, _, rfl, rfl, _, _, rfl, rfl, rfl⟩
theorem termAt_thing {H : Hp} {v : V} {w : Str} {ps : List Tm} : TermAt H v (.thing w ps) ↔
    ∃ a b vs, v = .ref a ∧ H a = some (.tup [.str "thing", .str w, .ref b]) ∧ H b = some (.tup vs) ∧ TermsAt H vs ps := by
  simp only [TermAt, TermsAt, Tm.dt, DatAt, DatsAt]
  constructor
  · rintro ⟨a, vs, rfl, h, _, _, rfl, rfl, _, _, rfl, rfl, _, _, rfl, ⟨b, us, rfl, h2, h3⟩, rfl⟩; exact ⟨a, b, us, rfl, h, h2, h3⟩
  · rintro ⟨a, b, us, rfl, h, h2, h3⟩; exact ⟨a, _, rfl, h, _, _, rfl, rfl, _, _, rfl, rfl, _, _, rfl, ⟨b, us, rfl, h2, h3⟩, rfl⟩
theorem TermsAt.len {H : Hp} {vs : List V} {ts : List Tm} (h : TermsAt H vs ts) : vs.length = ts.length := by
  rw [h.length, dtL_map, List.length_map]
theorem TermsAt.at {H : Hp} {vs : List V} {ts : List Tm} (h : TermsAt H vs ts) (i : Nat) (h1 : i < vs.length) (h2 : i < ts.length) : TermAt H vs[i] ts[i] := by
  have q := h.get i h1 (by rw [dtL_map, List.length_map]; exact h2)
  simpa only [dtL_map, List.getElem_map] using q
theorem TermsAt.nil {H : Hp} : TermsAt H [] [] := by simp only [TermsAt, dtL, DatsAt]
theorem TermsAt.cons {H : Hp} {v : V} {t : Tm} {vs : List V} {ts : List Tm} (h : TermAt H v t) (h' : TermsAt H vs ts) : TermsAt H (v :: vs) (t :: ts) := by
  simp only [TermsAt, dtL, DatsAt]; exact ⟨v, vs, rfl, h, h'⟩
theorem TermsAt.app {H : Hp} {vs us : List V} {ts qs : List Tm} (h : TermsAt H vs ts) (h' : TermsAt H us qs) : TermsAt H (vs ++ us) (ts ++ qs) := by
  have := DatsAt.append h h'
  simpa only [TermsAt, dtL_map, List.map_append] using this
theorem TermsAt.of_at {H : Hp} {vs : List V} {ts : List Tm} (hl : vs.length = ts.length) (h : ∀ (i : Nat) (h1 : i < vs.length) (h2 : i < ts.length), TermAt H vs[i] ts[i]) : TermsAt H vs ts :=
  .of_get (by rw [dtL_map, List.length_map]; exact hl) fun i h1 h2 => by
    have h2' : i < ts.length := by rwa [dtL_map, List.length_map] at h2
    have := h i h1 h2'
    simpa only [dtL_map, List.getElem_map] using this
theorem TermsAt.dropN {H : Hp} {vs : List V} {ts : List Tm} (h : TermsAt H vs ts) (n : Nat) : TermsAt H (vs.drop n) (ts.drop n) :=
  .of_at (by rw [List.length_drop, List.length_drop, h.len]) fun i h1 h2 => by
    rw [List.getElem_drop, List.getElem_drop]
    exact h.at _ _ _
theorem TermsAt.takeN {H : Hp} {vs : List V} {ts : List Tm} (h : TermsAt H vs ts) (n : Nat) : TermsAt H (vs.take n) (ts.take n) :=
  .of_at (by rw [List.length_take, List.length_take, h.len]) fun i h1 h2 => by
    rw [List.getElem_take, List.getElem_take]
    exact h.at _ _ _
/-! ### equality of data -/
section
variable {P : Program} {w : World} {H : Hp} {s : Shared}
theorem tupOk (ok : HOk P w H s.heap) {a : Addr} {vs : List V} (h : H a = some (.tup vs)) : ∃ its : List Value, Vals vs its ∧ IsTup s.heap a its.toArray := by
  obtain ⟨_, its, r, q⟩ := (show ObjOk P w H s.heap a (.tup vs) from ok a _ h)
  exact ⟨its, r, q⟩
theorem lstOk (ok : HOk P w H s.heap) {a : Addr} {vs : List V} (h : H a = some (.lst vs)) : ∃ its : List Value, Vals vs its ∧ s.heap.IsList a its.toArray := by
  obtain ⟨_, its, n, r, q⟩ := (show ObjOk P w H s.heap a (.lst vs) from ok a _ h)
  exact ⟨its, r, ⟨_, q, rfl, n, rfl⟩⟩
theorem Vals.at {vs : List V} {us : List Value} (r : Vals vs us) (i : Nat) (h1 : i < vs.length) (h2 : i < us.length) : RelV vs[i] us[i] := by
  obtain ⟨u, hu, rv⟩ := r.get (List.getElem?_eq_getElem h1)
  rw [List.getElem?_eq_getElem h2] at hu
  cases hu; exact rv
def EqD (A : Around) (s : Shared) (u u' : Value) (d d' : Dt) : Prop := ∃ b, SeqAt.EqAt A s u u' b ∧ (b = true ↔ d = d')
theorem items_eq {A : Around} {l m : List Dt} {us us' : List Value} (hl : us.length = l.length) (hm : us'.length = m.length)
    (h : ∀ i (h1 : i < l.length) (h2 : i < m.length) (g1 : i < us.length) (g2 : i < us'.length), EqD A s us[i] us'[i] l[i] m[i]) :
    ∃ e : Nat → Bool, (∀ j (h1 : j < us.toArray.size) (h2 : j < us'.toArray.size), SeqAt.EqAt A s us.toArray[j] us'.toArray[j] (e j)) ∧
      (((List.range (min us.toArray.size us'.toArray.size)).all e && us.toArray.size == us'.toArray.size) = true ↔ l = m) := by
  have h0 : ∀ j : Nat, ∃ b : Bool, ∀ (h1 : j < l.length) (h2 : j < m.length) (g1 : j < us.length) (g2 : j < us'.length), SeqAt.EqAt A s us[j] us'[j] b ∧ (b = true ↔ l[j] = m[j]) := by
    intro j
    by_cases c : j < l.length ∧ j < m.length
    · obtain ⟨b, hb⟩ := h j c.1 c.2 (by omega) (by omega)
      exact ⟨b, fun _ _ _ _ => hb⟩
    · exact ⟨true, fun h1 h2 => absurd ⟨h1, h2⟩ c⟩
  obtain ⟨e, he⟩ := Classical.axiomOfChoice h0
  refine ⟨e, fun j h1 h2 => ?_, ?_⟩
  · have g1 : j < us.length := by simpa using h1
    have g2 : j < us'.length := by simpa using h2
    have := (he j (by omega) (by omega) g1 g2).1
    simpa only [List.getElem_toArray] using this
  · rw [Bool.and_eq_true, List.all_eq_true]
    simp only [List.size_toArray, beq_iff_eq, List.mem_range]
    constructor
    · rintro ⟨h1, h2⟩
      refine List.ext_getElem (by omega) fun i g1 g2 => ?_
      exact (he i g1 g2 (by omega) (by omega)).2.mp (h1 i (by omega))
    · rintro rfl
      refine ⟨fun i hi => ?_, by omega⟩
      exact (he i (by omega) (by omega) (by omega) (by omega)).2.mpr rfl
theorem in1_units (A : Around) : A.in1.units = A.units + 1 := rfl
theorem eqAt_dat (ok : HOk P w H s.heap) : ∀ (d d' : Dt) (v v' : V) (u u' : Value) (A : Around), DatAt H v d → DatAt H v' d' → RelV v u → RelV v' u' → A.units + d.dep < cLine → EqD A s u u' d d' := by
  intro d
  induction d using Dt.ind with
  | h1 n =>
    intro d' v v' u u' A h h' r r' hu
    simp only [DatAt] at h; subst h
    obtain ⟨t, rfl⟩ := r
    cases d' with
    | int i => simp only [DatAt] at h'; subst h'; obtain ⟨t', rfl⟩ := r'; exact ⟨_, .int_int n t i t', by simp⟩
    | str x => simp only [DatAt] at h'; subst h'; obtain ⟨t', rfl⟩ := r'; exact ⟨_, .int_str n t x t', by simp⟩
    | tup m =>
      simp only [DatAt] at h'; obtain ⟨a, vs, rfl, h1, _⟩ := h'; cases r'
      obtain ⟨its, _, q⟩ := tupOk ok h1
      exact ⟨_, .int_tuple n t q (by omega), by simp⟩
    | lst m =>
      simp only [DatAt] at h'; obtain ⟨a, vs, rfl, h1, _⟩ := h'; cases r'
      obtain ⟨its, _, q⟩ := lstOk ok h1
      exact ⟨_, .int_list n t q (by omega), by simp⟩
  | h2 n =>
    intro d' v v' u u' A h h' r r' hu
    simp only [DatAt] at h; subst h
    obtain ⟨t, rfl⟩ := r
    cases d' with
    | int i => simp only [DatAt] at h'; subst h'; obtain ⟨t', rfl⟩ := r'; exact ⟨_, .str_int n t i t', by simp⟩
    | str x => simp only [DatAt] at h'; subst h'; obtain ⟨t', rfl⟩ := r'; exact ⟨_, .str_str n t x t', by simp⟩
    | tup m =>
      simp only [DatAt] at h'; obtain ⟨a, vs, rfl, h1, _⟩ := h'; cases r'
      obtain ⟨its, _, q⟩ := tupOk ok h1
      exact ⟨_, .str_tuple n t q (by omega), by simp⟩
    | lst m =>
      simp only [DatAt] at h'; obtain ⟨a, vs, rfl, h1, _⟩ := h'; cases r'
      obtain ⟨its, _, q⟩ := lstOk ok h1
      exact ⟨_, .str_list n t q (by omega), by simp⟩
  | h3 l ih =>
    intro d' v v' u u' A h h' r r' hu
    have hh := h
    simp only [DatAt] at h; obtain ⟨a, vs, rfl, h1, h2⟩ := h; cases r
    obtain ⟨its, ri, q⟩ := tupOk ok h1
    simp only [Dt.dep] at hu
    cases d' with
    | int i => simp only [DatAt] at h'; subst h'; obtain ⟨t', rfl⟩ := r'; exact ⟨_, .tuple_int i t' q (by omega), by simp⟩
    | str x => simp only [DatAt] at h'; subst h'; obtain ⟨t', rfl⟩ := r'; exact ⟨_, .tuple_str x t' q (by omega), by simp⟩
    | lst m =>
      simp only [DatAt] at h'; obtain ⟨b, us, rfl, h3, _⟩ := h'; cases r'
      obtain ⟨its', _, q'⟩ := lstOk ok h3
      exact ⟨_, .tuple_list q q' (by omega), by simp⟩
    | tup m =>
      have hh' := h'
      simp only [DatAt] at h'; obtain ⟨b, us, rfl, h3, h4⟩ := h'; cases r'
      obtain ⟨its', ri', q'⟩ := tupOk ok h3
      by_cases e : a = b
      · subst e
        exact ⟨true, .same _, by simpa using DatAt.inj _ _ _ hh hh'⟩
      · have l1 := ri.length
        have l2 := ri'.length
        have l3 := h2.length
        have l4 := h4.length
        obtain ⟨f, hf, hb⟩ := items_eq (A := A.in1) (s := s) (l := l) (m := m) (us := its) (us' := its') (by omega) (by omega) fun i h1 h2' g1 g2 =>
          ih _ (List.getElem_mem _) _ _ _ _ _ _ (h2.get i (by omega) h1) (h4.get i (by omega) h2') (Vals.at ri i _ _) (Vals.at ri' i _ _) (by
            have := dep_mem (List.getElem_mem h1); rw [in1_units]; omega)
        exact ⟨_, .of_refs e (.tuples q q' (by omega) hf), by simpa using hb⟩
  | h4 l ih =>
    intro d' v v' u u' A h h' r r' hu
    have hh := h
    simp only [DatAt] at h; obtain ⟨a, vs, rfl, h1, h2⟩ := h; cases r
    obtain ⟨its, ri, q⟩ := lstOk ok h1
    simp only [Dt.dep] at hu
    cases d' with
    | int i => simp only [DatAt] at h'; subst h'; obtain ⟨t', rfl⟩ := r'; exact ⟨_, .list_int i t' q (by omega), by simp⟩
    | str x => simp only [DatAt] at h'; subst h'; obtain ⟨t', rfl⟩ := r'; exact ⟨_, .list_str x t' q (by omega), by simp⟩
    | tup m =>
      simp only [DatAt] at h'; obtain ⟨b, us, rfl, h3, _⟩ := h'; cases r'
      obtain ⟨its', _, q'⟩ := tupOk ok h3
      exact ⟨_, .list_tuple q q' (by omega), by simp⟩
    | lst m =>
      have hh' := h'
      simp only [DatAt] at h'; obtain ⟨b, us, rfl, h3, h4⟩ := h'; cases r'
      obtain ⟨its', ri', q'⟩ := lstOk ok h3
      by_cases e : a = b
      · subst e
        exact ⟨true, .same _, by simpa using DatAt.inj _ _ _ hh hh'⟩
      · have l1 := ri.length
        have l2 := ri'.length
        have l3 := h2.length
        have l4 := h4.length
        by_cases hs : l.length = m.length
        · obtain ⟨f, hf, hb⟩ := items_eq (A := A.in1) (s := s) (l := l) (m := m) (us := its) (us' := its') (by omega) (by omega) fun i h1 h2' g1 g2 =>
            ih _ (List.getElem_mem _) _ _ _ _ _ _ (h2.get i (by omega) h1) (h4.get i (by omega) h2') (Vals.at ri i _ _) (Vals.at ri' i _ _) (by
              have := dep_mem (List.getElem_mem h1); rw [in1_units]; omega)
          have hz : its.toArray.size = its'.toArray.size := by simp; omega
          refine ⟨_, .of_refs e (.lists q q' hz (by omega) hf), ?_⟩
          rw [hz, Nat.min_self, beq_self_eq_true, Bool.and_true] at hb
          rw [hz]
          simpa using hb
        · refine ⟨_, .of_refs e (.lists_lengths q q' (by simp; omega) (by omega)), ?_⟩
          simp only [Bool.false_eq_true, Dt.lst.injEq, false_iff]
          rintro rfl; exact hs rfl
end
end BF
set_option Elab.async false
set_option linter.all false
set_option maxRecDepth 100000
namespace BF
open PySem PySem.Spec PyProof.Rows L2

section
variable {X : Cx}
theorem op_neT : OpR X (compareOp .NotEq) (fun x y H Q => ∃ l m, DatAt H x (.tup l) ∧ DatAt H y (.tup m) ∧ X.A.units + (Dt.tup l).dep < cLine ∧ ∀ b, (b = true ↔ ¬ l = m) → Q (.bl b) H) := by
  intro pins s σ H x y v u Q I rx ry h
  obtain ⟨l, m, h, h', hu, q⟩ := h
  simp only [DatAt] at h h'
  obtain ⟨a, vs, rfl, h1, h2⟩ := h; cases rx
  obtain ⟨b, us, rfl, h3, h4⟩ := h'; cases ry
  obtain ⟨its, ri, p1⟩ := tupOk I.hok h1
  obtain ⟨its', ri', p2⟩ := tupOk I.hok h3
  have l1 := ri.length
  have l2 := ri'.length
  have l3 := h2.length
  have l4 := h4.length
  simp only [Dt.dep] at hu
  obtain ⟨f, hf, hb⟩ := items_eq (A := X.A.in1) (s := s) (l := l) (m := m) (us := its) (us' := its') (by omega) (by omega) fun i h1 h2' g1 g2 =>
    eqAt_dat I.hok _ _ _ _ _ _ _ (h2.get i (by omega) h1) (h4.get i (by omega) h2') (Vals.at ri i _ _) (Vals.at ri' i _ _) (by
      have := dep_mem (List.getElem_mem h1); rw [in1_units]; omega)
  refine SeqAt.RcNeAt.tuples p1 p2 (by omega) hf _ _ _ _ ⟨.bl _, H, I, rfl, q _ ?_⟩
  rw [← hb, Bool.not_eq_true', Bool.not_eq_true]
theorem Tm.isTup (t : Tm) : ∃ l, t.dt = .tup l := by cases t <;> exact ⟨_, rfl⟩
theorem op_neTm : OpR X (compareOp .NotEq) (fun x y H Q => ∃ t u, TermAt H x t ∧ TermAt H y u ∧ X.A.units + 2 * t.nodes < cLine ∧ ∀ b, (b = true ↔ ¬ t = u) → Q (.bl b) H) := by
  intro pins s σ H x y v u Q I rx ry h
  obtain ⟨t, t', h, h', hu, q⟩ := h
  obtain ⟨l, e⟩ := t.isTup
  obtain ⟨m, e'⟩ := t'.isTup
  have hd := t.dep_le
  refine op_neT pins s σ H x y v u Q I rx ry ⟨l, m, by rw [← e]; exact h, by rw [← e']; exact h', by rw [← e]; omega, fun b hb => q b (hb.trans (not_congr ?_))⟩
  constructor
  · intro z; exact Tm.dt_inj _ _ (by rw [e, e', z])
  · rintro rfl; rw [e] at e'; cases e'; rfl
/-- xs != [] -/
theorem op_neNil (hu : X.A.units < cLine) : OpR X (compareOp .NotEq) (fun x y H Q => ∃ a b xs, x = .ref a ∧ y = .ref b ∧ H a = some (.lst xs) ∧ H b = some (.lst []) ∧ Q (.bl (!xs.isEmpty)) H) := by
  intro pins s σ H x y v u Q I rx ry h
  obtain ⟨a, b, xs, rfl, rfl, h1, h2, q⟩ := h
  cases rx; cases ry
  obtain ⟨its, ri, p1⟩ := lstOk I.hok h1
  obtain ⟨its', ri', p2⟩ := lstOk I.hok h2
  cases ri'
  cases ri with
  | nil => exact SeqAt.RcNeAt.lists (e := fun _ => true) p1 p2 rfl hu (fun j g1 _ => absurd g1 (by simp)) _ _ _ _ ⟨.bl _, H, I, rfl, q⟩
  | cons r rr => exact SeqAt.RcNeAt.lists_lengths p1 p2 (by simp) hu _ _ _ _ ⟨.bl _, H, I, rfl, q⟩
/-! ### isinstance with a built-in class -/
inductive Kit : String → String → Bool → Prop
  | ii : Kit "int" "int" true
  | ib : Kit "int" "bool" false
  | is : Kit "int" "str" false
  | it : Kit "int" "tuple" false
  | il : Kit "int" "list" false
  | bb : Kit "bool" "bool" true
  | bi : Kit "bool" "int" true
  | bs : Kit "bool" "str" false
  | ss : Kit "str" "str" true
  | si : Kit "str" "int" false
  | sb : Kit "str" "bool" false
  | st : Kit "str" "tuple" false
  | sl : Kit "str" "list" false
  | tt : Kit "tuple" "tuple" true
  | ts : Kit "tuple" "str" false
  | ti : Kit "tuple" "int" false
  | tl : Kit "tuple" "list" false
  | ll : Kit "list" "list" true
  | lt : Kit "list" "tuple" false
  | ls : Kit "list" "str" false
theorem Kit.ok {K : PySem.W.Frag} {t c : String} {b : Bool} (k : Kit t c b) : PySem.W.kitOne K (.type t) (.type c) = some b := by
  cases k <;> kernel_rfl
theorem call_isi : CallR X (.builtin "isinstance") (fun xs H Q => ∃ x c t b, xs = [x, .ty c] ∧ TyOf X.K H x (.type t) ∧ Kit t c b ∧ Q (.bl b) H) := by
  intro pins s σ H xs us Q I r h
  obtain ⟨x, c, t, b, rfl, ty, k, q⟩ := h
  obtain ⟨u, u', rfl, ru, rc⟩ := vals2 r
  cases (show u' = Value.type c from rc)
  exact isinst_ok I ru ty k.ok fun tk => ⟨.bl b, H, I.tok tk, rfl, q⟩

/-! ### a slice of a text -/
/-! ### join, int(text) -/
theorem strs_are : ∀ {ys : List Str} {us : List Value}, Vals (ys.map V.str) us → StrsAre us ys
  | [], us, h => by cases h; first | exact .nil | constructor
  | y :: ys, us, h => by
    cases h with
    | cons r rr =>
      obtain ⟨t, rfl⟩ := r
      exact .cons y t (strs_are rr)
end
/-! ### a def of the text that is called by its name -/
def Cal (P : Program) (w : World) (K : PySem.W.Frag) (mg : Str → Option Value) (base : Heap) (k : Nat) (x : Str) (ps : List Str) (sp : Sp) : Prop :=
  ∃ (f : Addr) (fd : FuncData), FnOk P w K mg base CX0 k f fd ps sp ∧ Binds K fd ps [] ∧ PySem.W.keepIn K (.ref f) = true ∧ mg x = some (.ref f)
section
variable {X : Cx} {k : Nat} {x : Str} {ps : List Str} {sp : Sp} {p pos : Pos} {e : Expr} {es : List Expr} {t : TA}
theorem pe_cal (C : Cal X.prog X.w X.K X.mg X.base k x ps sp) (hr : Room k X.A) (ha : PA X (e :: es) t) (hg : Gl X x := by rfl) (hdb : (x == ("__debug__" : Str)) = false := by decide)
    (he : starEach (e :: es) X.env = (false, eval e X.env) :: starEach es X.env := by rfl) (hpl : (backTo pos (starEach es X.env)).any (·.1) = false := by rfl) : PE X (.Call (.Name x p) (e :: es) [] pos) (tCall sp [] E0 t) := by
  obtain ⟨f, fd, F, b, kp, m⟩ := C
  exact pe_call F hr hg m kp b .nil pass0 ha hdb he hpl
end
theorem bt_len : bootBuiltins "len" = some (.builtin "len") := by decide +kernel
theorem bt_abs : bootBuiltins "abs" = some (.builtin "abs") := by decide +kernel
theorem bt_isinstance : bootBuiltins "isinstance" = some (.builtin "isinstance") := by decide +kernel
theorem bt_int : bootBuiltins "int" = some (.type "int") := by decide +kernel
theorem bt_bool : bootBuiltins "bool" = some (.type "bool") := by decide +kernel
theorem bt_str : bootBuiltins "str" = some (.type "str") := by decide +kernel
theorem bt_tuple : bootBuiltins "tuple" = some (.type "tuple") := by decide +kernel
theorem bt_list : bootBuiltins "list" = some (.type "list") := by decide +kernel
theorem bt_reversed : bootBuiltins "reversed" = some (.type "reversed") := by decide +kernel
end BF
namespace BF
open PySem
theorem ten39 : (10 : Int) ^ 39 < 26 ^ 28 := by decide +kernel
/-- between two turns of the word's loop -/
structure WI (l : Int) (x : Str) : Prop where
  lo : -1 ≤ l
  hi : (l + 1) * 26 ^ x.cps.toList.length ≤ 10 ^ 39
  ab : ∀ c ∈ x.cps.toList, 97 ≤ c ∧ c ≤ 122
  ne : l = -1 → 1 ≤ x.cps.toList.length
  ln : x.cps.toList.length ≤ 28
theorem WI.start (i : Int) : WI ((if i < 0 then -i else i) % 10 ^ 39) "" := by
  have e : (Str.ofString "").cps.toList = [] := by decide +kernel
  have h0 : (0 : Int) ≤ (if i < 0 then -i else i) % 10 ^ 39 := Int.emod_nonneg _ (by decide +kernel)
  have h1 : (if i < 0 then -i else i) % 10 ^ 39 < 10 ^ 39 := Int.emod_lt_of_pos _ (by decide +kernel)
  refine ⟨by omega, ?_, ?_, by omega, ?_⟩
  · rw [e, List.length_nil, Int.pow_zero, Int.mul_one]; omega
  · rw [e]; simp
  · rw [e]; simp
theorem pow26_mono {a b : Nat} (h : a ≤ b) : (26 : Int) ^ a ≤ 26 ^ b := by
  obtain ⟨k, rfl⟩ := Nat.exists_eq_add_of_le h
  rw [Int.pow_add]
  have h1 : (1 : Int) ≤ 26 ^ k := by
    induction k with
    | zero => simp
    | succ k ih => rw [Int.pow_succ]; omega
  have h2 : (0 : Int) ≤ 26 ^ a := Int.pow_nonneg (by decide)
  calc (26 : Int) ^ a = 26 ^ a * 1 := by rw [Int.mul_one]
    _ ≤ 26 ^ a * 26 ^ k := Int.mul_le_mul_of_nonneg_left h1 h2
theorem WI.short {l : Int} {x : Str} (h : WI l x) (c : 0 ≤ l) : x.cps.toList.length ≤ 27 := by
  by_cases hl : x.cps.toList.length ≤ 27
  · exact hl
  · exfalso
    have h1 := pow26_mono (a := 28) (b := x.cps.toList.length) (by omega)
    have h2 := h.hi
    have h3 : (0 : Int) ≤ 26 ^ x.cps.toList.length := Int.pow_nonneg (by decide)
    have h4 : (1 : Int) * 26 ^ x.cps.toList.length ≤ (l + 1) * 26 ^ x.cps.toList.length := Int.mul_le_mul_of_nonneg_right (by omega) h3
    have h5 := ten39
    rw [Int.one_mul] at h4
    exact absurd (Int.lt_of_le_of_lt (Int.le_trans h1 (Int.le_trans h4 h2)) h5) (Int.lt_irrefl _)
def alpha : Str := "abcdefghijklmnopqrstuvwxyz"
theorem alpha_at (k : Nat) (h : k < 26) : alpha.cps.toList[k]? = some (97 + k) := by
  have : ∀ k : Fin 26, alpha.cps.toList[(k : Nat)]? = some (97 + (k : Nat)) := by decide +kernel
  exact this ⟨k, h⟩
theorem cps_append (a b : Str) : (a ++ b).cps.toList = a.cps.toList ++ b.cps.toList := by
  show (a.cps ++ b.cps).toList = _
  rw [Array.toList_append]
theorem len_cps (a : Str) : a.length = a.cps.toList.length := by simp [Str.length]
theorem WI.turn {l : Int} {x : Str} {c : Nat} (h : WI l x) (h0 : 0 ≤ l) (hc : 97 ≤ c ∧ c ≤ 122) : WI (l / 26 - 1) ((⟨#[c]⟩ : Str) ++ x) := by
  have e : ((⟨#[c]⟩ : Str) ++ x).cps.toList = c :: x.cps.toList := by rw [cps_append]; rfl
  have hs := h.short h0
  have hp : (0 : Int) ≤ 26 ^ x.cps.toList.length := Int.pow_nonneg (by decide)
  have hd : 0 ≤ l / 26 := Int.ediv_nonneg h0 (by decide)
  refine ⟨by omega, ?_, ?_, fun _ => ?_, ?_⟩
  · rw [e, List.length_cons, Int.pow_succ]
    have e1 : (l / 26 - 1 + 1) * (26 ^ x.cps.toList.length * 26) = (l / 26 * 26) * 26 ^ x.cps.toList.length := by
      rw [show l / 26 - 1 + 1 = l / 26 from by omega, Int.mul_comm (26 ^ _) 26, ← Int.mul_assoc]
    rw [e1]
    exact Int.le_trans (Int.mul_le_mul_of_nonneg_right (by omega) hp) h.hi
  · rw [e]
    intro d hd
    rcases List.mem_cons.mp hd with rfl | hd
    · exact hc
    · exact h.ab d hd
  · rw [e]; simp
  · rw [e, List.length_cons]; omega
theorem WI.wd {l : Int} {x : Str} (h : WI l x) (c : ¬ 0 ≤ l) : Wd x ∧ x.cps.toList.length ≤ 30 :=
  have := h.ln
  ⟨⟨h.ne (by have := h.lo; omega), by omega, h.ab⟩, by omega⟩
theorem Wd.lits : Wd "oak" ∧ Wd "oik" ∧ Wd "f" ∧ Wd "pair" ∧ Wd "row" ∧ Wd "end" ∧ Wd "x" ∧ Wd "y" ∧ Wd "z" := by
  unfold Wd; decide +kernel
theorem Wd.zz {x : Str} (h : Wd x) (hl : x.cps.toList.length ≤ 30) : Wd ((("zz" : Str)) ++ x) := by
  have e : (Str.ofString "zz").cps.toList = [122, 122] := by decide +kernel
  unfold Wd
  rw [cps_append, e]
  refine ⟨by simp, by simp only [List.length_append, List.length_cons, List.length_nil]; omega, ?_⟩
  intro c hc
  simp only [List.cons_append, List.nil_append, List.mem_cons] at hc
  rcases hc with rfl | rfl | hc
  · decide
  · decide
  · exact h.2.2 c hc
end BF
set_option Elab.async false
set_option linter.all false
set_option maxRecDepth 100000
namespace BF
open PySem PySem.Spec PyProof.Rows L2

theorem ite_f {b : Bool} {A B : Prop} (h : b = false) (hB : B) : if b = true then A else B := by rw [h]; exact iteF hB
theorem ite_t {b : Bool} {A B : Prop} (h : b = true) (hA : A) : if b = true then A else B := by rw [h]; exact iteT hA
theorem TermsAt.snoc {H : Hp} {us : List V} {u : V} {ts : List Tm} {t : Tm} (h : TermsAt H (us ++ [u]) (ts ++ [t])) : TermsAt H us ts ∧ TermAt H u t := by
  have hl := h.len
  simp only [List.length_append, List.length_cons, List.length_nil] at hl
  have hl' : us.length = ts.length := by omega
  refine ⟨.of_at hl' fun i h1 h2 => ?_, ?_⟩
  · have := h.at i (by simp; omega) (by simp; omega)
    simpa only [List.getElem_append_left h1, List.getElem_append_left h2] using this
  · have := h.at us.length (by simp) (by simp; omega)
    simpa [hl'] using this
/-! ### for over a text -/
section
variable {X : Cx} {tg : Expr}
end
/-! ### for over a downward range -/
section
variable {X : Cx} {tg : Expr}
end
end BF
set_option Elab.async false
set_option linter.all false
set_option maxRecDepth 100000
namespace BF
open PySem PySem.Spec PyProof.Rows L2
open Sem (wp)

/-! ### reversed(t) of a tuple -/
namespace RV
theorem owner_rev : Manifest.owners.lookup (String.ofList ['d', 'e', 's', 'r', 'e', 'v', 'e', 'r'].reverse) = some Manifest.sig_reversed := by kernel_rfl
theorem slot_next : Slot "reversed" "__next__" "reversed.__next__" :=
  .of (owner := "reversed") (n := "__next__") (by rw [typeLookup_type, builtinLookup_eq_fast]; kernel_rfl) (by decide +kernel) (by decide +kernel) (by decide +kernel)
    (by first | exact .inl (by decide +kernel) | exact .inr (by decide +kernel)) (by rw [isSubtype_type]; kernel_rfl)
theorem entry_next : entryFor table "reversed.__next__" = some Builtin.«reversed.__next__» := entryFor_of_tree (by kernel_rfl)
theorem args_next (a : Value) : argsOk "reversed.__next__" ⟨[a], []⟩ := by
  unfold argsOk; rw [signature?_of (id := "reversed.__next__") (n := ['_', '_', 't', 'x', 'e', 'n', '_', '_']) (o := ['d', 'e', 's', 'r', 'e', 'v', 'e', 'r']) (by kernel_rfl) owner_rev]; kernel_rfl
theorem slot_iter : Slot "reversed" "__iter__" "reversed.__iter__" :=
  .of (owner := "reversed") (n := "__iter__") (by rw [typeLookup_type, builtinLookup_eq_fast]; kernel_rfl) (by decide +kernel) (by decide +kernel) (by decide +kernel)
    (by first | exact .inl (by decide +kernel) | exact .inr (by decide +kernel)) (by rw [isSubtype_type]; kernel_rfl)
theorem args_iter (a : Value) : argsOk "reversed.__iter__" ⟨[a], []⟩ := by
  unfold argsOk; rw [signature?_of (id := "reversed.__iter__") (n := ['_', '_', 'r', 'e', 't', 'i', '_', '_']) (o := ['d', 'e', 's', 'r', 'e', 'v', 'e', 'r']) (by kernel_rfl) owner_rev]; kernel_rfl
theorem entry_iter : entryFor table "reversed.__iter__" = some Builtin.«dict_keyiterator.__iter__» :=
  entryFor_alias (id' := "dict_keyiterator.__iter__") (by kernel_rfl) (by first | rfl | decide +kernel | (unfold String.splitOn; simp +decide [String.splitOnAux])) (by decide +kernel) (by kernel_rfl)
theorem entry_new : entryFor table "reversed.__new__" = some Builtin.«reversed.__new__» := entryFor_of_tree (by kernel_rfl)
theorem tuple_norev : typeLookup (.type "tuple") "__reversed__" = pure none := by rw [typeLookup_type, builtinLookup_eq_fast]; kernel_rfl
theorem sub_tuple_dict : isSubtype (.type "tuple") (.type "dict") = pure false := by rw [isSubtype_type]; kernel_rfl
theorem sub_rev : isSubtype (.type "reversed") (.type "reversed") = pure true := by rw [isSubtype_type]; kernel_rfl
theorem init_rev : Slot "reversed" "__init__" "object.__init__" :=
  .of (owner := "object") (n := "__init__") (by rw [typeLookup_type, builtinLookup_eq_fast]; kernel_rfl) (by decide +kernel) (by decide +kernel) (by decide +kernel)
    (by first | exact .inl (by decide +kernel) | exact .inr (by decide +kernel)) (by rw [isSubtype_type]; kernel_rfl)
theorem mro_reversed : mroOf (.type "reversed") = pure [.type "reversed", .type "object"] := by rw [mroOf_type]; kernel_rfl
theorem lookup_reversed_new : typeLookup (.type "reversed") "__new__" = pure (some (.builtin "reversed.__new__")) := by rw [typeLookup_type, builtinLookup_eq_fast]; kernel_rfl
theorem made_reversed : Bind.madeBy (.type "reversed") = pure (some "reversed.__new__") := madeBy_type mro_reversed lookup_reversed_new (by decide +kernel)
theorem called_rev : TypeCalled "reversed" "reversed.__new__" "object.__init__" :=
  ⟨by decide +kernel, by decide +kernel, ⟨_, _, mro_reversed⟩, made_reversed, by decide +kernel, sub_rev, init_rev⟩
end RV
def rvObj (t : Addr) (i : Int) : Obj := { cls := .type "reversed", data := .fields #[.ref t, rawInt i] }
section
variable {prog : Program} {w : World} {A : Around} {E : Value → Shared → Prop} {s : Shared}
theorem next_rv {it t : Addr} {i : Nat} {items : Array Value} {x : Value} {Q : Option Value → Shared → Prop} (hit : s.heap.get? it = some (rvObj t (i : Int))) (ht : IsTup s.heap t items) (hx : items[i]? = some x) (hz : (items.size : Int) < 2 ^ 63)
    (hQ : ∀ h' tk, h'.get? it = some (rvObj t ((i : Int) - 1)) → Heap.SameBut it s.heap h' → Q (some x) { s with heap := h', toks := tk }) : wpAny (model prog w) A (pyNext (.ref it)) Q E s := by
  have hT : s.TypeIs (.ref it) "reversed" := ⟨_, hit, rfl⟩
  have hi : i < items.size := (Array.getElem?_eq_some_iff.mp hx).1
  unfold pyNext
  refine wpAny_bind (wpAny_attempt (wpAny_callSpecial?_slot (name := Str.ofString "__next__") hT RV.slot_next (wpAny_call_entry RV.slot_next hT RV.entry_next ?_ (RV.args_next _))))
  unfold Builtin.«reversed.__next__»
  refine wpAny_bind (wpAny_of_eq (a := (Value.ref it, [])) rfl ?_)
  try dsimp only
  refine wpAny_bind (wpAny_field hit rfl (x := .ref t) rfl ?_)
  refine wpAny_bind (wpAny_field hit rfl (x := rawInt (i : Int)) rfl ?_)
  show wpAny _ _ (if (i : Int) < 0 then _ else _) _ _ s
  rw [if_neg (by omega)]
  refine wpAny_bind (wpAny_specialOf ht.typeIs slot_tuple_getitem.lookup ?_)
  show wpAny _ _ (if (false : Bool) = true then _ else _) _ _ s
  rw [if_neg Bool.false_ne_true]
  refine wpAny_bind (wpAny_mkInt ?_)
  refine wpAny_bind (wpAny_attempt (getItem_tuple (j := i) (x := x) (s := { s with toks := s.toks + 1 }) ht (by omega) (by omega) (by unfold seqIndex?; simp; omega) hx ?_))
  refine wpAny_bind (wpAny_field (s := { s with toks := s.toks + 1 }) hit rfl (x := rawInt (i : Int)) rfl ?_)
  refine wpAny_bind (wpAny_setField (s := { s with toks := s.toks + 1 }) hit rfl (by simp) ?_)
  refine wpAny_pure ⟨x, rfl, wpAny_pure (hQ _ _ ?_ (Heap.SameBut.update ..))⟩
  exact Heap.get?_update_self _ hit (Obj.isFreed_of_fields (Obj.data_mapFields rfl _))
theorem next_rv_end {it t : Addr} {Q : Option Value → Shared → Prop} (hh : A.handled = none) (hit : s.heap.get? it = some (rvObj t (-1)))
    (hQ : ∀ h', Heap.ExtBut it s.heap h' → Q none { s with heap := h' }) : wpAny (model prog w) A (pyNext (.ref it)) Q E s := by
  have hT : s.TypeIs (.ref it) "reversed" := ⟨_, hit, rfl⟩
  unfold pyNext
  refine wpAny_bind (wpAny_attempt (wpAny_callSpecial?_slot (name := Str.ofString "__next__") hT RV.slot_next (wpAny_call_entry RV.slot_next hT RV.entry_next ?_ (RV.args_next _))))
  unfold Builtin.«reversed.__next__»
  refine wpAny_bind (wpAny_of_eq (a := (Value.ref it, [])) rfl ?_)
  try dsimp only
  refine wpAny_bind (wpAny_field hit rfl (x := .ref t) rfl ?_)
  refine wpAny_bind (wpAny_field hit rfl (x := rawInt (-1)) rfl ?_)
  show wpAny _ _ (if (-1 : Int) < 0 then _ else _) _ _ s
  rw [if_pos (by decide)]
  refine wpAny_bind (wpAny_rule ?_)
  refine wpAny_bind ?_
  refine wpAny_bind (m := setField (.ref it) 1 (rawInt (-1))) (wpAny_setField hit rfl (by simp) ?_)
  have hit2 := Heap.get?_update_self (h := s.heap) (Obj.mapFields (·.setIfInBounds 1 (rawInt (-1)))) hit (Obj.isFreed_of_fields (Obj.data_mapFields rfl _))
  refine wpAny_setField (s := { s with heap := s.heap.update it (Obj.mapFields (·.setIfInBounds 1 (rawInt (-1)))) }) hit2 (Obj.data_mapFields rfl _) (by simp) ?_
  refine wpAny_bind ?_
  show wpAny _ _ (newExc (.type "StopIteration") [] >>= _) _ _ _
  refine wpAny_bind ?_
  simp only [newExc, newTuple]
  refine wpAny_bind (wpAny_newObj_type ?_ (by size_fits))
  refine wpAny_bind (m := firstArgMember _ _) (wpAny_of_eq (a := Value.none) (by first | rfl | (simp only [firstArgMember]; rfl)) ?_)
  refine wpAny_newObj_type ?_ (by size_fits)
  simp only [raiseNew]
  refine wpAny_bind (wpAny_handled ?_)
  first | rw [show A.in1.handled = none from hh] | rw [hh]
  refine wpAny_bind (wpAny_pure (wpAny_throw ?_))
  refine wpAny_bind (wpAny_isInstance (T := "StopIteration") (b := true) ⟨_, Heap.get?_push_size _ rfl, rfl⟩ isSubtype_stop ?_)
  exact wpAny_pure (hQ _ ((((Heap.SameBut.update ..).trans (Heap.SameBut.update ..)).extBut.push _).push _))
theorem iter_rv {it t : Addr} {i : Int} {Q : Value → Shared → Prop} (hit : s.heap.get? it = some (rvObj t i)) (h : Q (.ref it) s) : wpAny (model prog w) A (pyIter (.ref it)) Q E s := by
  have hT : s.TypeIs (.ref it) "reversed" := ⟨_, hit, rfl⟩
  refine wpAny_pyIter_slot hT RV.slot_iter (wpAny_call_entry RV.slot_iter hT RV.entry_iter ?_ (RV.args_iter _))
  show wpAny _ _ (ret (.ref it)) _ _ s
  exact wpAny_pure ⟨_, rfl, "reversed", _, hT, RV.slot_next.lookup, h⟩
theorem newClass_rv (a : Value) : Builtin.SmallTypes.newClass "reversed" ⟨[.type "reversed", a], []⟩ = pure (.type "reversed", [a]) := by
  unfold Builtin.SmallTypes.newClass
  simp only [isType, RV.sub_rev, pure_bind, Bool.not_true, Bool.false_eq_true, if_false]
theorem meets_rv_new (t : Addr) (items : Array Value) :
    Meets (Builtin.«reversed.__new__» ⟨[.type "reversed", .ref t], []⟩) (fun _ R s => IsTup s.heap t items ∧ (items.size : Int) < 2 ^ 63 ∧
      ∀ tk, R (.ok (.ret (.ref s.heap.objs.size))) { s with heap := s.heap.push (rvObj t ((items.size : Int) - 1)), toks := tk }) :=
  .of_wp fun prog w A R s h => by
    obtain ⟨ht, hz, h⟩ := h
    unfold Builtin.«reversed.__new__»
    refine wpAny_bind (wpAny_of_eq (newClass_rv _) ?_)
    try dsimp only
    refine wpAny_bind (wpAny_of_eq (a := ()) (by first | rfl | kernel_rfl) ?_)
    refine wpAny_bind (wpAny_of_eq (a := ()) (by first | rfl | kernel_rfl) ?_)
    try dsimp only
    refine wpAny_bind (wpAny_specialOf ht.typeIs RV.tuple_norev ?_)
    try dsimp only
    refine wpAny_bind ?_
    refine wpAny_bind (m := isInstance (.ref t) (.type "dict")) (wpAny_isInstance ht.typeIs RV.sub_tuple_dict ?_)
    show wpAny _ _ (if (false : Bool) = true then _ else _) _ _ _
    rw [if_neg Bool.false_ne_true]
    refine wpAny_bind (wpAny_specialOf ht.typeIs slot_tuple_getitem.lookup ?_)
    try dsimp only
    rw [if_pos (by decide)]
    refine wpAny_pure ?_
    show wpAny _ _ (if (false : Bool) = true then _ else _) _ _ _
    rw [if_neg Bool.false_ne_true]
    refine wpAny_bind (len_tuple ht hz ?_)
    refine wpAny_bind (wpAny_of_eq (a := some (items.size : Int)) (by first | rfl | simp [asInt?]) ?_)
    try dsimp only
    refine wpAny_bind (m := newObj (.type "reversed") (.fields #[.ref t, rawInt ((items.size : Int) - 1)])) (wpAny_newObj_type ?_ (by size_fits))
    exact wpAny_pure ⟨_, rfl, h _⟩
theorem call_rv {t : Addr} {items : Array Value} {Q : Value → Shared → Prop} (ht : IsTup s.heap t items) (hz : (items.size : Int) < 2 ^ 63)
    (h : ∀ tk, Q (.ref s.heap.objs.size) { s with heap := s.heap.push (rvObj t ((items.size : Int) - 1)), toks := tk }) : wpAny (model prog w) A (call (.type "reversed") [.ref t]) Q E s :=
  callType_new RV.called_rev (by decide) (by kernel_rfl) (by kernel_rfl) (fun obj => PySem.F.args_object_init_2 obj _) RV.entry_new (meets_rv_new t items) ⟨ht, hz, fun tk => ⟨⟨_, Heap.get?_push_size _ rfl, rfl⟩, h tk⟩⟩
end
section
variable {X : Cx} {tg : Expr}
end
end BF
set_option Elab.async false
set_option linter.all false
set_option maxRecDepth 100000
namespace BF
open PySem PySem.Spec PyProof.Rows L2

/-! ### a method by its contract; a class that is made -/
section
variable {X : Cx} {k : Nat} {x m : Str} {ps : List Str} {sp : Sp} {p pos apos : Pos} {o e : Expr} {es : List Expr} {t : TA} {ta : TE} {C : Addr}
end

/-! ### pieces on the heap -/
theorem snoc_of {α : Type} {l : List α} (h : l ≠ []) : ∃ l0 x, l = l0 ++ [x] := ⟨l.dropLast, l.getLast h, (List.dropLast_concat_getLast h).symm⟩
end BF
set_option Elab.async false
set_option linter.all false
namespace BF
open PySem
end BF
set_option Elab.async false
set_option linter.all false
set_option maxRecDepth 100000
namespace BF
open PySem PySem.Spec PyProof.Rows L2

theorem big {n : Nat} (h : n ≤ 100000) : n < sizeLine := Nat.lt_of_le_of_lt h (by decide)
theorem small {n : Nat} (h : n ≤ 100000) : n ≤ sizeLine := Nat.le_of_lt (big h)
end BF
set_option Elab.async false
set_option linter.all false
namespace BF
open PySem PySem.Spec PyProof.Rows L2
section
variable {X : Cx} {x : Str} {p pos : Pos} {e : Expr} {es : List Expr} {t : TA} {id T : String} {r : List V → Hp → VK → Prop}
theorem pe_blt (hc : CallR X (.builtin id) r) (hm : X.mg x = none) (hv : bootBuiltins x = some (.builtin id)) (ha : PA X (e :: es) t) (hg : Gl X x := by rfl) (hn : x ≠ "__name__" := by decide) (hdb : (x == ("__debug__" : Str)) = false := by decide)
    (he : starEach (e :: es) X.env = (false, eval e X.env) :: starEach es X.env := by rfl) (hpl : (backTo pos (starEach es X.env)).any (·.1) = false := by rfl) : PE X (.Call (.Name x p) (e :: es) [] pos) (tCB r t) := pe_callB hc hg hm hv ha hn hdb he hpl
theorem pe_bty (hc : CallR X (.type T) r) (hm : X.mg x = none) (hv : bootBuiltins x = some (.type T)) (ha : PA X (e :: es) t) (hg : Gl X x := by rfl) (hn : x ≠ "__name__" := by decide) (hdb : (x == ("__debug__" : Str)) = false := by decide)
    (he : starEach (e :: es) X.env = (false, eval e X.env) :: starEach es X.env := by rfl) (hpl : (backTo pos (starEach es X.env)).any (·.1) = false := by rfl) : PE X (.Call (.Name x p) (e :: es) [] pos) (tCB r t) := pe_callTy hc hg hm hv ha hn hdb he hpl
theorem pe_tyn (hm : X.mg x = none) (hv : bootBuiltins x = some (.type T)) (hg : Gl X x := by rfl) (hn : x ≠ "__name__" := by decide) (hdb : (x == ("__debug__" : Str)) = false := by decide) : PE X (.Name x pos) (tC (.ty T)) := pe_bltn hg hm hv rfl hn hdb
end
end BF
set_option Elab.async false
set_option linter.all false
set_option maxRecDepth 100000
namespace BF
open PySem PySem.Spec PyProof.Rows L2

/-! ### exceptions of own classes -/
section
variable {P : Program} {w : World} {K : PySem.W.Frag} {mg : Str → Option Value} {base : Heap} {N : List Str} {qual : Str} {scope : Scope} {f : Addr} {cd : Value} {A : Around} {outer : List Env} {s0 : Shared} {H0 : Hp} {E : XK}
end
section
variable {X : Cx} {x : Str} {C : Addr} {np cpos pos : Pos} {e : Expr} {es : List Expr} {t : TA} {B newId initId : String} {bmB : List Value}
end
end BF
set_option Elab.async false
set_option linter.all false
set_option maxRecDepth 100000
namespace BF
open PySem PySem.Spec PyProof.Rows L2

/-! ### try: an exception of an own class is caught -/
section
variable {X : Cx} {pins : List (Addr × Obj)} {σ : L2.St} {H : Hp} {s : Shared} {ea T : Addr} {cls fl : Value}
end
end BF
set_option Elab.async false
set_option linter.all false
set_option maxRecDepth 100000
namespace BF
open PySem PySem.Spec PyProof.Rows L2

section
variable {X : Cx} {pins : List (Addr × Obj)} {σ : L2.St} {H : Hp} {s : Shared} {ea T : Addr} {cls fl : Value} {oe : Obj}
variable {C CX : Addr} {x : Str} {np hpos : Pos} {b₀ : Stmt} {suite : List Stmt} {D : Ends} {L : Addr}
end

/-! ### try with one call for a body -/
section
variable {X : Cx} {k : Nat} {f : Addr} {fd : FuncData} {ps : List Str} {sp : Sp} {dvs : List V} {ds : List Value} {x : Str} {p pos hpos tpos np : Pos} {e : Expr} {es : List Expr} {t : TA}
variable {st b₀ : Stmt} {suite : List Stmt} {tb : Ends → (Addr → Hp → Prop) → L2.St → Hp → Prop} {C CX L : Addr}
end
end BF
set_option Elab.async false
set_option linter.all false
set_option maxRecDepth 100000
namespace BF
open PySem PySem.Spec PyProof.Rows L2 PySem.W

/-! ### isinstance of an exception -/
section
variable {prog : Program} {w : World} {A : Around} {E : Value → Shared → Prop} {h : Heap} {g : Array GenState} {d : Drawn} {t : Nat} {os : OsState} {a C : Addr} {o : Obj} {vs : Array Value} {K : Frag}
end
section
variable {X : Cx} {ea C : Addr} {oe : Obj}
end
end BF
set_option Elab.async false
set_option linter.all false
set_option maxRecDepth 100000
namespace BF
open PySem PySem.Spec PyProof.Rows L2
open Sem (wp)

/-! ### list(it) of an iterator; list(d) -/
theorem paired_of : ∀ {xs : List V} {us : List Value}, xs.length = us.length → (∀ (i : Nat) x u, xs[i]? = some x → us[i]? = some u → RelV x u) → Vals xs us
  | [], [], _, _ => .nil
  | x :: xs, u :: us, hl, h => .cons (h 0 x u rfl rfl) (paired_of (by simpa using hl) fun i a b e1 e2 => h (i + 1) a b (by simpa using e1) (by simpa using e2))
  | [], _ :: _, hl, _ => by simp at hl
  | _ :: _, [], hl, _ => by simp at hl
/-- an iterator as a source: it stands at I, what it walks at d -/
structure ItSrc (prog : Program) (w : World) (T : String) (I d : Addr) (n : Nat) (P : Nat → Value → Prop) (St : Nat → Heap → Prop) : Prop where
  W : ∀ A : Around, A.handled = none → Walks prog w A I [I, d] [I] n P St
  ty : ∀ s : Shared, St 0 s.heap → s.TypeIs (.ref I) T
  nl : (Value.type T == Value.type "list") = false
  nt : (Value.type T == Value.type "tuple") = false
  hint : ∀ (A : Around) (E : Value → Shared → Prop) (s : Shared) (Q : Bool → Shared → Prop), St 0 s.heap → (∀ b tk, Q b { s with toks := tk }) → wpAny (model prog w) A (Builtin.List.listLengthHint (.ref I)) Q E s
section
variable {prog : Program} {w : World} {A : Around} {E : Value → Shared → Prop} {s : Shared} {T : String} {I d : Addr} {n : Nat} {P : Nat → Value → Prop} {St : Nat → Heap → Prop}
theorem it_ext {R : Result → Shared → Prop} (Z : ItSrc prog w T I d n P St) (hh : A.handled = none) (st : St 0 s.heap) (S : Addr) (n1 : S ≠ I) (n2 : S ≠ d) (c₀ : Nat) (hS : s.heap.get? S = some { cls := .type "list", data := .seq #[] c₀ })
    (hR : ∀ h' tk acc' c', (∀ b o, b ≠ S → b ≠ I → s.heap.get? b = some o → h'.get? b = some o) → h'.get? S = some { cls := .type "list", dict := none, data := .seq acc' c', slots := #[] } → ItemsOf P acc' n → R (.ok (.ret .none)) { s with heap := h', toks := tk }) (hn : n ≤ sizeLine) :
    wpAny (model prog w) A.in1 (Builtin.List.listExtendWith (.ref S) (.ref I) .none) (fun fin s' => match fin with | .done f => R (.ok f) s' | .again c' => c'.quiet = true ∧ codeAny (model prog w) A c' R s') (fun e s' => R (.error e) s') s := by
  have nf : S ∉ [I, d] := by simp [n1, n2]
  have W := Z.W A.in1 hh
  have key : ∀ (h : Heap) (c₁ tk : Nat), St 0 h → (∀ b o, b ≠ S → s.heap.get? b = some o → h.get? b = some o) → h.get? S = some { cls := .type "list", data := .seq #[] c₁ } →
      codeAny (model prog w) A (.builtin "list.extend.loop" ⟨[.ref S, .ref I, .none], []⟩) R { s with heap := h, toks := tk } := fun h c₁ tk hst hk h1 => by
    refine codeAny_extend_loopS W.toS hn S nf .none n 0 _ #[] c₁ rfl (Nat.zero_le _) hst h1 (ItemsOf.nil _) fun s' acc' c' hm h2 hacc => ?_
    rw [Moved.eq_with hm]
    refine hR s'.heap s'.toks acc' c' (fun b o hb hbI e => hm.heap b o (fun z => ?_) (hk b o hb e)) h2 hacc
    rcases List.mem_cons.mp z with z | z
    · exact hb z
    · exact hbI (by simpa using z)
  unfold Builtin.List.listExtendWith
  refine wpAny_bind (wpAny_typeOf (T := T) (Z.ty s st) ?_)
  have g1 : Builtin.List.listSameRef (.ref S) (.ref I) = false := by simp [Builtin.List.listSameRef, n1]
  simp only [g1, Z.nl, Z.nt, Bool.or_false, Bool.false_eq_true, if_false]
  refine wpAny_bind (W.self 0 _ _ _ st ?_)
  refine wpAny_bind (wpAny_holding (Z.hint _ _ _ _ st fun b tk => ?_))
  refine wpAny_ite_split (fun _ => ?_) (fun _ => wpAny_pure ⟨plainId_quiet PySem.F.plain_extend_loop _, key _ c₀ tk st (fun _ _ _ e => e) hS⟩)
  refine wpAny_bind (wpAny_rule (wpAny_bind ?_))
  show wpAny _ _ (updateSeq S (·.push .none) >>= fun _ => updateSeq S (·.pop)) _ _ _
  refine wpAny_bind (wpAny_updateSeq (s := { s with toks := tk }) hS rfl ?_)
  have g2 := Heap.get?_update_self (Obj.mapSeq (·.push Value.none)) hS rfl
  refine wpAny_updateSeq (hz := by seq_fits) g2 rfl ?_
  have g3 := Heap.get?_update_self (Obj.mapSeq (·.pop)) g2 rfl
  have oth : ∀ b o, b ≠ S → s.heap.get? b = some o → ((s.heap.update S (Obj.mapSeq (·.push Value.none))).update S (Obj.mapSeq (·.pop))).get? b = some o :=
    fun b o hb e => by rw [Heap.get?_update_other _ _ (Ne.symm hb), Heap.get?_update_other _ _ (Ne.symm hb)]; exact e
  exact wpAny_pure ⟨plainId_quiet PySem.F.plain_extend_loop _, key _ _ tk (W.frame 0 _ _ st fun b hb o e => oth b o (fun z => nf (z ▸ hb)) e) (fun b o hb e => oth b o hb e) g3⟩
theorem it_list {Q : Value → Shared → Prop} (Z : ItSrc prog w T I d n P St) (hh : A.handled = none) (st : St 0 s.heap) (h1 : I < s.heap.objs.size) (h2 : d < s.heap.objs.size) (hn : n ≤ sizeLine)
    (hQ : ∀ h' tk acc' c', (∀ b o, b ≠ I → s.heap.get? b = some o → h'.get? b = some o) → h'.get? s.heap.objs.size = some { cls := .type "list", dict := none, data := .seq acc' c', slots := #[] } → ItemsOf P acc' n → Q (.ref s.heap.objs.size) { s with heap := h', toks := tk }) :
    wpAny (model prog w) A (call (.type "list") [.ref I]) Q E s := by
  refine callType_codes (Q₁ := fun obj s₁ => obj = .ref s.heap.objs.size ∧ s₁ = { s with heap := s.heap.push { cls := .type "list", data := .seq #[] } }) PySem.F.called_list (PySem.F.typeCall_list_1 _) PySem.F.entry_list_init (code_list_new _ ⟨rfl, rfl⟩) fun obj s₁ g => ?_
  obtain ⟨rfl, rfl⟩ := g
  have hS : (s.heap.push { cls := .type "list", data := .seq #[] }).get? s.heap.objs.size = some { cls := .type "list", data := .seq #[] } := Heap.get?_push_size _ rfl
  refine ⟨⟨_, hS, rfl⟩, PySem.F.args_list_init_2 _ _, ?_⟩
  show wpAny _ _ (do let old ← Builtin.List.listItems (.ref s.heap.objs.size); Builtin.List.listUpdate (.ref s.heap.objs.size) (fun _ => #[]); letGo old.toList.reverse; Builtin.List.listExtendWith (.ref s.heap.objs.size) (.ref I) .none) _ _ _
  refine wpAny_bind ?_
  unfold Builtin.List.listItems
  refine wpAny_bind (wpAny_seqItems hS rfl (wpAny_pure ?_))
  show wpAny _ _ (updateSeq s.heap.objs.size (fun _ => #[]) >>= fun _ => letGo (#[] : Array Value).toList.reverse >>= fun _ => Builtin.List.listExtendWith (.ref s.heap.objs.size) (.ref I) .none) _ _ _
  refine wpAny_bind (wpAny_updateSeq hS rfl ?_)
  have g2 := Heap.get?_update_self (Obj.mapSeq (fun _ => (#[] : Array Value))) hS rfl
  have oth : ∀ b o, s.heap.get? b = some o → ((s.heap.push { cls := .type "list", data := .seq #[] }).update s.heap.objs.size (Obj.mapSeq (fun _ => (#[] : Array Value)))).get? b = some o :=
    fun b o e => by rw [Heap.get?_update_other _ _ (Nat.ne_of_gt (Heap.lt_size e))]; exact Heap.get?_push_of_some _ e
  refine wpAny_bind (wpAny_letGo ?_)
  refine it_ext (A := A.in1) Z hh ((Z.W A hh).frame 0 _ _ st fun b _ o e => oth b o e) _ (Nat.ne_of_gt h1) (Nat.ne_of_gt h2) _ g2 (fun h' tk acc' c' hk hS' hacc => ?_) hn
  exact ⟨rfl, hQ h' tk acc' c' (fun b o hb e => hk b o (Nat.ne_of_lt (Heap.lt_size e)) hb (oth b o e)) hS' hacc⟩
end
namespace RV
theorem lri_len : typeLookup (.type "list_reverseiterator") "__len__" = pure none := by rw [typeLookup_type, builtinLookup_eq_fast]; kernel_rfl
theorem lri_hint : typeLookup (.type "list_reverseiterator") "__length_hint__" = pure (some (.builtin "list_reverseiterator.__length_hint__")) := by rw [typeLookup_type, builtinLookup_eq_fast]; kernel_rfl
theorem rev_len : typeLookup (.type "reversed") "__len__" = pure none := by rw [typeLookup_type, builtinLookup_eq_fast]; kernel_rfl
theorem slot_hint : Slot "reversed" "__length_hint__" "reversed.__length_hint__" :=
  .of (owner := "reversed") (n := "__length_hint__") (by rw [typeLookup_type, builtinLookup_eq_fast]; kernel_rfl) (by decide +kernel) (by decide +kernel) (by decide +kernel)
    (by first | exact .inl (by decide +kernel) | exact .inr (by decide +kernel)) (by rw [isSubtype_type]; kernel_rfl)
theorem entry_hint : entryFor table "reversed.__length_hint__" = some Builtin.«reversed.__length_hint__» := entryFor_of_tree (by kernel_rfl)
theorem args_hint (a : Value) : argsOk "reversed.__length_hint__" ⟨[a], []⟩ := by
  unfold argsOk; rw [signature?_of (id := "reversed.__length_hint__") (n := ['_', '_', 't', 'n', 'i', 'h', '_', 'h', 't', 'g', 'n', 'e', 'l', '_', '_']) (o := ['d', 'e', 's', 'r', 'e', 'v', 'e', 'r']) (by kernel_rfl) owner_rev]; kernel_rfl
end RV
section
variable {prog : Program} {w : World}
theorem src_lri (I l : Addr) (hne : l ≠ I) (items : Array Value) : ItSrc prog w "list_reverseiterator" I l items.size (fun i v => items[items.size - 1 - i]? = some v) (fun i h => i ≤ items.size ∧ h.IsRevIter I l ((items.size : Int) - 1 - (i : Int)) ∧ h.IsList l items) where
  W := fun A hh => Walks.listRev hh I l hne items
  ty := fun s st => st.2.1.typeIs
  nl := by decide
  nt := by decide
  hint := fun A E s Q st hQ => by
    have hT := st.2.1.typeIs
    unfold Builtin.List.listLengthHint
    refine wpAny_bind (wpAny_specialOf hT RV.lri_len ?_)
    show wpAny _ _ (specialOf (Value.ref I) (Str.ofString "__length_hint__") >>= _) _ _ _
    refine wpAny_bind (wpAny_specialOf hT RV.lri_hint ?_)
    generalize hid : ("list_reverseiterator.__length_hint__" : String) = id0
    wp_delta
    rw [show splitId id0 = some ("list_reverseiterator", "__length_hint__") from by subst hid; decide +kernel]
    subst hid
    refine wpAny_bind (wpAny_isInstance (T := "list_reverseiterator") (b := true) hT (by rw [isSubtype_type]; kernel_rfl) ?_)
    refine wpAny_ite_split (fun hab => absurd hab (by decide)) (fun _ => ?_)
    refine wpAny_ite_split (fun _ => ?_) (fun hab => absurd (by decide +kernel) hab)
    refine wpAny_ite_split (fun hab => absurd hab (by decide +kernel)) (fun _ => ?_)
    exact wpAny_pure (hQ false s.toks)
end
end BF
set_option Elab.async false
set_option linter.all false
set_option maxRecDepth 100000
namespace BF
open PySem PySem.Spec PyProof.Rows L2
open Sem (wp)
section
variable {prog : Program} {w : World}
theorem src_rv (I l : Addr) (hne : l ≠ I) (items : Array Value) (hz : items.size ≤ sizeLine) : ItSrc prog w "reversed" I l items.size (fun i v => items[items.size - 1 - i]? = some v) (fun i h => i ≤ items.size ∧ h.get? I = some (rvObj l ((items.size : Int) - 1 - (i : Int))) ∧ IsTup h l items) where
  W := fun A hh => {
    sub := fun b hb => by simp at hb; simp [hb]
    frame := fun _ _ _ x hk => ⟨x.1, hk I (by simp) _ x.2.1, let ⟨o, ho, r⟩ := x.2.2; ⟨o, hk l (by simp) o ho, r⟩⟩
    item := fun i s Q E hi x hQ => by
      have hn := line63
      have e : (items.size : Int) - 1 - (i : Int) = ((items.size - 1 - i : Nat) : Int) := by omega
      have hit := x.2.1
      rw [e] at hit
      have hx : items[items.size - 1 - i]? = some (items[items.size - 1 - i]'(by omega)) := Array.getElem?_eq_getElem (by omega)
      refine next_rv hit x.2.2 hx (by omega) fun h' tk hit' hs' => ?_
      have e2 : ((items.size - 1 - i : Nat) : Int) - 1 = (items.size : Int) - 1 - ((i + 1 : Nat) : Int) := by omega
      rw [e2] at hit'
      exact hQ _ h' tk hx ⟨hi, hit', let ⟨o, ho, r⟩ := x.2.2; ⟨o, (hs'.2 l hne).trans ho, r⟩⟩ fun b o hb eo => (hs'.2 b fun h => hb (by simp [h])).trans eo
    done := fun s Q E x hQ => by
      have e : (items.size : Int) - 1 - (items.size : Int) = -1 := by omega
      have hit := x.2.1
      rw [e] at hit
      exact next_rv_end hh hit fun h' he' => hQ h' s.toks fun b o hb eo => he' b o (fun h => hb (by simp [h])) eo
    self := fun _ _ _ _ x hQ => iter_rv x.2.1 hQ }
  ty := fun s st => ⟨_, st.2.1, rfl⟩
  nl := by decide
  nt := by decide
  hint := fun A E s Q st hQ => by
    have hT : s.TypeIs (.ref I) "reversed" := ⟨_, st.2.1, rfl⟩
    have hn := line63
    unfold Builtin.List.listLengthHint
    refine wpAny_bind (wpAny_specialOf hT RV.rev_len ?_)
    show wpAny _ _ (specialOf (Value.ref I) (Str.ofString "__length_hint__") >>= _) _ _ _
    refine wpAny_bind (wpAny_specialOf hT RV.slot_hint.lookup ?_)
    generalize hid : ("reversed.__length_hint__" : String) = id0
    wp_delta
    rw [show splitId id0 = some ("reversed", "__length_hint__") from by subst hid; decide +kernel]
    subst hid
    refine wpAny_bind (wpAny_isInstance (T := "reversed") (b := true) hT (by rw [isSubtype_type]; kernel_rfl) ?_)
    refine wpAny_ite_split (fun hab => absurd hab (by decide)) (fun _ => ?_)
    refine wpAny_ite_split (fun hab => absurd hab (by decide +kernel)) (fun _ => ?_)
    refine wpAny_bind (wpAny_rule ?_)
    refine wpAny_bind (wpAny_of_eq (RV.slot_hint.bind (.ref I)) ?_)
    dsimp only
    refine wpAny_bind (wpAny_attempt (wpAny_call_entry RV.slot_hint hT RV.entry_hint ?_ (RV.args_hint _)))
    unfold Builtin.«reversed.__length_hint__»
    refine wpAny_bind (wpAny_of_eq (a := Value.ref I) rfl ?_)
    refine wpAny_bind (wpAny_field st.2.1 rfl (x := .ref l) rfl ?_)
    refine wpAny_ite_split (fun hab => absurd hab (by simp)) (fun _ => ?_)
    refine wpAny_bind (len_tuple st.2.2 (by omega) ?_)
    refine wpAny_bind (wpAny_of_eq (a := some (items.size : Int)) (by first | rfl | simp [asInt?]) ?_)
    dsimp only
    refine wpAny_bind (wpAny_field (x := rawInt ((items.size : Int) - 1 - ((0 : Nat) : Int))) st.2.1 rfl rfl ?_)
    show wpAny _ _ (if (items.size : Int) < ((items.size : Int) - 1 - ((0 : Nat) : Int)) + 1 then _ else _) _ _ _
    rw [if_neg (by omega)]
    unfold retInt
    refine wpAny_bind (wpAny_mkInt (wpAny_pure ⟨_, rfl, ?_⟩))
    dsimp only
    refine wpAny_bind (wpAny_of_eq (a := some ((items.size : Int) - 1 - ((0 : Nat) : Int) + 1)) (by first | rfl | simp [asInt?]) ?_)
    have e1 : (items.size : Int) - 1 - ((0 : Nat) : Int) + 1 = (items.size : Int) := by omega
    rw [e1]
    dsimp only
    have f1 : Builtin.List.listFitsIndex (items.size : Int) = true := by
      unfold Builtin.List.listFitsIndex
      simp only [Bool.and_eq_true, decide_eq_true_eq]
      omega
    have f2 : Builtin.List.listTooLong ((items.size : Int).toNat) = false := by
      unfold Builtin.List.listTooLong
      simp only [decide_eq_false_iff_not]
      omega
    rw [f1, f2]
    refine wpAny_ite_split (fun hab => absurd hab (by decide)) (fun _ => ?_)
    refine wpAny_ite_split (fun hab => absurd hab (by omega)) (fun _ => ?_)
    refine wpAny_ite_split (fun hab => absurd hab (by decide)) (fun _ => ?_)
    exact wpAny_pure (hQ _ _)
end
theorem pair_get {α β : Type} {F : α → β → Prop} : ∀ {l : List α} {m : List β} {i : Nat} {a : α}, Paired F l m → l[i]? = some a → ∃ b, m[i]? = some b ∧ F a b
  | _, _, _, _, .nil, e => by simp at e
  | _, _, 0, _, .cons r _, e => by cases e; exact ⟨_, rfl, r⟩
  | _, _, i + 1, _, .cons _ rr, e => by simpa using pair_get (i := i) rr (by simpa using e)
section
variable {X : Cx} {p p' pos pos' : Pos} {e : Expr} {te : TE}
theorem key_rel {P : Program} {w : World} {k : Key} {v : Value} (h : (mixKind P w).is k v = true) : RelV (kV k) v := by
  rcases keyIs_shape h with ⟨i, t, rfl, rfl⟩ | ⟨x, t, rfl, rfl⟩
  · exact ⟨t, rfl⟩
  · exact ⟨t, rfl⟩
theorem call_list_dict (hc : X.calm = true) : CallR X (.type "list") (fun xs H Q => ∃ q kvs, xs = [.ref q] ∧ H q = some (.dK kvs) ∧ ∀ l, H l = none → Q (.ref l) (upd H l (.lst (kvs.map fun kv => kV kv.1)))) := by
  intro pins s σ H xs us Q I r h
  obtain ⟨q, kvs, rfl, hq, h⟩ := h
  obtain ⟨u, rfl, ru⟩ := vals1 r
  cases ru
  obtain ⟨z, lo, vs, rel, hd⟩ := dk_of I.hok hq
  obtain ⟨ep, hat⟩ := hd.dictAt
  have hl : kvs.length = vs.length := rel.length
  refine PySem.W.kdl_call (PySem.W.kdl_dict (knd := mixKind X.prog X.w) (kvs := vs) (ep := ep) lo) (I.ok.hd hc) hat (by omega) fun h' tk acc' c' hk hS hacc => ?_
  have rr : Vals (kvs.map fun kv => kV kv.1) acc'.toList := by
    have hz := hacc.1
    refine paired_of (by simp only [List.length_map, Array.length_toList]; omega) fun i x u h1 h2 => ?_
    obtain ⟨k, y, h3, h4⟩ := hacc.2 i u (by simpa using h2)
    rw [List.getElem?_map] at h1
    cases h5 : kvs[i]? with
    | none => rw [h5] at h1; cases h1
    | some kv =>
      rw [h5] at h1
      cases h1
      obtain ⟨kv', h6, h7, _⟩ := pair_get rel h5
      rw [h3] at h6
      cases h6
      have h7 : kv.1 = k := h7
      show RelV (kV kv.1) u
      rw [h7]
      exact key_rel h4
  have z2 : (kvs.map fun kv => kV kv.1).length ≤ sizeLine := by rw [List.length_map]; exact z
  exact ⟨.ref s.heap.objs.size, _, I.laid (t' := tk) hk (Nat.le_refl _) (show ObjOk X.prog X.w _ h' _ (.lst (kvs.map fun kv => kV kv.1)) from ⟨z2, acc'.toList, c', rr, hS⟩), rfl, h _ (I.hok.fresh (Nat.le_refl _))⟩
theorem pe_lsd {es : List Expr} {t : TA} (hm : X.mg "list" = none) (ha : PA X (e :: es) t) (hc : X.calm = true := by rfl) (hg : Gl X "list" := by rfl) (he : starEach (e :: es) X.env = (false, eval e X.env) :: starEach es X.env := by rfl) (hpl : (backTo pos (starEach es X.env)).any (·.1) = false := by rfl) :
    PE X (.Call (.Name "list" p) (e :: es) [] pos) (tCB (fun xs H Q => ∃ q kvs, xs = [.ref q] ∧ H q = some (.dK kvs) ∧ ∀ l, H l = none → Q (.ref l) (upd H l (.lst (kvs.map fun kv => kV kv.1)))) t) :=
  pe_bty (call_list_dict hc) hm bt_list ha hg (by decide) (by decide) he hpl
/-- what is left when an iterator of ours has been emptied into a list -/
theorem rev_fin {pins : List (Addr × Obj)} {σ : L2.St} {H : Hp} {s1 : Shared} {xs : List V} {its : List Value} {oI : Obj} {tk0 tk : Nat} {h' : Heap} {acc' : Array Value} {c' : Nat} {Q : VK} (I1 : Inv X pins σ H s1) (rv : Vals xs its) (hz : xs.length ≤ sizeLine)
    (hk : ∀ b o, b ≠ s1.heap.objs.size → (s1.heap.push oI).get? b = some o → h'.get? b = some o) (hS : h'.get? (s1.heap.push oI).objs.size = some { cls := .type "list", dict := none, data := .seq acc' c', slots := #[] })
    (hacc : ItemsOf (fun i v => its.toArray[its.toArray.size - 1 - i]? = some v) acc' its.toArray.size) (q : ∀ l, H l = none → Q (.ref l) (upd H l (.lst xs.reverse))) :
    EP X pins σ Q (.ref (s1.heap.push oI).objs.size) { s1 with heap := h', toks := tk } := by
  have hl := rv.length
  have h1 := hacc.1
  simp only [List.size_toArray] at h1
  have rr : Vals xs.reverse acc'.toList := by
    refine paired_of (by simp only [List.length_reverse, Array.length_toList]; omega) fun i x u e1 e2 => ?_
    have hi : i < xs.length := by
      have := (List.getElem?_eq_some_iff.mp e1).1
      simpa using this
    have h3 := hacc.2 i u (by simpa using e2)
    simp only [List.size_toArray] at h3
    rw [List.getElem?_reverse hi] at e1
    obtain ⟨u', h5, h6⟩ := rv.get e1
    have e3 : its.length - 1 - i = xs.length - 1 - i := by omega
    rw [e3] at h3
    have h3' : its[xs.length - 1 - i]? = some u := by simpa using h3
    rw [h5] at h3'
    cases h3'
    exact h6
  have z2 : xs.reverse.length ≤ sizeLine := by simpa using hz
  have sz : s1.heap.objs.size ≤ (s1.heap.push oI).objs.size := by simp [Heap.push]
  exact ⟨.ref _, _, I1.laid (a := (s1.heap.push oI).objs.size) (t' := tk) (fun b o e => hk b o (Nat.ne_of_lt (Heap.lt_size e)) (Heap.get?_push_of_some _ e)) sz (show ObjOk X.prog X.w _ h' _ (.lst xs.reverse) from ⟨z2, acc'.toList, c', rr, hS⟩), rfl, q _ (I1.hok.fresh sz)⟩
def tLRev (sq : Hp → Addr → List V → Prop) (te : TE) : TE := fun σ H Q => te σ H fun v H1 => ∃ a xs, v = .ref a ∧ sq H1 a xs ∧ ∀ l, H1 l = none → Q (.ref l) (upd H1 l (.lst xs.reverse))
/-- list(reversed(l)) -/
theorem pe_listrevL (hm : X.mg "list" = none) (hm' : X.mg "reversed" = none) (h : PE X e te) (hc : X.calm = true := by rfl) (hg : Gl X "list" := by rfl) (hg' : Gl X "reversed" := by rfl)
    (h1 : starEach [.Call (.Name "reversed" p') [e] [] pos'] X.env = [(false, eval (.Call (.Name "reversed" p') [e] [] pos') X.env)] := by rfl) (h2 : starEach [e] X.env = [(false, eval e X.env)] := by rfl) :
    PE X (.Call (.Name "list" p) [.Call (.Name "reversed" p') [e] [] pos'] [] pos) (tLRev (SqL X.K) te) := by
  intro pins s σ H Q I hw
  refine Call_ (ld_blt I hg hm bt_list (PyProof.Rows.callWith_type1 ?_ h1 rfl))
  rw [h1]
  refine Calls.spliced_cons ?_
  refine Call_ (ld_blt I hg' hm' bt_reversed (PyProof.Rows.callWith_type1 ?_ h2 rfl))
  rw [h2]
  refine Calls.spliced_cons (thn (h pins s σ H _ I hw) fun u s1 ⟨x, H1, I1, r1, q1⟩ => Calls.spliced_nil ?_)
  obtain ⟨a, xs, rfl, hq, q⟩ := q1
  cases r1
  obtain ⟨its, rv, pl, hz⟩ := I1.list hq
  have hl := rv.length
  refine call_reversed_list pl.isList (Calls.spliced_nil ?_)
  have ha : a < s1.heap.objs.size := let ⟨o, ho, _⟩ := pl.isList; Heap.lt_size ho
  have e0 : (its.toArray.size : Int) - 1 = (its.toArray.size : Int) - 1 - ((0 : Nat) : Int) := by omega
  refine it_list (d := a) (src_lri s1.heap.objs.size a (Nat.ne_of_lt ha) its.toArray) (I.ok.hd hc) (s := { s1 with heap := s1.heap.push (revObj a ((its.toArray.size : Int) - 1)) }) ⟨Nat.zero_le _, ⟨_, Heap.get?_push_size _ rfl, rfl, by rw [← e0]; rfl⟩, ?_⟩ (by simp [Heap.push]) (Nat.lt_trans ha (by simp [Heap.push])) (by simp only [List.size_toArray]; omega) fun h' tk acc' c' hk hS hacc => ?_
  · obtain ⟨o, ho, r⟩ := pl.isList
    exact ⟨o, Heap.get?_push_of_some _ ho, r⟩
  · exact rev_fin (tk0 := 0) I1 rv hz hk hS hacc q
/-- list(reversed(t)) -/
theorem pe_listrevT (hm : X.mg "list" = none) (hm' : X.mg "reversed" = none) (h : PE X e te) (hc : X.calm = true := by rfl) (hg : Gl X "list" := by rfl) (hg' : Gl X "reversed" := by rfl)
    (h1 : starEach [.Call (.Name "reversed" p') [e] [] pos'] X.env = [(false, eval (.Call (.Name "reversed" p') [e] [] pos') X.env)] := by rfl) (h2 : starEach [e] X.env = [(false, eval e X.env)] := by rfl) :
    PE X (.Call (.Name "list" p) [.Call (.Name "reversed" p') [e] [] pos'] [] pos) (tLRev (SqT X.K) te) := by
  intro pins s σ H Q I hw
  refine Call_ (ld_blt I hg hm bt_list (PyProof.Rows.callWith_type1 ?_ h1 rfl))
  rw [h1]
  refine Calls.spliced_cons ?_
  refine Call_ (ld_blt I hg' hm' bt_reversed (PyProof.Rows.callWith_type1 ?_ h2 rfl))
  rw [h2]
  refine Calls.spliced_cons (thn (h pins s σ H _ I hw) fun u s1 ⟨x, H1, I1, r1, q1⟩ => Calls.spliced_nil ?_)
  obtain ⟨a, xs, rfl, hq, q⟩ := q1
  cases r1
  obtain ⟨its, rv, pl, hz⟩ := I1.tuple hq
  have hl := rv.length
  have hn := line63
  refine call_rv pl (by simp only [List.size_toArray]; omega) fun tk0 => Calls.spliced_nil ?_
  have ha : a < s1.heap.objs.size := let ⟨o, ho, _⟩ := pl; Heap.lt_size ho
  have e0 : (its.toArray.size : Int) - 1 = (its.toArray.size : Int) - 1 - ((0 : Nat) : Int) := by omega
  refine it_list (d := a) (src_rv s1.heap.objs.size a (Nat.ne_of_lt ha) its.toArray (by simp only [List.size_toArray]; omega)) (I.ok.hd hc) (s := { s1 with heap := s1.heap.push (rvObj a ((its.toArray.size : Int) - 1)), toks := tk0 }) ⟨Nat.zero_le _, (by rw [← e0]; exact Heap.get?_push_size _ rfl), ?_⟩ (by simp [Heap.push]) (Nat.lt_trans ha (by simp [Heap.push])) (by simp only [List.size_toArray]; omega) fun h' tk acc' c' hk hS hacc => ?_
  · obtain ⟨o, ho, r⟩ := pl
    exact ⟨o, Heap.get?_push_of_some _ ho, r⟩
  · exact rev_fin (tk0 := 0) I1 rv hz hk hS hacc q
end
/-! ### a def that may raise -/
section
variable {P : Program} {w : World} {K : PySem.W.Frag} {mg : Str → Option Value} {base : Heap}
end
section
variable {X : Cx} {k : Nat} {x : Str} {ps : List Str} {sp : Sp} {p pos : Pos} {e : Expr} {es : List Expr} {t : TA}
end
end BF
namespace BF
open PySem L2
end BF
set_option Elab.async false
set_option linter.all false
namespace BF
open PySem L2
theorem tSeq_cut {t u : TS} {D : Ends} {σ : L2.St} {H : Hp} (Pv : L2.St → Hp → Prop) (key : ∀ σ' H', Pv σ' H' → u D σ' H') (main : (∀ σ' H', Pv σ' H' → u D σ' H') → t { D with nx := u D } σ H) : tSeq t u D σ H := main key
end BF
set_option Elab.async false
set_option linter.all false
set_option maxRecDepth 100000
namespace BF
open PySem PySem.Spec PyProof.Rows L2
open Sem (wp)

/-! ### list comprehensions -/
/-- the cells that a comprehension's block sees -/
def closOf (env : Env) : List (Str × NameKind) → List (Str × Addr) → List (Str × Addr)
  | [], cs => cs
  | (n, k) :: r, cs => closOf env r (if (k == NameKind.free) = true then (match env.cells.lookup n with | some c => (n, c) :: cs | none => cs) else cs)
theorem closOf_eq (env : Env) (scope : Scope) (h : ∀ y ∈ scope.names, y.2 = .free → ∃ c, env.cells.lookup y.1 = some c) : closureFor scope env = pure (closOf env scope.names []) := by
  unfold closureFor
  have key : ∀ (l : List (Str × NameKind)) (cs : List (Str × Addr)), (∀ y ∈ l, y.2 = .free → ∃ c, env.cells.lookup y.1 = some c) →
      (forIn l cs fun x r => match x with | (name, kind) => if (kind == NameKind.free) = true then (do let a ← cellOf env name; pure (ForInStep.yield ((name, a) :: r))) else pure (ForInStep.yield r) : Sem (List (Str × Addr))) = pure (closOf env l cs) := by
    intro l
    induction l with
    | nil => intro cs _; rfl
    | cons y r ih =>
      intro cs hl
      obtain ⟨n, k⟩ := y
      rw [List.forIn_cons]
      by_cases hk : k = .free
      · subst hk
        obtain ⟨c, hc⟩ := hl (n, .free) List.mem_cons_self rfl
        have e : cellOf env n = pure c := by unfold cellOf; rw [hc]
        simp only [beq_self_eq_true, if_true, e, closOf, hc, pure_bind]
        exact ih _ fun y hy => hl y (List.mem_cons_of_mem _ hy)
      · have hb : (k == NameKind.free) = false := by simpa using hk
        simp only [hb, Bool.false_eq_true, if_false, closOf, pure_bind]
        exact ih _ fun y hy => hl y (List.mem_cons_of_mem _ hy)
  have := key scope.names [] h
  simpa using this
theorem closOf_sound (env : Env) : ∀ (l : List (Str × NameKind)) (cs : List (Str × Addr)), (∀ x c, cs.lookup x = some c → env.cells.lookup x = some c) → ∀ x c, (closOf env l cs).lookup x = some c → env.cells.lookup x = some c := by
  intro l
  induction l with
  | nil => intro cs h x c e; exact h x c e
  | cons y r ih =>
    intro cs h x c e
    obtain ⟨n, k⟩ := y
    simp only [closOf] at e
    refine ih _ (fun x c e => ?_) x c e
    split at e
    · split at e
      · next c' hc =>
        rw [List.lookup_cons] at e
        split at e
        · next hx =>
          have hx' : x = n := by simpa using hx
          cases e
          rw [hx']
          exact hc
        · exact h x c e
      · exact h x c e
    · exact h x c e
theorem closOf_has (env : Env) : ∀ (l : List (Str × NameKind)) (cs : List (Str × Addr)) (x : Str), ((x, NameKind.free) ∈ l ∧ (∃ c, env.cells.lookup x = some c)) ∨ (∃ c, cs.lookup x = some c) → ∃ c, (closOf env l cs).lookup x = some c := by
  intro l
  induction l with
  | nil =>
    intro cs x h
    rcases h with ⟨h, _⟩ | h
    · simp at h
    · exact h
  | cons y r ih =>
    intro cs x h
    obtain ⟨n, k⟩ := y
    simp only [closOf]
    rcases h with ⟨h, c, hc⟩ | ⟨c, hc⟩
    · rcases List.mem_cons.mp h with e | e
      · cases e
        refine ih _ _ (.inr ⟨c, ?_⟩)
        simp [hc]
      · exact ih _ _ (.inl ⟨e, c, hc⟩)
    · refine ih _ _ (.inr ?_)
      split
      · split
        · rw [List.lookup_cons]
          split
          · exact ⟨_, rfl⟩
          · exact ⟨c, hc⟩
        · exact ⟨c, hc⟩
      · exact ⟨c, hc⟩
/-- the block's context -/
abbrev cmp (X : Cx) (Nc : List Str) (scope : Scope) (C : Addr) (s₀ : Shared) (H₀ : Hp) (fp : List Addr) : Cx :=
  { X with N := Nc, s₀ := s₀, H₀ := H₀, env := compEnvC scope (closOf X.env scope.names []) C X.env, outer := X.stack, stack := X.stack, ex := fp, fn := fun _ => false, xe := fun _ _ => False }
/-- a comprehension's tests -/
def PTs (X : Cx) (ifs : List Expr) (tt : TT) : Prop :=
  ∀ (pins : List (Addr × Obj)) (s : Shared) (σ : L2.St) (H : Hp) (Q : Bool → Hp → Prop), Inv X pins σ H s → tt σ H Q →
    wpAny (model X.prog X.w) X.A (forIn ifs true fun c r => if r = true then do let ok ← isTrue c X.env (eval c X.env); pure (ForInStep.yield ok) else pure (ForInStep.yield r)) (TP X pins σ Q) X.xe s
def tAll : TT := fun _ H Q => Q true H
theorem pts_nil {X : Cx} : PTs X [] tAll := fun _ _ _ H _ I h => wpAny_tests_nil ⟨H, I, h⟩
theorem pts_one {X : Cx} {c : Expr} {t : TT} (h : PT X c t) : PTs X [c] t := fun pins s σ H Q I q => wpAny_tests_one (h pins s σ H Q I q)
section
variable {prog : Program} {w : World} {A : Around} {E : Value → Shared → Prop} {R : Result → Shared → Prop} {s : Shared}
theorem compLoop_go {elt target iter : Expr} {ifs : List Expr} {scope : Scope} {pos : Pos} {it acc : Value} {env : Env} (I : Nat → Shared → Prop)
    (turn : ∀ n s, I n s → wpAny (model prog w) A (pyNext it) (fun r s₁ => match r with
      | none => R (.ok .next) s₁
      | some v => wpAny (model prog w) A (letOwnedTupleGo target it v) (fun _ s₀ => wpAny (model prog w) A (assign target env v) (fun _ s₂ =>
          wpAny (model prog w) A (forIn ifs true fun c r => if r = true then do let ok ← isTrue c env (eval c env); pure (ForInStep.yield ok) else pure (ForInStep.yield r)) (fun ok s₃ =>
            if ok = true then wpAny (model prog w) A (eval elt env) (fun x s₄ =>
              wpAny (model prog w) A (call (.builtin "list.append") [acc, x]) (fun _ s₅ => ∃ m, m < n ∧ I m s₅) (notedBy (model prog w) A env fun e s' => R (.error e) s') s₄) (notedBy (model prog w) A env fun e s' => R (.error e) s') s₃
            else ∃ m, m < n ∧ I m s₃) (notedBy (model prog w) A env fun e s' => R (.error e) s') s₂) (notedBy (model prog w) A env fun e s' => R (.error e) s') s₀) (notedBy (model prog w) A env fun e s' => R (.error e) s') s₁) (notedBy (model prog w) A env fun e s' => R (.error e) s') s)
    (n : Nat) (h : I n s) :
    codeAny (model prog w) A (.compLoop (.ListComp elt [⟨target, iter, ifs, 0⟩] scope pos) 0 it acc env) R s := by
  refine codeAny_loop rfl I (fun n s hI => ?_) n h
  show wpAny _ A ((compTurn (.ListComp elt [⟨target, iter, ifs, 0⟩] scope pos) 0 it acc env).onRaise (fun x => do noteFrame x env; theTreesLotGoes x)) _ _ s
  refine wpAny_noted ?_
  rw [compTurn_list]
  refine wpAny_bind (wpAny_standAt (wpAny_bind (wpAny_mono (turn n s hI) (fun r s₁ h₁ => ?_) fun _ _ h' => h')))
  cases r with
  | none => exact wpAny_pure h₁
  | some v =>
    refine wpAny_bind (wpAny_mono h₁ (fun _ s₀ h₀ => ?_) fun _ _ h' => h')
    refine wpAny_bind (wpAny_mono h₀ (fun _ s₂ h₂ => wpAny_bind (wpAny_mono h₂ (fun ok s₃ h₃ => ?_) fun _ _ h' => h')) fun _ _ h' => h')
    cases ok with
    | false => exact wpAny_pure ⟨rfl, h₃⟩
    | true =>
      exact wpAny_bind (wpAny_bind (wpAny_mono h₃ (fun x s₄ h₄ => wpAny_bind (wpAny_mono h₄ (fun _ s₅ h₅ => wpAny_pure (wpAny_pure ⟨rfl, h₅⟩)) fun _ _ h' => h')) fun _ _ h' => h'))
end
/-- the names' values in the block: the targets' first, then those that it sees of the def's -/
def cst (σ : L2.St) (k : Nat) (js : List Nat) : L2.St := List.replicate k none ++ js.map fun j => (σ[j]?).join
/-- the turns of a comprehension whose list stands at D -/
def tCompW (g : TG) (tt : TT) (te : TE) (J : It) (σc : L2.St) (H1 : Hp) (D : Addr) (Q : Hp → Prop) : Prop :=
  ∃ W : Nat → Nat → L2.St → Hp → Prop, (∃ m, W 0 m σc H1) ∧ ∀ i m σ H, W i m σ H →
    (J.stop i H ∧ Q H) ∨ (J.go i H ∧ ∃ N : L2.St → Hp → Prop, (∀ σ' H', N σ' H' → ∃ m', m' < m ∧ W (i + 1) m' σ' H') ∧ ∀ x H', J.yld i H x H' → g x σ H' fun σ2 H2 => tt σ2 H2 fun b H3 =>
      if b = true then te σ2 H3 fun y H4 => ∃ ys, H4 D = some (.lst ys) ∧ ys.length < sizeLine ∧ N σ2 (upd H4 D (.lst (ys ++ [y]))) else N σ2 H3)
abbrev Fam (α : Type) := Addr → Shared → Hp → List Addr → α
def tComp (k : Nat) (js : List Nat) (wi : TI) (g : Fam TG) (tt : Fam TT) (te : Fam TE) : TE := fun σ H Q => wi σ H fun J H1 => ∀ D, H1 D = none → ∀ C s₀ H₀ fp, tCompW (g C s₀ H₀ fp) (tt C s₀ H₀ fp) (te C s₀ H₀ fp) J (cst σ k js) (upd H1 D (.lst [])) D fun H2 => Q (.ref D) H2
/-- what a comprehension's scope must be, beside the def's -/
structure CompSc (X : Cx) (Nc : List Str) (k : Nat) (js : List Nat) (scope : Scope) : Prop where
  kind : scope.kind = .function
  nocell : (scope.names.all fun y => y.2 != .cell) = true
  loc : (scope.names.all fun y => y.2 != .local || scope.names.lookup y.1 == some .local) = true
  fre : (scope.names.all fun y => y.2 != .free || X.env.scope.names.lookup y.1 == some .cell) = true
  len : Nc.length = k + js.length
  out : ((Nc.drop k).zip js).all (fun p => X.N[p.2]? == some p.1 && X.env.scope.names.lookup p.1 == some .cell && scope.names.lookup p.1 == some .free) = true
theorem lookup_relabel {env : Env} {x : Str} : ∀ {names : List (Str × NameKind)}, (names.map fun (n, k) => if (k == NameKind.free && env.scope.kind == .function && env.kindOf n == some .cell) then (n, NameKind.cell) else (n, k)).lookup x = some .cell ∨ (names.map fun (n, k) => if (k == NameKind.free && env.scope.kind == .function && env.kindOf n == some .cell) then (n, NameKind.cell) else (n, k)).lookup x = some .free →
    (names.all fun y => y.2 != .cell) = true → (x, NameKind.free) ∈ names
  | [], h, _ => by simp at h
  | (n, k) :: r, h, hc => by
    have hc' : k ≠ .cell ∧ (r.all fun y => y.2 != .cell) = true := by simpa using hc
    by_cases hx : x = n
    · subst hx
      by_cases hk : k = .free
      · rw [hk]; exact List.mem_cons_self
      · exfalso
        have hb : (k == NameKind.free) = false := by simpa using hk
        simp only [List.map_cons, hb, Bool.false_and, Bool.false_eq_true, if_false, List.lookup_cons, beq_self_eq_true] at h
        rcases h with h | h
        · exact hc'.1 (Option.some.inj h)
        · exact hk (Option.some.inj h)
    · have hb : (x == n) = false := by simpa using hx
      refine List.mem_cons_of_mem _ (lookup_relabel (env := env) ?_ hc'.2)
      simp only [List.map_cons] at h
      split at h <;> (simp only [List.lookup_cons, hb] at h; exact h)
theorem relabel_free {env : Env} {x : Str} : ∀ {names : List (Str × NameKind)}, names.lookup x = some .free →
    (names.map fun (n, k) => if (k == NameKind.free && env.scope.kind == .function && env.kindOf n == some .cell) then (n, NameKind.cell) else (n, k)).lookup x = some .cell ∨ (names.map fun (n, k) => if (k == NameKind.free && env.scope.kind == .function && env.kindOf n == some .cell) then (n, NameKind.cell) else (n, k)).lookup x = some .free
  | [], h => by simp at h
  | (n, k) :: r, h => by
    by_cases hx : x = n
    · subst hx
      simp only [List.lookup_cons, beq_self_eq_true] at h
      cases h
      simp only [List.map_cons]
      split
      · left; simp [List.lookup_cons]
      · right; simp [List.lookup_cons]
    · have hb : (x == n) = false := by simpa using hx
      simp only [List.lookup_cons, hb] at h
      have := relabel_free (env := env) h
      simp only [List.map_cons]
      split <;> (simp only [List.lookup_cons, hb]; exact this)
section
variable {X : Cx} {pins : List (Addr × Obj)} {σ : L2.St} {s2 : Shared} {tg elt iter : Expr} {ifs : List Expr} {scope : Scope} {pos : Pos} {Nc : List Str} {k : Nat} {js : List Nat} {g : Fam TG} {tt : Fam TT} {te : Fam TE} {J : It} {fp : List Addr} {it : Addr} {tn : Nat → Heap → Prop} {H2 : Hp}
theorem comp_inv {H3 : Hp} {s3 s4 : Shared} {C : Addr} {m4 : Str → Option Value} (S : CompSc X Nc k js scope) (I3 : Inv X pins σ H3 s3) (f3 : ∀ b ∈ fp, FpOk X pins H3 b) (hfp : ∀ b ∈ fp, ∃ o, s3.heap.get? b = some o) (hC : s3.heap.objs.size ≤ C)
    (ho : s4.os = s3.os) (hgn : s4.gens = s3.gens) (hk : ∀ b o, s3.heap.get? b = some o → s4.heap.get? b = some o) (hn : s4.heap.Ns C m4) : Inv (cmp X Nc scope C s3 H3 fp) [] (cst σ k js) H3 s4 := by
  have hclo : ∀ x c, (closOf X.env scope.names []).lookup x = some c → X.env.cells.lookup x = some c := closOf_sound X.env _ _ (fun _ _ e => by simp at e)
  have below : ∀ b, b ∈ fp → b ∉ frs X.stack := fun b hb z => (List.mem_cons.mp (I3.stkSub b z)).elim (f3 b hb).2.1 (f3 b hb).2.2.1
  have fresh : ∀ b o, s3.heap.get? b = some o → b ≠ C := fun b o e => Nat.ne_of_lt (Nat.lt_of_lt_of_le (Heap.lt_size e) hC)
  refine ⟨⟨I3.ok.mod, S.kind, I3.ok.glob, I3.ok.blt, hC, fun x y c h1 h2 => I3.ok.inj x y c (hclo x c h1) (hclo y c h2), fun x hx => ?_, fun x c h _ => absurd h Bool.false_ne_true, I3.ok.hd, I3.ok.frames, .inl rfl, fun b hb => ⟨?_, fun x c e => (f3 b hb).2.2.2.2.1 x c (hclo x c e)⟩, I3.bs,
      Nat.le_trans I3.ok.bsz I3.sz, fun b o e hb => ?_, below, I3.stack, I3.stkFree⟩, ho, by rw [hgn]; exact I3.bare, Un.kept hk, ⟨m4, hn, fun i x v h1 h2 h3 => ?_⟩, fun x c e => ?_, I3.hok.fresh hC, fun x c e => I3.freeC x c (hclo x c e), fun p hp => ?_, I3.hok.kept hk, ?_⟩
  · have hm := lookup_relabel (env := X.env) (names := scope.names) hx S.nocell
    refine closOf_has X.env _ _ x (.inl ⟨hm, ?_⟩)
    have := List.all_eq_true.mp S.fre _ hm
    have this' : X.env.scope.names.lookup x = some .cell := by simpa using this
    exact I3.ok.has x (.inl this')
  · obtain ⟨o, e⟩ := hfp b hb
    exact fresh b o e
  · rcases (f3 b hb).2.2.2.1 with z | z
    · exact I3.ok.noex b o e z
    · exact absurd (Nat.lt_of_lt_of_le (Heap.lt_size (I3.ok.bs b o e).1) z) (Nat.lt_irrefl _)
  · have hik : k ≤ i := by
      by_cases hi : k ≤ i
      · exact hi
      · exfalso
        have hi' : i < k := by omega
        unfold cst at h2
        rw [List.getElem?_append_left (by simpa using hi'), List.getElem?_replicate, if_pos hi'] at h2
        cases h2
    have h2' : (js[i - k]?).map (fun j => (σ[j]?).join) = some (some v) := by
      unfold cst at h2
      rw [List.getElem?_append_right (by simpa using hik)] at h2
      simpa using h2
    obtain ⟨j, hj, hv⟩ := Option.map_eq_some_iff.mp h2'
    have hσ : σ[j]? = some (some v) := by
      cases e : σ[j]? with
      | none => rw [e] at hv; cases hv
      | some o => rw [e] at hv; rw [show o = some v from hv]
    have hz : ((Nc.drop k).zip js)[i - k]? = some (x, j) := by
      rw [List.getElem?_zip_eq_some]
      refine ⟨?_, hj⟩
      rw [List.getElem?_drop]
      have : k + (i - k) = i := by omega
      rw [this]
      exact h1
    have ho := List.all_eq_true.mp S.out _ (List.mem_of_getElem? hz)
    simp only [Bool.and_eq_true, beq_iff_eq] at ho
    obtain ⟨⟨o1, o2⟩, o3⟩ := ho
    obtain ⟨m, hm, hl⟩ := I3.loc
    obtain ⟨u, r, l⟩ := hl j x v o1 hσ (.inr (.inl o2))
    rcases l with ⟨l, _⟩ | ⟨_, c, hc, o, hco, hcd⟩
    · have l' : X.env.scope.names.lookup x = some .local := l
      rw [o2] at l'
      cases l'
    · obtain ⟨c', hc'⟩ := closOf_has X.env scope.names [] x (.inl ⟨PySem.mem_of_lookup o3, c, hc⟩)
      have e := hclo x c' hc'
      rw [hc] at e
      cases e
      exact ⟨u, r, .inr ⟨relabel_free (env := X.env) o3, c, hc', o, hk _ _ hco, hcd⟩⟩
  · obtain ⟨v, o, h1, h2⟩ := I3.cell x c (hclo x c e)
    exact ⟨v, o, hk _ _ h1, h2⟩
  · have hp' : p ∈ X.pn := by simpa using hp
    obtain ⟨e, n, ne, nf, d⟩ := I3.pin p (List.mem_append_left _ hp')
    exact ⟨hk _ _ e, n, fresh _ _ e, fun z => (List.mem_cons.mp (I3.stkSub _ z)).elim ne nf, d⟩
  · simp [cst, S.len]
/-- behind the block: the def's own state again -/
theorem comp_back {H3 H5 : Hp} {s3 s5 : Shared} {C : Addr} {σ5 : L2.St} (I3 : Inv X pins σ H3 s3) (f3 : ∀ b ∈ fp, FpOk X pins H3 b) (hC : s3.heap.objs.size ≤ C) (I5 : Inv (cmp X Nc scope C s3 H3 fp) [] σ5 H5 s5) :
    Inv X pins σ H5 s5 ∧ FpOk X pins H5 C ∧ ∃ m, s5.heap.Ns C m := by
  refine ⟨I3.call' I5.os I5.base I5.hok I5.bare (fun b hb => ?_), I3.fpOk hC I5.free, let ⟨m, hm, _⟩ := I5.loc; ⟨m, hm⟩⟩
  obtain ⟨f0, f1, f2, f4, f5, f6⟩ := f3 b hb
  exact ⟨f4, f1, f5, f6⟩
theorem comp_core {Q : Addr → Hp → Prop} {E : Value → Shared → Prop} {RR : Value → Addr → Result → Shared → Prop} (S : CompSc X Nc k js scope) (hcalm : X.calm = true) (hg : ∀ C s₀ H₀ fp, PG (cmp X Nc scope C s₀ H₀ fp) tg (g C s₀ H₀ fp)) (ht : ∀ C s₀ H₀ fp, PTs (cmp X Nc scope C s₀ H₀ fp) ifs (tt C s₀ H₀ fp))
    (he : ∀ C s₀ H₀ fp, PE (cmp X Nc scope C s₀ H₀ fp) elt (te C s₀ H₀ fp)) (I2 : Inv X pins σ H2 s2) (T : Turn X.prog X.w X.K tg J fp it tn) (st2 : tn 0 s2.heap) (f2 : ∀ b ∈ fp, FpOk X pins H2 b)
    (hw : ∀ D, H2 D = none → ∀ C s₀ H₀ fp, tCompW (g C s₀ H₀ fp) (tt C s₀ H₀ fp) (te C s₀ H₀ fp) J (cst σ k js) (upd H2 D (.lst [])) D (Q D))
    (hRR : ∀ D C s' H', Q D H' → Inv X pins σ H' s' → FpOk X pins H' C → (∃ m, s'.heap.Ns C m) → RR (.ref D) C (.ok .next) s') :
    wpAny (model X.prog X.w) X.A (newList []) (fun acc s₃ => wpAny (model X.prog X.w) X.A (newFunctionEnv scope X.env.globals (closOf X.env scope.names []) [] X.env.qual none .none (some X.env)) (fun cenv s₄ =>
      codeAny (model X.prog X.w) X.A (.compStart (.ListComp elt [⟨tg, iter, ifs, 0⟩] scope pos) 0 (.ref it) acc { cenv with scope := relabel scope X.env }) (RR acc cenv.locals) s₄) E s₃) E s2 := by
  have I3 : Inv X pins σ (upd H2 s2.heap.objs.size (.lst [])) { s2 with heap := s2.heap.push { cls := .type "list", data := .seq ([] : List Value).toArray } } := I2.lnew (its := []) (t' := s2.toks) .nil (by decide)
  have hold : ∀ b ∈ fp, ∃ o, s2.heap.get? b = some o := fun b hb => let ⟨o, e, _⟩ := T.obj _ _ st2 b hb; ⟨o, e⟩
  have f3 : ∀ b ∈ fp, FpOk X pins (upd H2 s2.heap.objs.size (.lst [])) b := fun b hb => by
    obtain ⟨o, e⟩ := hold b hb
    exact ⟨by rw [upd_ne (Nat.ne_of_lt (Heap.lt_size e))]; exact (f2 b hb).1, (f2 b hb).2⟩
  have w3 := hw _ I2.fresh
  generalize hD : s2.heap.objs.size = D at I3 f3 w3
  have kp3 : ∀ b o, s2.heap.get? b = some o → (s2.heap.push { cls := .type "list", data := .seq ([] : List Value).toArray }).get? b = some o := fun b o e => Heap.get?_push_of_some _ e
  refine wpAny_newObj_type (wpAny_newFunctionEnv (fun y hy z => ?_) (by intro y hy; simp at hy) (fun h₁ hns₁ hsb₁ => ?_) S.kind)
  · have := List.all_eq_true.mp S.nocell y hy
    rw [z] at this
    exact absurd this (by decide)
  dsimp only at hns₁ hsb₁ ⊢
  rw [hD]
  generalize hH : s2.heap.push { cls := .type "list", dict := none, data := .seq ([] : List Value).toArray } = h3 at hns₁ hsb₁ I3 kp3 ⊢
  have k4 : ∀ b o, h3.get? b = some o → h₁.get? b = some o := fun b o e => hsb₁.extBut b o (Nat.ne_of_lt (Heap.lt_size e)) (Heap.get?_push_of_some _ e)
  have hold3 : ∀ b ∈ fp, ∃ o, h3.get? b = some o := fun b hb => let ⟨o, e⟩ := hold b hb; ⟨o, kp3 b o e⟩
  have I4 : Inv (cmp X Nc scope h3.objs.size { s2 with heap := h3 } (upd H2 D (.lst [])) fp) [] (cst σ k js) (upd H2 D (.lst [])) { s2 with heap := h₁, toks := s2.toks + ([] : List (Str × Value)).length } :=
    comp_inv S I3 f3 hold3 (Nat.le_refl _) rfl rfl k4 hns₁
  have hclo : ∀ x c, (closOf X.env scope.names []).lookup x = some c → X.env.cells.lookup x = some c := closOf_sound X.env _ _ (fun _ _ e => by simp at e)
  have stat : ∀ {H' : Hp}, (∀ b ∈ fp, H' b = none) → ∀ b ∈ fp, FpOk (cmp X Nc scope h3.objs.size { s2 with heap := h3 } (upd H2 D (.lst [])) fp) [] H' b := fun hn b hb => by
    obtain ⟨o, e⟩ := hold3 b hb
    obtain ⟨_, g1, g2, g3, g4, g5⟩ := f3 b hb
    exact ⟨hn b hb, Nat.ne_of_lt (Heap.lt_size e), fun z => (List.mem_cons.mp (I3.stkSub b z)).elim g1 g2, .inl hb, fun x c e => g4 x c (hclo x c e), fun p hp => g5 p (List.mem_append_left _ (by simpa using hp))⟩
  have loop : codeAny (model X.prog X.w) X.A (.compLoop (.ListComp elt [⟨tg, iter, ifs, 0⟩] scope pos) 0 (.ref it) (.ref D) (compEnvC scope (closOf X.env scope.names []) h3.objs.size X.env)) (RR (.ref D) h3.objs.size)
      { s2 with heap := h₁, toks := s2.toks + ([] : List (Str × Value)).length } := by
    obtain ⟨W, ⟨m0, w0⟩, turn⟩ := w3 h3.objs.size { s2 with heap := h3 } (upd H2 D (.lst [])) fp
    refine compLoop_go (fun n s' => ∃ i σ' H', Inv (cmp X Nc scope h3.objs.size { s2 with heap := h3 } (upd H2 D (.lst [])) fp) [] σ' H' s' ∧ tn i s'.heap ∧ (∀ b ∈ fp, H' b = none) ∧ W i n σ' H') ?_ m0
      ⟨0, _, _, I4, T.keep _ _ _ st2 (fun b hb o e => k4 b o (kp3 b o e)), fun b hb => (f3 b hb).1, w0⟩
    rintro n s5 ⟨i, σ5, H5, I5, st5, fr5, w5⟩
    rcases turn i n σ5 H5 w5 with ⟨stop, q⟩ | ⟨go, N, hN, step⟩
    · refine thn (T.done (cmp X Nc scope h3.objs.size { s2 with heap := h3 } (upd H2 D (.lst [])) fp) rfl rfl rfl hcalm i [] s5 σ5 H5 _ I5 (stat fr5) st5 stop) fun r s6 ⟨hr, I6⟩ => ?_
      subst hr
      obtain ⟨a, b, c⟩ := comp_back I3 f3 (Nat.le_refl _) I6
      exact hRR D _ s6 H5 q a b c
    · refine thn (T.item (cmp X Nc scope h3.objs.size { s2 with heap := h3 } (upd H2 D (.lst [])) fp) rfl rfl rfl hcalm i [] s5 σ5 H5 _ I5 (stat fr5) st5 go) fun r s6 ⟨u, hr, h6⟩ => ?_
      subst hr
      refine thn h6 fun _ s7 ⟨x, H7, I7, r7, y7, st7, fr7⟩ => ?_
      have I7' := I7.pinned (stat fr7) (T.obj _ _ st7)
      have q7 := step x H7 y7
      have again : ∀ {σ' : L2.St} {H' : Hp} {s' : Shared}, Inv (cmp X Nc scope h3.objs.size { s2 with heap := h3 } (upd H2 D (.lst [])) fp) ([] ++ pinsAt fp s7.heap) σ' H' s' → N σ' H' →
          ∃ m, m < n ∧ ∃ i σ' H', Inv (cmp X Nc scope h3.objs.size { s2 with heap := h3 } (upd H2 D (.lst [])) fp) [] σ' H' s' ∧ tn i s'.heap ∧ (∀ b ∈ fp, H' b = none) ∧ W i m σ' H' := fun {σ' H' s'} I' n' => by
        obtain ⟨m', hm, w7⟩ := hN σ' H' n'
        refine ⟨m', hm, i + 1, σ', H', I'.unpinned, T.keep _ _ _ st7 fun b hb o e => (I'.pin (b, o) (List.mem_append_right _ (List.mem_append_right _ (mem_pinsAt hb e)))).1, fun b hb => ?_, w7⟩
        obtain ⟨o, e, d⟩ := T.obj _ _ st7 b hb
        exact (I'.pin (b, o) (List.mem_append_right _ (List.mem_append_right _ (mem_pinsAt hb e)))).2.1
      refine wpAny_mono (hg _ _ _ _ _ s7 σ5 H7 x u _ I7' r7 q7) (fun _ s8 ⟨σ8, H8, I8, q8⟩ => ?_) (fun _ _ f => f.elim)
      refine wpAny_mono (ht _ _ _ _ _ s8 σ8 H8 _ I8 q8) (fun ok s9 ⟨H9, I9, q9⟩ => ?_) (fun _ _ f => f.elim)
      cases ok with
      | false =>
        rw [if_neg Bool.false_ne_true] at q9 ⊢
        exact again I9 q9
      | true =>
        rw [if_pos rfl] at q9 ⊢
        refine wpAny_mono (he _ _ _ _ _ s9 σ8 H9 _ I9 q9) (fun y s10 ⟨v, H10, I10, r10, ys, hys, hz, q10⟩ => ?_) (fun _ _ f => f.elim)
        exact wpAny_mono (mt_append (X := cmp X Nc scope h3.objs.size { s2 with heap := h3 } (upd H2 D (.lst [])) fp) _ s10 σ8 H10 (.ref D) [v] (.ref D) [y] (fun _ H' => N σ8 H') I10 rfl (.cons r10 .nil) ⟨D, ys, v, rfl, rfl, hys, hz, q10⟩) (fun _ s11 ⟨_, H11, I11, _, q11⟩ => again I11 q11) (fun _ _ f => f.elim)
  exact codeAny_compStart_list loop (T.self _ 0 _ _ _ (T.keep _ _ _ st2 (fun b hb o e => k4 b o (kp3 b o e))) loop)
theorem comp_clos (S : CompSc X Nc k js scope) {H : Hp} {s : Shared} (I : Inv X pins σ H s) : closureFor scope X.env = pure (closOf X.env scope.names []) :=
  closOf_eq X.env scope fun y hy z => by
    have := List.all_eq_true.mp S.fre y hy
    rw [z] at this
    have this' : X.env.scope.names.lookup y.1 = some .cell := by simpa using this
    exact I.ok.has y.1 (.inl this')
theorem comp_names (S : CompSc X Nc k js scope) : ∀ y ∈ scope.names, y.2 = .local → scope.names.lookup y.1 = some .local := fun y hy z => by
  have := List.all_eq_true.mp S.loc y hy
  rw [z] at this
  simpa using this
theorem pe_comp {wi : TI} (S : CompSc X Nc k js scope) (hi : PI X tg iter wi) (hg : ∀ C s₀ H₀ fp, PG (cmp X Nc scope C s₀ H₀ fp) tg (g C s₀ H₀ fp)) (ht : ∀ C s₀ H₀ fp, PTs (cmp X Nc scope C s₀ H₀ fp) ifs (tt C s₀ H₀ fp))
    (he : ∀ C s₀ H₀ fp, PE (cmp X Nc scope C s₀ H₀ fp) elt (te C s₀ H₀ fp)) (hcalm : X.calm = true := by rfl) (hs : ∀ x, foldedSetIterable iter X.env x = pure x := by intro _; rfl) : PE X (.ListComp elt [⟨tg, iter, ifs, 0⟩] scope pos) (tComp k js wi g tt te) := by
  intro pins s σ H Q I h
  rw [eval_ListComp]
  refine wpAny_comprehension_free (use := none) rfl hs (comp_clos S I) S.kind (comp_names S) ?_
  refine thn (hi pins s σ H _ I h) fun v s1 h1 => thn h1 fun itv s2 h2 => ?_
  obtain ⟨it, fp, tn, J, H2, e, I2, T, st2, f2, w⟩ := h2
  subst e
  refine comp_core (Q := fun D H' => Q (.ref D) H') (RR := fun acc C => compPost (model X.prog X.w) X.A X.xe none (EP X pins σ Q) acc C) S hcalm hg ht he I2 T st2 f2 w fun D C s' H' q I' fC hm => ?_
  obtain ⟨m, hm⟩ := hm
  exact ⟨m, hm, fun h' sb => ⟨.ref D, H', I'.turned (t' := s'.toks) (fun b o hb e => (sb.2 b hb).trans e) fC.1 fC.2.1 fC.2.2.2.1 fC.2.2.2.2.1 fC.2.2.2.2.2, rfl, q⟩⟩
/-- name = [..]: the store comes ahead of the block's end -/
theorem ps_compset {wi : TI} {y : Str} {py spos : Pos} {i : Nat} (S : CompSc X Nc k js scope) (hN : X.N.Nodup) (hiN : X.N[i]? = some y) (hx : Loc X.env.scope y) (hi : PI X tg iter wi) (hg : ∀ C s₀ H₀ fp, PG (cmp X Nc scope C s₀ H₀ fp) tg (g C s₀ H₀ fp)) (ht : ∀ C s₀ H₀ fp, PTs (cmp X Nc scope C s₀ H₀ fp) ifs (tt C s₀ H₀ fp))
    (he : ∀ C s₀ H₀ fp, PE (cmp X Nc scope C s₀ H₀ fp) elt (te C s₀ H₀ fp)) (hsw : swapsWith (.ListComp elt [⟨tg, iter, ifs, 0⟩] scope pos) (some (.Name y py)) spos.line X.env = pure true := by rfl) (hcalm : X.calm = true := by rfl) (hs : ∀ x, foldedSetIterable iter X.env x = pure x := by intro _; rfl)
    (hf : X.fn y = true ∨ X.env.scope.names.lookup y = some .local := by first | exact .inl rfl | exact .inr rfl | assumption) :
    PS X (.Assign [.Name y py] (.ListComp elt [⟨tg, iter, ifs, 0⟩] scope pos) spos) (tAsg (tComp k js wi g tt te) (gName i)) := by
  intro pins s σ H D I h
  rw [exec_Assign_Name_used _ _ _ _ hsw]
  refine wpAny_bind (wpAny_standAt (wpAny_bind ?_))
  show wpAny _ X.A (do let _ ← comprehension (.ListComp elt [⟨tg, iter, ifs, 0⟩] scope pos) scope X.env _ (newList []) false (eval iter X.env) (some (assign (.Name y py) X.env))) _ _ s
  refine wpAny_bind (wpAny_mono (wpAny_comprehension_free (use := some (assign (.Name y py) X.env)) (Q := fun _ s' => SP X pins D .next s') rfl hs (comp_clos S I) S.kind (comp_names S)
    (thn (hi pins s σ H _ I h) fun v s1 h1 => thn h1 fun itv s2 h2 => ?_)) (fun _ s' hq => wpAny_pure (wpAny_pure hq)) fun _ _ e => e)
  obtain ⟨it, fp, tn, J, H2, e, I2, T, st2, f2, w⟩ := h2
  subst e
  refine comp_core (Q := fun Dd H' => D.nx (σ.set i (some (.ref Dd))) H') (RR := fun acc C => compPost (model X.prog X.w) X.A X.xe (some (assign (.Name y py) X.env)) (fun _ s' => SP X pins D .next s') acc C) S hcalm hg ht he I2 T st2 f2 w fun Dd C s' H' q I' fC hm => ?_
  obtain ⟨m, hm⟩ := hm
  show wpAny _ X.A (assign (.Name y py) X.env (.ref Dd)) _ _ _
  refine wpAny_assign_Name (store_ok2 I' hN hiN hx (v := .ref Dd) rfl (fun s'' I'' ⟨a, sb, ha⟩ => ?_) hf)
  have hCa : C ≠ a := by
    rcases ha with z | z
    · rw [z]; exact fC.2.1
    · exact Ne.symm (fC.2.2.2.2.1 y a z)
  exact ⟨m, hm.sameBut sb hCa, fun h' sb' => ⟨_, H', I''.turned (t' := s''.toks) (fun b o hb e => (sb'.2 b hb).trans e) fC.1 fC.2.1 fC.2.2.2.1 fC.2.2.2.2.1 fC.2.2.2.2.2, q⟩⟩
end
/-! the forms one uses -/
/-- over a list that the turns leave as it is; what is made stands at D -/
theorem comp_list {K : PySem.W.Frag} {a D : Addr} {xs : List V} {g : TG} {tt : TT} {te : TE} {σ : L2.St} {H : Hp} {Q : Hp → Prop} (Pv : Nat → L2.St → Hp → Prop) (h0 : Pv 0 σ H) (hl : ∀ i σ H, i ≤ xs.length → Pv i σ H → SqL K H a xs)
    (hs : ∀ i x σ H, xs[i]? = some x → Pv i σ H → g x σ H fun σ2 H2 => tt σ2 H2 fun b H3 => if b = true then te σ2 H3 fun y H4 => ∃ ys, H4 D = some (.lst ys) ∧ ys.length < sizeLine ∧ Pv (i + 1) σ2 (upd H4 D (.lst (ys ++ [y]))) else Pv (i + 1) σ2 H3)
    (hd : ∀ σ H, Pv xs.length σ H → Q H) : tCompW g tt te (Itl K a) σ H D Q := by
  refine ⟨fun i m σ H => m = xs.length - i ∧ i ≤ xs.length ∧ Pv i σ H, ⟨xs.length, by simp, Nat.zero_le _, h0⟩, ?_⟩
  rintro i m σ H ⟨rfl, hi, p⟩
  have q := hl i σ H hi p
  by_cases hlt : i < xs.length
  · refine .inr ⟨⟨xs, xs[i], q, by simp [hlt]⟩, Pv (i + 1), fun σ' H' p' => ⟨xs.length - (i + 1), by omega, rfl, hlt, p'⟩, fun x H' y => ?_⟩
    obtain ⟨e, y⟩ := y
    subst e
    exact hs i x σ _ (y xs q) p
  · have e : i = xs.length := by omega
    subst e
    exact .inl ⟨⟨xs, q, Nat.le_refl _⟩, hd σ H p⟩
theorem comp_listN {K : PySem.W.Frag} {a D : Addr} {xs : List V} {te : TE} {σ : L2.St} {H : Hp} {Q : Hp → Prop} (Pv : Nat → L2.St → Hp → Prop) (h0 : Pv 0 σ H) (hl : ∀ i σ H, i ≤ xs.length → Pv i σ H → SqL K H a xs)
    (hs : ∀ i x σ H, xs[i]? = some x → Pv i σ H → te (σ.set 0 (some x)) H fun y H4 => ∃ ys, H4 D = some (.lst ys) ∧ ys.length < sizeLine ∧ Pv (i + 1) (σ.set 0 (some x)) (upd H4 D (.lst (ys ++ [y]))))
    (hd : ∀ σ H, Pv xs.length σ H → Q H) : tCompW (gName 0) tAll te (Itl K a) σ H D Q :=
  comp_list Pv h0 hl (fun i x σ H hx hp => by
    simp only [gName, tAll, if_true]
    exact hs i x σ H hx hp) hd
end BF
set_option Elab.async false
set_option linter.all false
set_option maxRecDepth 100000
namespace BF
open PySem PySem.Spec PyProof.Rows L2
open Sem (wp)

/-! ### lists of data: !=, in, index -/
section
variable {P : Program} {w : World} {H : Hp} {s : Shared}
end
section
variable {X : Cx}
end
/-! ### reversed(a list) -/
def Itw (K : PySem.W.Frag) (a : Addr) (xs : List V) : It :=
  ⟨fun i H => SqL K H a xs ∧ i < xs.length, fun i H x H' => H' = H ∧ xs.reverse[i]? = some x, fun i H => i = xs.length⟩
theorem turn_rl {P : Program} {w : World} {K : PySem.W.Frag} {tg : Expr} (a it : Addr) (xs : List V) : Turn P w K tg (Itw K a xs) [it] it (fun i h => h.IsRevIter it a ((xs.length : Int) - 1 - (i : Nat))) where
  mem := by simp
  obj := fun i h st b hb => by
    have e : b = it := by simpa using hb
    subst e
    obtain ⟨o, ho, hc, hd⟩ := st
    exact ⟨o, ho, fun v z => by rw [hd] at z; cases z⟩
  keep := fun i h h' st k => st.at fun o e => k it (by simp) o e
  item := by
    intro X hP hw hK hc i pins s σ H E I hf st hg
    subst hP hw hK
    obtain ⟨hq, hi⟩ := hg
    obtain ⟨its, rv, p, hz⟩ := I.list hq
    obtain ⟨f0, f1, f2, f3, f4, f5⟩ := hf it (by simp)
    have hl := rv.length
    have e1 : (xs.length : Int) - 1 - (i : Nat) = ((xs.length - 1 - i : Nat) : Int) := by omega
    obtain ⟨x, hx⟩ : ∃ x, xs[xs.length - 1 - i]? = some x := ⟨_, List.getElem?_eq_getElem (by omega)⟩
    obtain ⟨u, hu, ru⟩ := rv.get hx
    rw [e1] at st
    refine wpAny_pyNext_rev_item st p.isList (x := u) (by simpa using hu) fun h' st' sb => ?_
    have I1 : Inv X pins σ H { s with heap := h' } := I.turned (t' := s.toks) (fun b o hb e => (sb.2 b hb).trans e) f0 f1 f3 f4 f5
    have e2 : ((xs.length - 1 - i : Nat) : Int) - 1 = (xs.length : Int) - 1 - ((i + 1 : Nat) : Int) := by omega
    rw [e2] at st'
    obtain ⟨o, ho, hoc, hod⟩ := id st'
    exact ⟨u, rfl, go_of (s := { s with heap := h' }) (n := "list_reverseiterator") ho hoc hod (by decide) ⟨x, H, I1, ru, ⟨rfl, by rw [List.getElem?_reverse (by omega)]; exact hx⟩, st', fun b hb => (hf b hb).1⟩⟩
  done := by
    intro X hP hw hK hc i pins s σ H E I hf st hg
    subst hP hw hK
    obtain ⟨f0, f1, f2, f3, f4, f5⟩ := hf it (by simp)
    have hi : i = xs.length := hg
    have e1 : (xs.length : Int) - 1 - (i : Nat) = -1 := by omega
    rw [e1] at st
    exact wpAny_pyNext_rev_end (I.ok.hd hc) st fun h' eb => ⟨rfl, I.turned (t' := s.toks) (fun b o hb e => eb b o hb e) f0 f1 f3 f4 f5⟩
  self := fun _ _ _ _ _ st h => wpAny_pyIter_revIter st h
section
variable {X : Cx} {tg : Expr}
def iRevL (K : PySem.W.Frag) (ta : TA) : TI := fun σ H R => ta σ H fun vs H1 => ∃ a xs, vs = [.ref a] ∧ SqL K H1 a xs ∧ R (Itw K a xs) H1
theorem pi_revL {a : Expr} {ta : TA} {p pos : Pos} (hg : Gl X "reversed") (hm : X.mg "reversed" = none) (ha : PA X [a] ta) (hs : starEach [a] X.env = [(false, eval a X.env)] := by rfl) : PI X tg (.Call (.Name "reversed" p) [a] [] pos) (iRevL X.K ta) := by
  intro pins s σ H R I h
  refine Call_ (ld_blt I hg hm bt_reversed (PyProof.Rows.callWith_type1 (thn (ha pos pins s σ H _ I h) fun us s1 ⟨vs, H1, I1, r1, q1⟩ => ?_) hs rfl))
  obtain ⟨b, xs, e, hq, q⟩ := q1
  subst e
  obtain ⟨u, rfl, ru⟩ := vals1 r1
  cases ru
  obtain ⟨its, rv, pl, hz⟩ := I1.list hq
  have hl := rv.length
  refine call_reversed_list pl.isList ?_
  have e3 : (((its.toArray).size : Nat) : Int) - 1 = (xs.length : Int) - 1 - ((0 : Nat) : Int) := by simp only [List.size_toArray]; omega
  rw [e3]
  have I2 : Inv X pins σ H1 { s1 with heap := s1.heap.push (revObj b ((xs.length : Int) - 1 - ((0 : Nat) : Int))) } := I1.kept (t' := s1.toks) fun b o e => Heap.get?_push_of_some _ e
  have st : (s1.heap.push (revObj b ((xs.length : Int) - 1 - ((0 : Nat) : Int)))).IsRevIter s1.heap.objs.size b ((xs.length : Int) - 1 - ((0 : Nat) : Int)) := ⟨_, Heap.get?_push_size _ rfl, rfl, rfl⟩
  refine wpAny_pyIter_revIter (s := { s1 with heap := s1.heap.push (revObj b ((xs.length : Int) - 1 - ((0 : Nat) : Int))) }) st ?_
  refine ⟨s1.heap.objs.size, [s1.heap.objs.size], _, _, H1, rfl, I2, turn_rl b _ xs, st, fun c hc => ?_, q⟩
  have e : c = s1.heap.objs.size := by simpa using hc
  subst e
  exact I1.fpOk (Nat.le_refl _) (I1.hok.fresh (Nat.le_refl _))
end
theorem for_revL {K : PySem.W.Frag} {a : Addr} {xs : List V} {g : TG} {tb : TS} {D : Ends} {σ : L2.St} {H : Hp} (Pv : Nat → L2.St → Hp → Prop) (h0 : Pv 0 σ H) (hl : ∀ i σ H, i ≤ xs.length → Pv i σ H → SqL K H a xs)
    (hs : ∀ i x σ H, xs.reverse[i]? = some x → Pv i σ H → g x σ H fun σ2 H2 => tb { D with nx := Pv (i + 1), ct := Pv (i + 1), bk := D.nx } σ2 H2) (hd : ∀ σ H, Pv xs.length σ H → D.nx σ H) :
    ∃ W : Nat → Nat → L2.St → Hp → Prop, (∃ m, W 0 m σ H) ∧ ∀ i m σ H, W i m σ H →
      ((Itw K a xs).stop i H ∧ D.nx σ H) ∨ ((Itw K a xs).go i H ∧ ∃ N : L2.St → Hp → Prop, (∀ σ' H', N σ' H' → ∃ m', m' < m ∧ W (i + 1) m' σ' H') ∧ ∀ x H', (Itw K a xs).yld i H x H' → g x σ H' fun σ2 H2 => tb { D with nx := N, ct := N, bk := D.nx } σ2 H2) := by
  refine ⟨fun i m σ H => m = xs.length - i ∧ i ≤ xs.length ∧ Pv i σ H, ⟨xs.length, by simp, Nat.zero_le _, h0⟩, ?_⟩
  rintro i m σ H ⟨rfl, hi, p⟩
  by_cases c : i = xs.length
  · subst c
    exact .inl ⟨rfl, hd σ H p⟩
  · have hlt : i < xs.length := by omega
    refine .inr ⟨⟨hl i σ H hi p, hlt⟩, Pv (i + 1), fun σ' H' k => ⟨xs.length - (i + 1), by omega, rfl, by omega, k⟩, ?_⟩
    rintro x H' ⟨rfl, hx⟩
    exact hs i x σ _ hx p
end BF
set_option Elab.async false
set_option linter.all false
set_option maxRecDepth 100000
namespace PySem
open Sem (wp)
/-! ### dict(a list of pairs) -/
namespace DP
theorem entry_loop : entryFor table "dict.update.loop" = some Builtin.«dict.update.loop» := entryFor_of_tree (by kernel_rfl)
theorem plain_loop : plainId "dict.update.loop" = true := by decide +kernel
theorem list_nokeys : typeLookup (.type "list") "keys" = pure none := by rw [typeLookup_type, builtinLookup_eq_fast]; kernel_rfl
end DP
theorem getAttrQ_miss_list {prog : Program} {w : World} {A : Around} {E : Value → Shared → Prop} {s : Shared} {a : Addr} {o : Obj} {xs : Array Value} {k : Nat} {name : Str} {Q : Option Value → Shared → Prop}
    (hx : s.heap.get? a = some o) (hc : o.cls = .type "list") (hdat : o.data = .seq xs k) (hd : o.dict = none) (hmiss : typeLookup (.type "list") name = pure none) (hname : (["__module__", "__name__", "__qualname__", "__doc__", "__annotations__"] : List Str).contains name = false) (hA : A.handled = none)
    (h : ∀ h' tk, (∀ b o, s.heap.get? b = some o → h'.get? b = some o) → Q none { s with heap := h', toks := tk }) (hsz : name.length + 100 ≤ sizeLine := by size_fits) :
    wpAny (model prog w) A (getAttr? (.ref a) name) Q E s := by
  obtain ⟨c, dct, dat, sl⟩ := o
  simp only at hc hdat hd
  subst hc hdat hd
  obtain ⟨hp, g, d, tk, os⟩ := s
  have hT : ∀ tk', (⟨hp, g, d, tk', os⟩ : Shared).TypeIs (.ref a) "list" := fun _ => ⟨_, hx, rfl⟩
  have f1 := sub_AttributeError
  have f3 := F.slot_list_getattribute.lookup
  have f4 := F.slot_list_getattribute.bind (.ref a)
  have f5 := am_list_getattr_none
  unfold getAttr? getAttrBy? getAttrBy
  repeat (any_goals (first | assumption | exact hT _ | ((with_reducible show wpAny _ _ (call (Value.builtin "list.__getattribute__") _ _) _ _ _); refine call_meets F.slot_list_getattribute (hT _) am_entry_list_getattribute (F.args_list_getattribute_2 _ _) (meets_getattribute_miss_list a xs k sl name _ hmiss hname hsz) ⟨hx, hA, fun h' tk' e hx' => ?_⟩) | wp_step))
  obtain ⟨t', u', he⟩ := hx'.there
  show wpAny _ _ (getattributeRaised _ _ _ _ _ _ _) _ _ _
  unfold getattributeRaised
  repeat (any_goals (first | assumption | wp_step))
  exact h _ _ hx'.of.keeps
section
variable {prog : Program} {w : World} {K : Type} [DecidableEq K] {knd : KeyKind prog w K} {A : Around} {R : Result → Shared → Prop}
/-- the pair that an item is -/
def PairIs (knd : KeyKind prog w K) (h : Heap) (u : Value) (p : K × Value) : Prop := ∃ a key, u = .ref a ∧ h.IsTuple a #[key, p.2] ∧ knd.is p.1 key = true
theorem upd_loop (hh : A.handled = none) {h0 : Heap} {items : Array Value} {vs : List (K × Value)} {l it d : Addr} (hdi : d ≠ it) (hld : l ≠ d) (hli : l ≠ it) (hl : h0.IsList l items) (hlen : vs.length = items.size)
    (hp : ∀ i (h : i < items.size) (h' : i < vs.length), PairIs knd h0 items[i] vs[i] ∧ ∀ a, items[i] = .ref a → a ≠ d ∧ a ≠ it) (hz : items.size < sizeLine) :
    ∀ (n i : Nat) (s : Shared) (acc : List (K × Value)), items.size - i = n → i ≤ items.size → acc.length ≤ i → s.heap.IsListIter it l i → (∀ b o, b ≠ d → b ≠ it → h0.get? b = some o → s.heap.get? b = some o) → s.heap.DictOf knd d acc →
      (∀ h' tk, h'.DictOf knd d ((vs.drop i).foldl (fun a p => stored a p.1 p.2) acc) → (∀ b o, b ≠ d → b ≠ it → h0.get? b = some o → h'.get? b = some o) → (∀ b o, b ≠ d → b ≠ it → s.heap.get? b = some o → h'.get? b = some o) → R (.ok (.ret .none)) { s with heap := h', toks := tk }) →
      codeAny (model prog w) A (.builtin "dict.update.loop" ⟨[.ref d, .ref it, rawInt i, .none], []⟩) R s := by
  intro n
  induction n with
  | zero =>
    intro i s acc hn hi ha hit hk hd hR
    have e : i = items.size := by omega
    subst e
    refine codeAny_builtin DP.entry_loop ?_
    rw [Around.under_plainId DP.plain_loop _]
    show wpAny _ A.in1 (pyNext (.ref it) >>= _) _ _ s
    obtain ⟨o, ho, r⟩ := id hl
    refine wpAny_bind (wpAny_pyNext_list_end hh hit ⟨o, hk l o hld hli ho, r⟩ (by simp) fun h1 he => ?_)
    show wpAny _ _ (Builtin.Dict.addKeywords d [] >>= _) _ _ _
    refine wpAny_bind (wpAny_pure (wpAny_pure (hR h1 _ ?_ (fun b o hb hi e => he b o hi (hk b o hb hi e)) (fun b o hb hi e => he b o hi e))))
    rw [List.drop_of_length_le (by omega)]
    exact hd.extBut he hdi
  | succ n ih =>
    intro i s acc hn hi ha hit hk hd hR
    have hlt : i < items.size := by omega
    have hlt' : i < vs.length := by omega
    refine codeAny_builtin DP.entry_loop ?_
    rw [Around.under_plainId DP.plain_loop _]
    show wpAny _ A.in1 (pyNext (.ref it) >>= _) _ _ s
    obtain ⟨o, ho, r⟩ := id hl
    refine wpAny_bind (wpAny_pyNext_list_item hit ⟨o, hk l o hld hli ho, r⟩ (x := items[i]) (by simp [hlt]) fun h1 hit1 hs1 => ?_)
    obtain ⟨⟨a, key, ea, ht, hkey⟩, hane⟩ := hp i hlt hlt'
    obtain ⟨ne1, ne2⟩ := hane a ea
    rw [ea]
    dsimp only
    refine wpAny_bind (wpAny_holding ?_)
    obtain ⟨ot, hot, htc, nt, htd⟩ := id ht
    have hot1 : h1.get? a = some ot := (hs1.2 a ne2).trans (hk a ot ne1 ne2 hot)
    refine wpAny_bind (wpAny_tryCatch ?_)
    unfold Builtin.Dict.pairItems
    refine wpAny_bind (wpAny_typeOf (T := "tuple") ⟨ot, hot1, htc⟩ ?_)
    rw [if_pos (by decide)]
    refine wpAny_bind (wpAny_seqItems hot1 htd (wpAny_pure ?_))
    show wpAny _ _ (holding [key, vs[i].2] (dictSet d key vs[i].2)) _ _ _
    have hd1 : h1.DictOf knd d acc := hd.sameBut hs1 hdi
    refine wpAny_holding (wpAny_dictSet_pairs (s := { s with heap := h1 }) (hsz := by omega) hkey hd1 fun h2 hd2 hs2 => ?_)
    refine wpAny_pure ⟨plainId_quiet DP.plain_loop _, ?_⟩
    have e1 : rawInt ((i : Int) + 1) = rawInt ((i + 1 : Nat) : Int) := by push_cast; rfl
    rw [e1]
    have hla : (stored acc vs[i].1 vs[i].2).length ≤ i + 1 := by
      unfold stored
      split
      · rw [List.length_map]; omega
      · rw [List.length_append]; simp only [List.length_cons, List.length_nil]; omega
    obtain ⟨oi, hoi, ri⟩ := id hit1
    have hk2 : ∀ b o, b ≠ d → b ≠ it → h0.get? b = some o → h2.get? b = some o := fun b o hb hi e => (hs2.2 b hb).trans ((hs1.2 b hi).trans (hk b o hb hi e))
    have hk3 : ∀ b o, b ≠ d → b ≠ it → s.heap.get? b = some o → h2.get? b = some o := fun b o hb hi e => (hs2.2 b hb).trans ((hs1.2 b hi).trans e)
    refine ih (i + 1) { s with heap := h2, toks := s.toks + 1 } _ (by omega) (by omega) hla ⟨oi, (hs2.2 it (Ne.symm hdi)).trans hoi, ri⟩ hk2 hd2 fun h' tk hd' q1 q2 => ?_
    refine hR h' tk ?_ q1 (fun b o hb hi e => q2 b o hb hi (hk3 b o hb hi e))
    rw [List.drop_eq_getElem_cons hlt', List.foldl_cons]
    exact hd'
end
end PySem
set_option Elab.async false
set_option linter.all false
set_option maxRecDepth 100000
namespace BF
open PySem PySem.Spec PyProof.Rows L2
open Sem (wp)
/-- pairs of a key and a value, as tuples -/
def PairsAt (H : Hp) (ps : List V) (kvs : List (Key × V)) : Prop := Paired (fun x kv => ∃ a, x = .ref a ∧ H a = some (.tup [kV kv.1, kv.2])) ps kvs
def putAll (acc kvs : List (Key × V)) : List (Key × V) := kvs.foldl (fun a p => putK a p.1 p.2) acc
theorem putAll_len : ∀ (kvs acc : List (Key × V)), (putAll acc kvs).length ≤ acc.length + kvs.length
  | [], acc => by simp [putAll]
  | p :: r, acc => by
    have h1 := putAll_len r (putK acc p.1 p.2)
    have h2 := length_putK acc p.1 p.2
    simp only [putAll, List.foldl_cons, List.length_cons] at h1 ⊢
    omega
theorem kv_all : ∀ {more : List (Key × V)} {rs : List (Key × Value)} {kvs : List (Key × V)} {vs : List (Key × Value)}, KV more rs → KV kvs vs → KV (putAll kvs more) (rs.foldl (fun a p => stored a p.1 p.2) vs)
  | _, _, _, _, .nil, r => r
  | p :: ps, q :: qs, kvs, vs, .cons h t, r => by
    have h' : p.1 = q.1 ∧ RelV p.2 q.2 := h
    simp only [putAll, List.foldl_cons]
    rw [h'.1]
    exact kv_all t (r.put q.1 h'.2)
theorem pair_all {P : Program} {w : World} {H : Hp} {h : Heap} (ok : HOk P w H h) : ∀ {ps : List V} {kvs : List (Key × V)} {its : List Value}, PairsAt H ps kvs → Vals ps its →
    ∃ vs : List (Key × Value), KV kvs vs ∧ vs.length = its.length ∧ ∀ i (h1 : i < its.length) (h2 : i < vs.length), PairIs (mixKind P w) h its[i] vs[i]
  | _, _, _, .nil, .nil => ⟨[], .nil, rfl, fun i h1 => absurd h1 (by simp)⟩
  | _ :: _, kv :: _, _ :: _, .cons h1 t, .cons r rr => by
    obtain ⟨a, rfl, ha⟩ := h1
    cases r
    obtain ⟨z, its, rv, q⟩ := (show ObjOk P w H h a (.tup [kV kv.1, kv.2]) from ok a _ ha)
    obtain ⟨vs, k1, k2, k3⟩ := pair_all ok t rr
    cases rv with
    | cons r1 rr1 =>
      cases rr1 with
      | cons r2 rr2 =>
        cases rr2
        rename_i u1 u2
        refine ⟨(kv.1, u2) :: vs, .cons ⟨rfl, r2⟩ k1, by simp [k2], fun i h1 h2 => ?_⟩
        cases i with
        | zero => exact ⟨a, u1, rfl, q, kV_is r1⟩
        | succ i => exact k3 i (by simpa using h1) (by simpa using h2)
theorem call_dict_pairs {X : Cx} (hc : X.calm = true) : CallR X (.type "dict") (fun xs H Q => ∃ l ps kvs, xs = [.ref l] ∧ H l = some (.lst ps) ∧ PairsAt H ps kvs ∧ ps.length < sizeLine ∧ ∀ d, H d = none → Q (.ref d) (upd H d (.dK (putAll [] kvs)))) := by
  intro pins s σ H xs us Q I r h
  obtain ⟨l, ps, kvs, rfl, hl, hp, hz, q⟩ := h
  obtain ⟨u, rfl, ru⟩ := r.one
  cases ru
  obtain ⟨z, its, n, rv, hil, e⟩ := I.lstM hl
  obtain ⟨vs, kv, vl, hpr⟩ := pair_all I.hok hp rv
  refine callType_codes (Q₁ := fun obj s₁ => obj = .ref s.heap.objs.size ∧ s₁ = { s with heap := s.heap.push { cls := .type "dict", data := .dict #[] } }) PySem.F.kt_called_dict (PySem.F.kt_typeCall_dict_1 _) PySem.F.entry_dict_init (kt_code_dict_new _ ⟨rfl, rfl⟩) ?_
  rintro obj s₁ ⟨rfl, rfl⟩
  have hnew : (s.heap.push { cls := .type "dict", data := .dict #[] }).DictOf (mixKind X.prog X.w) s.heap.objs.size [] := Heap.DictOf.new s.heap
  have k1 : ∀ b o, s.heap.get? b = some o → (s.heap.push { cls := .type "dict", data := .dict #[] }).get? b = some o := fun b o e => Heap.get?_push_of_some _ e
  have hs1 : (s.heap.push { cls := .type "dict", data := .dict #[] }).objs.size = s.heap.objs.size + 1 := Heap.size_push ..
  refine ⟨hnew.typeIs, PySem.F.args_dict_init_2 _ _, ?_⟩
  unfold Builtin.«dict.__init__»
  refine wpAny_bind ?_
  unfold Builtin.Dict.selfAndRest
  refine wpAny_bind (wpAny_notOrdered_dict hnew.typeIs ?_)
  show wpAny _ _ (pure (s.heap.objs.size, [Value.ref l])) _ _ _
  refine wpAny_pure ?_
  show wpAny _ _ (Builtin.Dict.updateFrom "dict.__init__" s.heap.objs.size (.ref l) [] .none) _ _ _
  unfold Builtin.Dict.updateFrom
  generalize s.heap.push { cls := .type "dict", data := .dict #[] } = h1 at hnew k1 hs1 ⊢
  have e1 := k1 _ _ e
  refine wpAny_bind (wpAny_typeOf (T := "list") ⟨_, e1, rfl⟩ ?_)
  rw [if_pos (by decide)]
  refine wpAny_bind (getAttrQ_miss_list e1 rfl rfl rfl DP.list_nokeys (by decide +kernel) (I.ok.hd hc) (fun h2 tk hk2 => ?_) (by decide))
  rw [if_pos (show (none : Option Value).isNone = true from rfl)]
  refine wpAny_bind (wpAny_rule ?_)
  have hl2 : h2.IsList l its.toArray := ⟨_, hk2 _ _ e1, rfl, n, rfl⟩
  have hd2 : h2.DictOf (mixKind X.prog X.w) s.heap.objs.size [] := let ⟨o, es, ep, ho, r⟩ := hnew; ⟨o, es, ep, hk2 _ _ ho, r⟩
  have hdlt : s.heap.objs.size < h2.objs.size := by
    obtain ⟨o, es, ep, ho, r⟩ := id hd2
    exact Heap.lt_size ho
  have llt : l < h2.objs.size := Heap.lt_size (hk2 _ _ e1)
  have ll : l < s.heap.objs.size := Heap.lt_size e
  refine wpAny_bind (wpAny_pyIter_list hl2 (wpAny_pure ⟨plainId_quiet DP.plain_loop _, ?_⟩))
  refine upd_loop (A := X.A.in1) (knd := mixKind X.prog X.w) (I.ok.hd hc) (h0 := h2) (items := its.toArray) (vs := vs) (Nat.ne_of_lt hdlt) (Nat.ne_of_lt ll) (Nat.ne_of_lt llt) hl2 (by simp [vl]) (fun i g1 g2 => ?_) (by simp only [List.size_toArray]; omega) its.length 0 { s with heap := h2.push { cls := .type "list_iterator", data := .fields #[.ref l, .int 0 0] }, toks := tk } [] (by simp) (Nat.zero_le _) (Nat.zero_le _)
    ⟨_, Heap.get?_push_size _ rfl, rfl, rfl⟩ (fun b o _ _ e => Heap.get?_push_of_some _ e) (hd2.push _) fun h' tk' hd' q1 q2 => ?_
  · obtain ⟨a, key, ea, ⟨o, ho, ht⟩, hk⟩ := hpr i (by simpa using g1) g2
    have ea' : its.toArray[i] = .ref a := by simpa using ea
    refine ⟨⟨a, key, ea', ⟨o, hk2 _ _ (k1 _ _ ho), ht⟩, hk⟩, fun b eb => ?_⟩
    rw [ea'] at eb
    cases eb
    exact ⟨Nat.ne_of_lt (Heap.lt_size ho), Nat.ne_of_lt (Heap.lt_size (hk2 _ _ (k1 _ _ ho)))⟩
  · have hln : (putAll [] kvs).length ≤ sizeLine := by
      have a1 := putAll_len kvs []
      have a2 := Paired.length hp
      simp only [List.length_nil] at a1
      omega
    refine ⟨rfl, .ref s.heap.objs.size, upd H s.heap.objs.size (.dK (putAll [] kvs)), I.laid (a := s.heap.objs.size) (t' := tk') (fun b o z => q1 b o (Nat.ne_of_lt (Heap.lt_size z)) (Nat.ne_of_lt (Heap.lt_size (hk2 _ _ (k1 _ _ z)))) (hk2 _ _ (k1 _ _ z))) (Nat.le_refl _)
      (dk_new hln (beq_eq_false_iff_ne.mpr (Ne.symm (Nat.ne_of_lt I.big))) (kv_all kv .nil) ?_), rfl, q _ I.fresh⟩
    simpa using hd'
theorem bt_dict : bootBuiltins "dict" = some (.type "dict") := by decide +kernel
end BF
set_option Elab.async false
set_option linter.all false
set_option maxRecDepth 100000
namespace BF
open PySem PySem.Spec PyProof.Rows L2
open Sem (wp)
/-! ### all, any of a list of truths -/
section
variable {X : Cx}
theorem bt_zip : bootBuiltins "zip" = some (.type "zip") := by decide +kernel
/-! ### isinstance with a tuple of classes -/
inductive KitA : String → List String → Bool → Prop
  | l : KitA "list" ["list", "tuple"] true
  | t : KitA "tuple" ["list", "tuple"] true
  | s : KitA "str" ["list", "tuple"] false
  | i : KitA "int" ["list", "tuple"] false
  | b : KitA "bool" ["list", "tuple"] false
  | n : KitA "NoneType" ["list", "tuple"] false
theorem KitA.ok {K : PySem.W.Frag} {t : String} {cs : List String} {b : Bool} (k : KitA t cs b) : PySem.W.kitAny K (.type t) (cs.map Value.type) = some b := by
  cases k <;> kernel_rfl
theorem KitA.nots {t : String} {cs : List String} {b : Bool} (k : KitA t cs b) : t ≠ "float" ∧ t ≠ "dict" := by
  cases k <;> decide
theorem call_isiT : CallR X (.builtin "isinstance") (fun xs H Q => ∃ (x : V) (tp : Addr) (cs : List String) (t : String) (b : Bool), xs = [x, .ref tp] ∧ H tp = some (.tup (cs.map V.ty)) ∧ TyOf X.K H x (.type t) ∧ KitA t cs b ∧ Q (.bl b) H) := by
  intro pins s σ H xs us Q I r h
  obtain ⟨x, tp, cs, t, b, rfl, htp, ty, k, q⟩ := h
  obtain ⟨u, u', rfl, ru, rc⟩ := vals2 r
  cases (show u' = Value.ref tp from rc)
  have fin : ∀ tk, EP X pins σ Q (.bool b) { s with toks := tk } := fun tk => ⟨.bl b, H, I.tok tk, rfl, q⟩
  obtain ⟨_, its, rv, p⟩ := (show ObjOk X.prog X.w H s.heap tp (.tup (cs.map V.ty)) from I.hok tp _ htp)
  have eits : its = cs.map Value.type := by
    have hl := rv.length
    rw [List.length_map] at hl
    refine List.ext_getElem (by simp [hl]) fun i h1 h2 => ?_
    have hi : i < cs.length := by omega
    obtain ⟨u, hu, ru⟩ := rv.get (show (cs.map V.ty)[i]? = some (V.ty cs[i]) by simp [hi])
    rw [List.getElem?_eq_getElem h1] at hu
    cases hu
    rw [List.getElem_map]
    exact ru
  subst eits
  obtain ⟨⟨c, dd, dt, sl⟩, hp1, hp2, n, hp3⟩ := p
  simp only at hp2 hp3
  subst hp2 hp3
  have e := k.ok (K := X.K)
  cases ty with
  | non => cases (show u = Value.none from ru); exact PySem.W.kia_tup PySem.W.kitx_none I.kIn True.intro hp1 e (fun z => nomatch z) fin
  | bl y => cases (show u = Value.bool y from ru); exact PySem.W.kia_tup PySem.W.kitx_bool I.kIn True.intro hp1 e (fun z => nomatch z) fin
  | int i => obtain ⟨t, q⟩ := (show ∃ t, u = Value.int i t from ru); cases q; exact PySem.W.kia_tup PySem.W.kitx_int I.kIn True.intro hp1 e (fun z => nomatch z) fin
  | str y => obtain ⟨t, q⟩ := (show ∃ t, u = Value.str y t from ru); cases q; exact PySem.W.kia_tup PySem.W.kitx_str I.kIn True.intro hp1 e (fun z => nomatch z) fin
  | flt y => exact absurd rfl k.nots.1
  | @lst a xs ea =>
    cases (show u = Value.ref a from ru)
    obtain ⟨_, _, n, _, h1⟩ := (show ObjOk X.prog X.w H s.heap a (.lst xs) from I.hok a _ ea)
    exact PySem.W.kia_tup PySem.W.kitx_list I.kIn ⟨_, h1, rfl⟩ hp1 e (fun z => nomatch z) fin
  | @frz a ob xs ea =>
    cases (show u = Value.ref a from ru)
    obtain ⟨_, _, _, n, _, h1⟩ := (show ObjOk X.prog X.w H s.heap a (.frz ob (.lst xs)) from I.hok a _ ea)
    exact PySem.W.kia_tup PySem.W.kitx_list I.kIn ⟨_, h1, rfl⟩ hp1 e (fun z => nomatch z) fin
  | @tup a xs ea =>
    cases (show u = Value.ref a from ru)
    obtain ⟨_, _, _, p⟩ := (show ObjOk X.prog X.w H s.heap a (.tup xs) from I.hok a _ ea)
    obtain ⟨o, h1, h2, _⟩ := p
    exact PySem.W.kia_tup PySem.W.kitx_tuple I.kIn ⟨o, h1, h2⟩ hp1 e (fun z => nomatch z) fin
  | @dK a kvs ea => exact absurd rfl k.nots.2
  | @dT a kvs ea => exact absurd rfl k.nots.2
/-! ### zip of two lists -/
theorem _root_.L2.Inv.turnedL {pins : List (Addr × Obj)} {σ : L2.St} {H : Hp} {s : Shared} {h' : Heap} {t' : Nat} {ch : List Addr} (I : Inv X pins σ H s) (k : ∀ b o, b ∉ ch → s.heap.get? b = some o → h'.get? b = some o) (hf : ∀ b ∈ ch, FpOk X pins H b) :
    Inv X pins σ H { s with heap := h', toks := t' } := by
  have nit : ∀ b u, H b = some u → b ∉ ch := fun b u e z => by rw [(hf b z).1] at e; cases e
  have hL : X.env.locals ∉ ch := fun z => (hf _ z).2.1 rfl
  refine I.step (g' := s.gens) (d' := s.drawn) (ch := ch) (fun b hb => ?_) (fun b o _ _ hc e _ => k b o hc e) (fun b o _ _ hc e _ => ⟨o.slots, k b o hc e⟩) (fun _ _ _ _ n => n)
    (fun b o hc e => ⟨o, k b o hc e⟩) (fun _ _ e => e) (fun _ _ _ e => e) (fun b ps e => ⟨#[], by rw [e]; simp⟩) (fun m hm => ?_) (fun b u e => ?_) I.bare
  · obtain ⟨f0, f1, f2, f3, f4, f5⟩ := hf b hb
    exact ⟨f3, f1, f4, f5⟩
  · obtain ⟨o, es, ep, ho, r⟩ := hm
    exact ⟨o, es, ep, k _ o hL ho, r⟩
  · refine (I.hok b u e).stay (fun c v hc q => k c v ?_ q) (fun _ q => q) fun _ _ q => q
    rcases hc with z | z
    · rw [z]; exact nit b u e
    · exact nit c _ z
end
section
variable {X : Cx} {elts : List Expr} {epos : Pos}
end
end BF
set_option Elab.async false
set_option linter.all false
set_option maxRecDepth 100000
namespace BF
open PySem PySem.Spec PyProof.Rows L2
open Sem (wp)
/-! ### sorted(a dict with texts for keys) -/
theorem strs_vals : ∀ {us : List Value} {ys : List Str}, StrsAre us ys → Vals (ys.map V.str) us
  | _, _, .nil => .nil
  | _, _, .cons y t r => .cons ⟨t, rfl⟩ (strs_vals r)
theorem rising_pair : ∀ (p : Str) (l : List Str), risingS p l = true → (p :: l).Pairwise fun a b => ¬ b.cps.toList < a.cps.toList
  | p, [], _ => List.pairwise_singleton _ _
  | p, x :: r, h => by
    have h' : (!ltCps x.cps.toList p.cps.toList && risingS x r) = true := h
    rw [Bool.and_eq_true, ltCps_eq] at h'
    have h1 : ¬ x.cps.toList < p.cps.toList := by simpa using h'.1
    have ih := rising_pair x r h'.2
    refine List.pairwise_cons.mpr ⟨fun b hb => ?_, ih⟩
    rcases List.mem_cons.mp hb with rfl | hb
    · exact h1
    · have h2 := List.rel_of_pairwise_cons ih hb
      intro z
      exact absurd (List.le_trans (List.not_lt.mp h1) (List.not_lt.mp h2)) (List.not_le.mpr z)
theorem sorted_pair (l : List Str) (h : sortedS l = true) : l.Pairwise fun a b => ¬ b.cps.toList < a.cps.toList := by
  cases l with
  | nil => exact .nil
  | cons x r => exact rising_pair x r h
theorem call_sorted_dict {X : Cx} (hc : X.calm = true) : CallR X (.builtin "sorted") (fun xs H Q => ∃ (d : Addr) (kvs : List (Key × V)) (ws : List Str), xs = [.ref d] ∧ H d = some (.dK kvs) ∧ kvs.map (·.1) = ws.map Sum.inr ∧ ws.length < 64 ∧
    ∀ (l : Addr) (ss : List Str), H l = none → ss.Perm ws → (ss.Pairwise fun a b => ¬ b.cps.toList < a.cps.toList) → Q (.ref l) (upd H l (.lst (ss.map V.str)))) := by
  intro pins s σ H xs us Q I r h
  obtain ⟨d, kvs, ws, rfl, hd, hks, hlen, q⟩ := h
  obtain ⟨u, rfl, ru⟩ := r.one
  cases ru
  obtain ⟨z, lo, vs, rel, dd⟩ := dk_of I.hok hd
  obtain ⟨ep, hat⟩ := dd.dictAt
  have hkl : kvs.length = ws.length := by have := congrArg List.length hks; simpa using this
  have hvl := rel.length
  have hn := line63
  refine Calls.call_function_entry kind_sorted plain_sorted entry_sorted (args_sorted1 _) ?_
  unfold Builtin.«sorted»
  refine wpAny_bind (m := checkCount "sorted" 1 1 _) (wpAny_pure ?_)
  refine wpAny_bind (PySem.W.kdu_collect (A := X.A.in1) (PySem.W.kdl_dict (knd := mixKind X.prog X.w) (kvs := vs) (ep := ep) lo) (I.ok.hd hc) hat (by omega) fun h1 tk acc hk hacc => ?_)
  have hal : acc.toList.length = ws.length := by rw [Array.length_toList, hacc.1]; omega
  have hS : StrsAre acc.toList ws := by
    refine strs_are (paired_of (by simp [hal]) fun i x u e1 e2 => ?_)
    obtain ⟨k, y, hy, hky⟩ := hacc.2 i u (by rw [← Array.getElem?_toList]; exact e2)
    have hk1 : (vs.map (·.1))[i]? = some k := by rw [List.getElem?_map, hy]; rfl
    rw [← rel.keys, hks, List.getElem?_map] at hk1
    rw [List.getElem?_map] at e1
    cases hw : ws[i]? with
    | none => rw [hw] at hk1; cases hk1
    | some w' =>
      rw [hw] at hk1 e1
      cases hk1
      cases e1
      exact key_rel hky
  have I1 : Inv X pins σ H { s with heap := h1, toks := tk } := I.kept hk
  refine wpAny_bind (wpAny_newList ?_ (by rw [hal]; omega))
  have ho : (h1.push (seqObj "list" acc.toList.toArray 0)).get? h1.objs.size = some (seqObj "list" acc.toList.toArray 0) := Heap.get?_push_size _ rfl
  have fresh : H h1.objs.size = none := I1.fresh
  refine wpAny_bind (wpAny_holding (wpAny_call_entry slot_list_sort ⟨_, ho, rfl⟩ entry_list_sort (list_sort_treeK strKind_oneLt ho hS.keysOf (fun v₁ v₂ rest e => keyKind_strs (by rw [← e]; exact hS)) (by omega) fun st' hp hs => ⟨_, rfl, ?_⟩) (args_list_sort _)))
  obtain ⟨ss, g1, g2, g3⟩ := sorted_out_str hS hp hs
  obtain ⟨e, he⟩ := sortedHeap_at (out := (arrOf st').map (·.2)) ho
  refine wpAny_pure ⟨_, rfl, ?_⟩
  have hsl : (ss.map V.str).length ≤ sizeLine := by rw [List.length_map, g2.length_eq]; omega
  refine ⟨.ref h1.objs.size, upd H h1.objs.size (.lst (ss.map V.str)), I1.laid (a := h1.objs.size) (t' := tk) (fun b o eb => ?_) (Nat.le_refl _) ⟨hsl, _, e, strs_vals g1, he⟩, rfl, q _ ss fresh g2 (sorted_pair ss g3)⟩
  have hlt : b < h1.objs.size := Heap.lt_size eb
  have hsz : (h1.push (seqObj "list" acc.toList.toArray 0)).objs.size = h1.objs.size + 1 := Heap.size_push ..
  rw [sortedHeap_old (Nat.ne_of_lt hlt) (by rw [hsz]; exact Nat.lt_succ_of_lt hlt)]
  exact Heap.get?_push_of_some _ eb
theorem bt_sorted : bootBuiltins "sorted" = some (.builtin "sorted") := by decide +kernel
end BF
namespace BF
open PySem
/-! ### blanks from the left on, steps, paths -/
mutual
def Tm.bl : Tm → List Str
  | .num _ => []
  | .name _ => []
  | .blank w => [w]
  | .thing _ ps => blL ps
def blL : List Tm → List Str
  | [] => []
  | p :: r => p.bl ++ blL r
end
/-- each word once -/
def addAll (acc : List Str) : List Str → List Str
  | [] => acc
  | x :: r => if x ∈ acc then addAll acc r else addAll (acc ++ [x]) r
theorem addAll_append (acc a b : List Str) : addAll acc (a ++ b) = addAll (addAll acc a) b := by
  induction a generalizing acc with
  | nil => rfl
  | cons x r ih =>
    simp only [List.cons_append, addAll]
    split <;> exact ih _
def Tm.firsts (t : Tm) : List Str := addAll [] t.bl
mutual
/-- the parts as the law's pile gives them: the whole first, then from the last part on -/
def Tm.rp : Tm → List Tm
  | .num n => [.num n]
  | .name w => [.name w]
  | .blank w => [.blank w]
  | .thing w ps => .thing w ps :: rpL ps
def rpL : List Tm → List Tm
  | [] => []
  | p :: r => rpL r ++ p.rp
end
theorem rpL_append (a b : List Tm) : rpL (a ++ b) = rpL b ++ rpL a := by
  induction a with
  | nil => simp [rpL]
  | cons x r ih => simp only [List.cons_append, rpL, ih, List.append_assoc]
def Tm.b1 : Tm → List Str
  | .blank w => [w]
  | _ => []
theorem b1_rp (t : Tm) : (t.rp.reverse.flatMap Tm.b1) = t.bl := by
  induction t using Tm.ind with
  | h1 n => rfl
  | h2 n => rfl
  | h3 n => rfl
  | h4 w ps ih =>
    have h : ∀ l : List Tm, (∀ p ∈ l, p.rp.reverse.flatMap Tm.b1 = p.bl) → (rpL l).reverse.flatMap Tm.b1 = blL l := by
      intro l
      induction l with
      | nil => intro _; rfl
      | cons p r ih2 =>
        intro hp
        simp only [rpL, List.reverse_append, List.flatMap_append, blL]
        rw [hp p (by simp), ih2 fun q hq => hp q (by simp [hq])]
    simp only [Tm.rp, List.reverse_cons, List.flatMap_append, h ps ih, Tm.bl]
    simp [Tm.b1]
theorem len_rp (t : Tm) : t.rp.length = t.nodes := by
  induction t using Tm.ind with
  | h1 n => rfl
  | h2 n => rfl
  | h3 n => rfl
  | h4 w ps ih =>
    have h : ∀ l : List Tm, (∀ p ∈ l, p.rp.length = p.nodes) → (rpL l).length = nodesL l := by
      intro l
      induction l with
      | nil => intro _; rfl
      | cons p r ih2 =>
        intro hp
        simp only [rpL, List.length_append, nodesL]
        rw [hp p (by simp), ih2 fun q hq => hp q (by simp [hq])]
        omega
    simp only [Tm.rp, List.length_cons, h ps ih, Tm.nodes]
    omega
theorem len_bl (t : Tm) : t.bl.length ≤ t.nodes := by
  induction t using Tm.ind with
  | h1 n => simp [Tm.bl, Tm.nodes]
  | h2 n => simp [Tm.bl, Tm.nodes]
  | h3 n => simp [Tm.bl, Tm.nodes]
  | h4 w ps ih =>
    have h : ∀ l : List Tm, (∀ p ∈ l, p.bl.length ≤ p.nodes) → (blL l).length ≤ nodesL l := by
      intro l
      induction l with
      | nil => intro _; simp [blL]
      | cons p r ih2 =>
        intro hp
        have := hp p (by simp)
        have := ih2 fun q hq => hp q (by simp [hq])
        simp only [blL, List.length_append, nodesL]
        omega
    have := h ps ih
    simp only [Tm.bl, Tm.nodes]
    omega
/-- where a path leads -/
def go : List Int → Tm → Option Tm
  | [], t => some t
  | i :: r, .thing _ ps => if 0 ≤ i then (match ps[i.toNat]? with | some u => go r u | none => none) else none
  | _ :: _, _ => none
theorem go_append (a b : List Int) (t : Tm) : go (a ++ b) t = (go a t).bind (go b) := by
  induction a generalizing t with
  | nil => simp [go]
  | cons i r ih =>
    cases t with
    | thing w ps =>
      simp only [List.cons_append, go]
      split
      · cases ps[i.toNat]? with
        | none => rfl
        | some u => exact ih u
      · rfl
    | _ => rfl
end BF
namespace BF
open PySem
/-! ### filling -/
abbrev Fl := List (Str × Tm)
def look (f : Fl) (w : Str) : Option Tm := (f.find? fun p => decide (p.1 = w)).map (·.2)
mutual
/-- filled once -/
def Tm.fill (f : Fl) : Tm → Tm
  | .num n => .num n
  | .name w => .name w
  | .blank w => (look f w).getD (.blank w)
  | .thing w ps => .thing w (fillL f ps)
def fillL (f : Fl) : List Tm → List Tm
  | [] => []
  | p :: r => p.fill f :: fillL f r
end
theorem fillL_map (f : Fl) (ps : List Tm) : fillL f ps = ps.map (Tm.fill f) := by
  induction ps with
  | nil => rfl
  | cons p r ih => simp only [fillL, ih, List.map_cons]
theorem fillL_len (f : Fl) (ps : List Tm) : (fillL f ps).length = ps.length := by rw [fillL_map, List.length_map]
mutual
/-- the parts as they are met in the line: the whole first, then from the left on -/
def Tm.lp : Tm → List Tm
  | .num n => [.num n]
  | .name w => [.name w]
  | .blank w => [.blank w]
  | .thing w ps => .thing w ps :: lpL ps
def lpL : List Tm → List Tm
  | [] => []
  | p :: r => p.lp ++ lpL r
end
theorem lpL_append (a b : List Tm) : lpL (a ++ b) = lpL a ++ lpL b := by
  induction a with
  | nil => rfl
  | cons x r ih => simp only [List.cons_append, lpL, ih, List.append_assoc]
theorem lpL_len_of {ps : List Tm} (h : ∀ p ∈ ps, p.lp.length = p.nodes) : (lpL ps).length = nodesL ps := by
  induction ps with
  | nil => rfl
  | cons p r ih =>
    simp only [lpL, nodesL, List.length_append]
    rw [h p List.mem_cons_self, ih fun q hq => h q (List.mem_cons_of_mem _ hq)]
theorem lp_len (t : Tm) : t.lp.length = t.nodes := by
  induction t using Tm.ind with
  | h1 n => rfl
  | h2 n => rfl
  | h3 n => rfl
  | h4 w ps ih => simp only [Tm.lp, Tm.nodes, List.length_cons, lpL_len_of ih]; omega
/-- one turn over the parts, from the last on: the pile of what is made -/
def fturn (f : Fl) (made : List Tm) : Tm → List Tm
  | .num n => made ++ [.num n]
  | .name w => made ++ [.name w]
  | .blank w => made ++ [(look f w).getD (.blank w)]
  | .thing w ps => made.take (made.length - ps.length) ++ [.thing w (made.drop (made.length - ps.length)).reverse]
def frun (f : Fl) : List Tm → List Tm → List Tm
  | made, [] => made
  | made, t :: r => frun f (fturn f made t) r
theorem frun_append (f : Fl) : ∀ (a made b : List Tm), frun f made (a ++ b) = frun f (frun f made a) b
  | [], _, _ => rfl
  | x :: r, made, b => frun_append f r _ b
theorem frunL_of (f : Fl) {ps : List Tm} (h : ∀ p ∈ ps, ∀ made, frun f made p.lp.reverse = made ++ [p.fill f]) : ∀ made, frun f made (lpL ps).reverse = made ++ (fillL f ps).reverse := by
  induction ps with
  | nil => intro made; simp [lpL, fillL, frun]
  | cons p r ih =>
    intro made
    simp only [lpL, fillL, List.reverse_append, List.reverse_cons]
    rw [frun_append, ih (fun q hq => h q (List.mem_cons_of_mem _ hq)) made, h p List.mem_cons_self, List.append_assoc]
theorem frun_lp (f : Fl) (t : Tm) : ∀ made, frun f made t.lp.reverse = made ++ [t.fill f] := by
  induction t using Tm.ind with
  | h1 n => intro made; rfl
  | h2 n => intro made; rfl
  | h3 n => intro made; rfl
  | h4 w ps ih =>
    intro made
    simp only [Tm.lp, List.reverse_cons]
    rw [frun_append, frunL_of f ih made]
    simp only [frun, fturn, Tm.fill]
    have e : (made ++ (fillL f ps).reverse).length - ps.length = made.length := by simp [fillL_len]
    rw [e]
    simp
theorem look_mem {f : Fl} {w : Str} {t : Tm} (h : look f w = some t) : (w, t) ∈ f := by
  unfold look at h
  cases e : f.find? (fun p => decide (p.1 = w)) with
  | none => rw [e] at h; cases h
  | some p =>
    rw [e] at h
    have h1 := List.mem_of_find?_eq_some e
    have h2 := List.find?_some e
    simp only [decide_eq_true_eq] at h2
    obtain ⟨a, b⟩ := p
    simp only [Option.map_some, Option.some.injEq] at h h2
    subst h h2
    exact h1
theorem Wd.abcd : Wd "a" ∧ Wd "b" ∧ Wd "c" ∧ Wd "d" := by
  unfold Wd; decide +kernel
/-- enough is made for every thing that comes -/
def Fit : Nat → List Tm → Prop
  | _, [] => True
  | m, .thing _ ps :: r => ps.length ≤ m ∧ Fit (m - ps.length + 1) r
  | m, _ :: r => Fit (m + 1) r
theorem fitL_of {ps : List Tm} (h : ∀ p ∈ ps, ∀ m r, Fit m (p.lp.reverse ++ r) ↔ Fit (m + 1) r) : ∀ m r, Fit m ((lpL ps).reverse ++ r) ↔ Fit (m + ps.length) r := by
  induction ps with
  | nil => intro m r; simp [lpL]
  | cons p q ih =>
    intro m r
    simp only [lpL, List.reverse_append, List.append_assoc, List.length_cons]
    rw [ih (fun x hx => h x (List.mem_cons_of_mem _ hx)), h p List.mem_cons_self]
    have e : m + q.length + 1 = m + (q.length + 1) := by omega
    rw [e]
theorem fit_lp (t : Tm) : ∀ m r, Fit m (t.lp.reverse ++ r) ↔ Fit (m + 1) r := by
  induction t using Tm.ind with
  | h1 n => intro m r; simp [Tm.lp, Fit]
  | h2 n => intro m r; simp [Tm.lp, Fit]
  | h3 n => intro m r; simp [Tm.lp, Fit]
  | h4 w ps ih =>
    intro m r
    simp only [Tm.lp, List.reverse_cons, List.append_assoc, List.singleton_append]
    rw [fitL_of ih]
    simp only [Fit]
    have e : m + ps.length - ps.length + 1 = m + 1 := by omega
    rw [e]
    exact ⟨fun h => h.2, fun h => ⟨by omega, h⟩⟩
theorem fit_all (t : Tm) : Fit 0 t.lp.reverse := by
  have := (fit_lp t 0 []).mpr trivial
  simpa using this
end BF
namespace BF
open PySem
/-! ### sizes of data -/
mutual
def Dt.size : Dt → Nat
  | .int _ => 1
  | .str _ => 1
  | .tup l => 1 + sizeL l
  | .lst l => 1 + sizeL l
def sizeL : List Dt → Nat
  | [] => 0
  | d :: r => d.size + sizeL r
end
theorem Dt.size_pos (d : Dt) : 1 ≤ d.size := by cases d <;> simp only [Dt.size] <;> omega
theorem sizeL_append (a b : List Dt) : sizeL (a ++ b) = sizeL a + sizeL b := by
  induction a with
  | nil => simp [sizeL]
  | cons x r ih => simp only [List.cons_append, sizeL, ih]; omega
theorem len_le_sizeL (a : List Dt) : a.length ≤ sizeL a := by
  induction a with
  | nil => simp [sizeL]
  | cons x r ih => have := x.size_pos; simp only [List.length_cons, sizeL]; omega
theorem sizeL_dt_of {ps : List Tm} (h : ∀ p ∈ ps, p.dt.size ≤ 4 * p.nodes) : sizeL (dtL ps) ≤ 4 * nodesL ps := by
  induction ps with
  | nil => simp [dtL, sizeL, nodesL]
  | cons p r ih =>
    simp only [dtL, sizeL, nodesL]
    have h1 := h p List.mem_cons_self
    have h2 := ih fun q hq => h q (List.mem_cons_of_mem _ hq)
    omega
theorem size_dt (t : Tm) : t.dt.size ≤ 4 * t.nodes := by
  induction t using Tm.ind with
  | h1 n => simp [Tm.dt, Dt.size, sizeL, Tm.nodes]
  | h2 n => simp [Tm.dt, Dt.size, sizeL, Tm.nodes]
  | h3 n => simp [Tm.dt, Dt.size, sizeL, Tm.nodes]
  | h4 w ps ih =>
    have := sizeL_dt_of ih
    simp only [Tm.dt, Dt.size, sizeL, Tm.nodes]
    omega
end BF
set_option Elab.async false
set_option linter.all false
set_option maxRecDepth 100000
namespace BF
open PySem PySem.Spec PyProof.Rows L2
/-- a filling's pairs, as they lie -/
def FillAt (H : Hp) (ps : List V) (f : Fl) : Prop := Paired (fun x p => ∃ a v, x = .ref a ∧ H a = some (.tup [.str p.1, v]) ∧ TermAt H v p.2) ps f
/-- a dict that has just the filling's words -/
def DOf (H : Hp) (kvs : List (Key × V)) (f : Fl) : Prop := ∀ w : Str, (look f w = none → valV kvs (Sum.inr w) = none) ∧ ∀ t, look f w = some t → ∃ v, valV kvs (Sum.inr w) = some v ∧ TermAt H v t
theorem paired_mono {α β : Type} {F G : α → β → Prop} (h : ∀ a b, F a b → G a b) : ∀ {l : List α} {m : List β}, Paired F l m → Paired G l m
  | _, _, .nil => .nil
  | _, _, .cons a r => .cons (h _ _ a) (paired_mono h r)
theorem FillAt.mono {H H' : Hp} {ps : List V} {f : Fl} (k : TSame H H') (h : FillAt H ps f) : FillAt H' ps f := paired_mono (fun _ _ ⟨a, v, e, h1, h2⟩ => ⟨a, v, e, k _ _ h1, h2.mono k⟩) h
theorem DOf.mono {H H' : Hp} {kvs : List (Key × V)} {f : Fl} (k : TSame H H') (h : DOf H kvs f) : DOf H' kvs f := fun w => ⟨(h w).1, fun t ht => let ⟨v, h1, h2⟩ := (h w).2 t ht; ⟨v, h1, h2.mono k⟩⟩
theorem FillAt.len {H : Hp} {ps : List V} {f : Fl} (h : FillAt H ps f) : ps.length = f.length := Paired.length h
theorem valV_nil (k : Key) : valV ([] : List (Key × V)) k = none := rfl
theorem valV_cons (p : Key × V) (r : List (Key × V)) (k : Key) : valV (p :: r) k = if p.1 = k then some p.2 else valV r k := by
  by_cases e : p.1 = k
  · rw [if_pos e, valV_pos e]
  · rw [if_neg e, valV_neg e]
theorem valV_out : ∀ {kvs : List (Key × V)} {k : Key}, k ∉ kvs.map (·.1) → valV kvs k = none
  | [], _, _ => rfl
  | p :: r, k, h => by
    rw [valV_cons, if_neg (fun e => h (by rw [← e]; simp))]
    exact valV_out fun z => h (by rw [List.map_cons]; exact List.mem_cons_of_mem _ z)
theorem valV_putAll : ∀ (kvs acc : List (Key × V)) (k : Key), (kvs.map (·.1)).Nodup → valV (putAll acc kvs) k = (valV kvs k).or (valV acc k)
  | [], acc, k, _ => by simp [putAll, valV_nil]
  | p :: r, acc, k, h => by
    rw [List.map_cons, List.nodup_cons] at h
    have ih := valV_putAll r (putK acc p.1 p.2) k h.2
    simp only [putAll, List.foldl_cons] at ih ⊢
    rw [ih, valV_put, valV_cons]
    by_cases e : p.1 = k
    · subst e
      rw [if_pos rfl, if_pos rfl, valV_out h.1]
      rfl
    · rw [if_neg e, if_neg (fun z => e z.symm)]
theorem look_cons (p : Str × Tm) (r : Fl) (w : Str) : look (p :: r) w = if p.1 = w then some p.2 else look r w := by
  unfold look
  rw [List.find?_cons]
  by_cases e : p.1 = w
  · simp [e]
  · simp [e]
theorem fill_pairs {H : Hp} : ∀ {ps : List V} {f : Fl}, FillAt H ps f → ∃ kvs : List (Key × V), PairsAt H ps kvs ∧ kvs.map (·.1) = f.map (fun p => Sum.inr p.1) ∧ ∀ w : Str, (look f w = none → valV kvs (Sum.inr w) = none) ∧ ∀ t, look f w = some t → ∃ v, valV kvs (Sum.inr w) = some v ∧ TermAt H v t
  | _, _, .nil => ⟨[], .nil, rfl, fun w => ⟨fun _ => rfl, fun t h => by simp [look] at h⟩⟩
  | _ :: _, p :: f, .cons ⟨a, v, e, h1, h2⟩ r => by
    obtain ⟨kvs, g1, g2, g3⟩ := fill_pairs r
    refine ⟨(Sum.inr p.1, v) :: kvs, .cons ⟨a, e, h1⟩ g1, by simp [g2], fun w => ?_⟩
    rw [look_cons, valV_cons]
    by_cases c : p.1 = w
    · rw [if_pos c, if_pos (by rw [c])]
      exact ⟨fun z => (by cases z), fun t z => ⟨v, rfl, by cases z; exact h2⟩⟩
    · rw [if_neg c, if_neg (fun z => c (Sum.inr.inj z))]
      exact g3 w
theorem fill_dict {H : Hp} {ps : List V} {f : Fl} (h : FillAt H ps f) (hn : (f.map (·.1)).Nodup) : ∃ kvs : List (Key × V), PairsAt H ps kvs ∧ DOf H (putAll [] kvs) f := by
  obtain ⟨kvs, g1, g2, g3⟩ := fill_pairs h
  refine ⟨kvs, g1, fun w => ?_⟩
  have hk : (kvs.map (·.1)).Nodup := by
    rw [g2]
    have e : f.map (fun p => (Sum.inr p.1 : Key)) = (f.map (·.1)).map Sum.inr := by rw [List.map_map]; rfl
    rw [e]
    exact List.pairwise_map.mpr (hn.imp fun hab e => hab (Sum.inr.inj e))
  rw [valV_putAll kvs [] _ hk, valV_nil, Option.or_none]
  exact g3 w
theorem FillAt.get {H : Hp} {ps : List V} {f : Fl} (h : FillAt H ps f) (i : Nat) (h1 : i < ps.length) (h2 : i < f.length) : ∃ a v, ps[i] = .ref a ∧ H a = some (.tup [.str f[i].1, v]) ∧ TermAt H v f[i].2 := by
  obtain ⟨b, hb, hp⟩ := pair_get h (List.getElem?_eq_getElem h1)
  rw [List.getElem?_eq_getElem h2] at hb
  cases hb
  exact hp
theorem FillAt.app {H : Hp} {ps : List V} {f : Fl} {x : V} {p : Str × Tm} (h : FillAt H ps f) (hx : ∃ a v, x = .ref a ∧ H a = some (.tup [.str p.1, v]) ∧ TermAt H v p.2) : FillAt H (ps ++ [x]) (f ++ [p]) := Paired.snoc h hx
/-- all but the object at p stays -/
def SameX (p : Addr) (H H' : Hp) : Prop := ∀ b o, b ≠ p → H b = some o → H' b = some o
end BF
namespace BF
open PySem
/-! ### fillings joined -/
def isOwn (t : Tm) (w : Str) : Bool := match t with
  | .blank x => decide (x = w)
  | _ => false
theorem isOwn_iff (t : Tm) (w : Str) : isOwn t w = true ↔ t = .blank w := by
  cases t with
  | blank x => simp [isOwn]
  | _ => simp [isOwn]
/-- the words in order, those that are filled by themselves left out -/
def nrm (f : Fl) : List Str → Fl
  | [] => []
  | w :: r => (match look f w with | some t => if isOwn t w = true then [] else [(w, t)] | none => []) ++ nrm f r
theorem nrm_mem {f : Fl} : ∀ {ss : List Str} {p : Str × Tm}, p ∈ nrm f ss → p.1 ∈ ss ∧ look f p.1 = some p.2 ∧ p.2 ≠ .blank p.1
  | [], _, h => by simp [nrm] at h
  | w :: r, p, h => by
    simp only [nrm] at h
    rcases List.mem_append.mp h with h | h
    · cases e : look f w with
      | none => rw [e] at h; simp at h
      | some t =>
        rw [e] at h
        by_cases c : isOwn t w = true
        · simp [c] at h
        · simp only [c, Bool.false_eq_true, if_false, List.mem_singleton] at h
          subst h
          exact ⟨List.mem_cons_self, e, fun z => c ((isOwn_iff _ _).mpr z)⟩
    · obtain ⟨a, b⟩ := nrm_mem h
      exact ⟨List.mem_cons_of_mem _ a, b⟩
theorem nrm_rise {f : Fl} : ∀ {ss : List Str}, ss.Pairwise (fun a b => a.cps.toList < b.cps.toList) → (nrm f ss).Pairwise (fun p q => p.1.cps.toList < q.1.cps.toList)
  | [], _ => .nil
  | w :: r, h => by
    simp only [nrm]
    rw [List.pairwise_append]
    obtain ⟨h1, h2⟩ := List.pairwise_cons.mp h
    refine ⟨?_, nrm_rise h2, fun p hp q hq => ?_⟩
    · split
      · split
        · exact .nil
        · exact List.pairwise_singleton _ _
      · exact .nil
    · have e : p.1 = w := by
        split at hp
        · split at hp
          · simp at hp
          · simp only [List.mem_singleton] at hp; rw [hp]
        · simp at hp
      rw [e]
      exact h1 _ (nrm_mem hq).1
theorem look_append (a b : Fl) (w : Str) : look (a ++ b) w = (look a w).or (look b w) := by
  unfold look
  rw [List.find?_append]
  cases a.find? (fun p => decide (p.1 = w)) <;> rfl
theorem look_nrm {f : Fl} : ∀ {ss : List Str} {w : Str}, w ∈ ss → (look (nrm f ss) w).getD (.blank w) = (look f w).getD (.blank w)
  | [], _, h => by simp at h
  | x :: r, w, h => by
    simp only [nrm]
    rw [look_append]
    by_cases e : x = w
    · subst e
      cases hx : look f x with
      | none =>
        simp only
        rw [show look ([] : Fl) x = none from rfl, Option.none_or]
        by_cases hr : x ∈ r
        · rw [look_nrm hr, hx]
        · have : look (nrm f r) x = none := by
            cases e : look (nrm f r) x with
            | none => rfl
            | some t => exact absurd (nrm_mem (look_mem e)).1 hr
          rw [this]
      | some t =>
        by_cases c : isOwn t x = true
        · simp only [c, if_true]
          rw [show look ([] : Fl) x = none from rfl, Option.none_or]
          have et := (isOwn_iff _ _).mp c
          have : look (nrm f r) x = none := by
            cases e : look (nrm f r) x with
            | none => rfl
            | some t' =>
              have := (nrm_mem (look_mem e)).2
              rw [hx] at this
              exact absurd et (by rw [Option.some.inj this.1]; exact this.2)
          rw [this, et]
          rfl
        · simp only [c, Bool.false_eq_true, if_false]
          have : look [(x, t)] x = some t := by simp [look]
          rw [this]
          rfl
    · have hr : w ∈ r := by
        rcases List.mem_cons.mp h with z | z
        · exact absurd z.symm e
        · exact z
      have : look (match look f x with | some t => if isOwn t x = true then [] else [(x, t)] | none => []) w = none := by
        split
        · split
          · rfl
          · simp [look, e]
        · rfl
      rw [this, Option.none_or]
      exact look_nrm hr
theorem look_in {f : Fl} {w : Str} (h : w ∈ f.map (·.1)) : ∃ t, look f w = some t := by
  induction f with
  | nil => simp at h
  | cons p r ih =>
    by_cases e : p.1 = w
    · exact ⟨p.2, by simp [look, e]⟩
    · rw [List.map_cons] at h
      rcases List.mem_cons.mp h with z | z
      · exact absurd z.symm e
      · obtain ⟨t, ht⟩ := ih z
        exact ⟨t, by simpa [look, e] using ht⟩
theorem look_out {f : Fl} {w : Str} (h : w ∉ f.map (·.1)) : look f w = none := by
  cases e : look f w with
  | none => rfl
  | some t => exact absurd (List.mem_map.mpr ⟨_, look_mem e, rfl⟩) h
/-! the law's own fill: parts from the left on, the whole last -/
def gturn (f : Fl) (made : List Tm) : Tm → List Tm
  | .num n => made ++ [.num n]
  | .name w => made ++ [.name w]
  | .blank w => made ++ [(look f w).getD (.blank w)]
  | .thing w ps => made.take (made.length - ps.length) ++ [.thing w (made.drop (made.length - ps.length))]
def grun (f : Fl) : List Tm → List Tm → List Tm
  | made, [] => made
  | made, t :: r => grun f (gturn f made t) r
theorem grun_append (f : Fl) : ∀ (a made b : List Tm), grun f made (a ++ b) = grun f (grun f made a) b
  | [], _, _ => rfl
  | x :: r, made, b => grun_append f r _ b
theorem grunL_of (f : Fl) {ps : List Tm} (h : ∀ p ∈ ps, ∀ made, grun f made p.rp.reverse = made ++ [p.fill f]) : ∀ made, grun f made (rpL ps).reverse = made ++ fillL f ps := by
  induction ps with
  | nil => intro made; simp [rpL, fillL, grun]
  | cons p r ih =>
    intro made
    simp only [rpL, fillL, List.reverse_append]
    rw [grun_append, h p List.mem_cons_self, ih (fun q hq => h q (List.mem_cons_of_mem _ hq))]
    simp
theorem grun_rp (f : Fl) (t : Tm) : ∀ made, grun f made t.rp.reverse = made ++ [t.fill f] := by
  induction t using Tm.ind with
  | h1 n => intro made; rfl
  | h2 n => intro made; rfl
  | h3 n => intro made; rfl
  | h4 w ps ih =>
    intro made
    simp only [Tm.rp, List.reverse_cons]
    rw [grun_append, grunL_of f ih made]
    simp only [grun, gturn, Tm.fill]
    have e : (made ++ fillL f ps).length - ps.length = made.length := by simp [fillL_len]
    rw [e]
    simp
theorem fitL_rp {ps : List Tm} (h : ∀ p ∈ ps, ∀ m r, Fit m (p.rp.reverse ++ r) ↔ Fit (m + 1) r) : ∀ m r, Fit m ((rpL ps).reverse ++ r) ↔ Fit (m + ps.length) r := by
  induction ps with
  | nil => intro m r; simp [rpL]
  | cons p q ih =>
    intro m r
    simp only [rpL, List.reverse_append, List.append_assoc, List.length_cons]
    rw [h p List.mem_cons_self, ih (fun x hx => h x (List.mem_cons_of_mem _ hx))]
    have e : m + 1 + q.length = m + (q.length + 1) := by omega
    rw [e]
theorem fit_rp (t : Tm) : ∀ m r, Fit m (t.rp.reverse ++ r) ↔ Fit (m + 1) r := by
  induction t using Tm.ind with
  | h1 n => intro m r; simp [Tm.rp, Fit]
  | h2 n => intro m r; simp [Tm.rp, Fit]
  | h3 n => intro m r; simp [Tm.rp, Fit]
  | h4 w ps ih =>
    intro m r
    simp only [Tm.rp, List.reverse_cons, List.append_assoc, List.singleton_append]
    rw [fitL_rp ih]
    simp only [Fit]
    have e : m + ps.length - ps.length + 1 = m + 1 := by omega
    rw [e]
    exact ⟨fun h => h.2, fun h => ⟨by omega, h⟩⟩
theorem fit_rall (t : Tm) : Fit 0 t.rp.reverse := by
  have := (fit_rp t 0 []).mpr trivial
  simpa using this
/-! depths -/
end BF
set_option Elab.async false
set_option linter.all false
set_option maxRecDepth 100000
namespace BF
open PySem PySem.Spec PyProof.Rows L2
/-- a dict of texts and terms, in its order -/
def KvsAt (H : Hp) (kvs : List (Key × V)) (f : Fl) : Prop := Paired (fun kv p => kv.1 = Sum.inr p.1 ∧ TermAt H kv.2 p.2) kvs f
theorem KvsAt.mono {H H' : Hp} {kvs : List (Key × V)} {f : Fl} (k : TSame H H') (h : KvsAt H kvs f) : KvsAt H' kvs f := paired_mono (fun _ _ ⟨e, h2⟩ => ⟨e, h2.mono k⟩) h
theorem KvsAt.len {H : Hp} {kvs : List (Key × V)} {f : Fl} (h : KvsAt H kvs f) : kvs.length = f.length := Paired.length h
theorem KvsAt.keys {H : Hp} : ∀ {kvs : List (Key × V)} {f : Fl}, KvsAt H kvs f → kvs.map (·.1) = (f.map (·.1)).map Sum.inr
  | _, _, .nil => rfl
  | _ :: _, _ :: _, .cons h r => by
    simp only [List.map_cons]
    rw [h.1, KvsAt.keys r]
theorem KvsAt.dof {H : Hp} : ∀ {kvs : List (Key × V)} {f : Fl}, KvsAt H kvs f → DOf H kvs f
  | _, _, .nil => fun w => ⟨fun _ => rfl, fun t h => by simp [look] at h⟩
  | kv :: _, p :: _, .cons h r => fun w => by
    have ih := KvsAt.dof r w
    rw [look_cons, valV_cons, h.1]
    by_cases c : p.1 = w
    · rw [if_pos c, if_pos (by rw [c])]
      exact ⟨fun z => (by cases z), fun t z => ⟨kv.2, rfl, by cases z; exact h.2⟩⟩
    · rw [if_neg c, if_neg (fun z => c (Sum.inr.inj z))]
      exact ih
section
variable {X : Cx}
end
theorem nrm_snoc (f : Fl) : ∀ (a : List Str) (w : Str), nrm f (a ++ [w]) = nrm f a ++ nrm f [w]
  | [], w => rfl
  | x :: r, w => by
    rw [List.cons_append]
    show _ ++ nrm f (r ++ [w]) = (_ ++ nrm f r) ++ nrm f [w]
    rw [nrm_snoc f r w, List.append_assoc]
theorem nrm_own {f : Fl} {w : Str} {t : Tm} (h : look f w = some t) (c : t = .blank w) : nrm f [w] = [] := by
  have : isOwn t w = true := (isOwn_iff _ _).mpr c
  simp only [nrm, h, this, if_true, List.append_nil]
theorem nrm_not {f : Fl} {w : Str} {t : Tm} (h : look f w = some t) (c : ¬ t = .blank w) : nrm f [w] = [(w, t)] := by
  have : isOwn t w = false := Bool.eq_false_iff.mpr fun z => c ((isOwn_iff _ _).mp z)
  simp only [nrm, h, this, Bool.false_eq_true, if_false, List.append_nil]
theorem str_ext2 {x y : Str} (h : x.cps.toList = y.cps.toList) : x = y := by
  obtain ⟨⟨a⟩⟩ := x
  obtain ⟨⟨b⟩⟩ := y
  have h' : a = b := h
  rw [h']
theorem strict_of {ss ws : List Str} (hp : ss.Perm ws) (hn : ws.Nodup) (h : ss.Pairwise fun a b => ¬ b.cps.toList < a.cps.toList) : ss.Pairwise fun a b => a.cps.toList < b.cps.toList := by
  have hn' : ss.Nodup := hp.nodup_iff.mpr hn
  refine (List.Pairwise.and h hn').imp ?_
  rintro a b ⟨h1, h2⟩
  rcases List.le_iff_lt_or_eq.mp (List.not_lt.mp h1) with z | z
  · exact z
  · exact absurd (str_ext2 z) h2
end BF
namespace BF
open PySem
/-! ### rings -/
def isB : Tm → Bool | .blank _ => true | _ => false
def isT : Tm → Bool | .thing _ _ => true | _ => false
theorem mem_addAll {w : Str} : ∀ {l acc : List Str}, w ∈ addAll acc l ↔ w ∈ acc ∨ w ∈ l
  | [], acc => by simp [addAll]
  | x :: r, acc => by
    simp only [addAll]
    split
    · next h =>
      rw [mem_addAll]
      constructor
      · rintro (a | a)
        · exact .inl a
        · exact .inr (List.mem_cons_of_mem _ a)
      · rintro (a | a)
        · exact .inl a
        · rcases List.mem_cons.mp a with rfl | a
          · exact .inl h
          · exact .inr a
    · rw [mem_addAll, List.mem_append, List.mem_singleton, List.mem_cons]
      constructor
      · rintro ((a | a) | a)
        · exact .inl a
        · exact .inr (.inl a)
        · exact .inr (.inr a)
      · rintro (a | a | a)
        · exact .inl (.inl a)
        · exact .inl (.inr a)
        · exact .inr a
theorem mem_firsts {w : Str} {t : Tm} : w ∈ t.firsts ↔ w ∈ t.bl := by
  unfold Tm.firsts
  rw [mem_addAll]
  simp
theorem lpL_bl_of {ps : List Tm} (h : ∀ p ∈ ps, p.lp.flatMap Tm.b1 = p.bl) : (lpL ps).flatMap Tm.b1 = blL ps := by
  induction ps with
  | nil => rfl
  | cons p r ih => simp only [lpL, blL, List.flatMap_append, h p List.mem_cons_self, ih fun q hq => h q (List.mem_cons_of_mem _ hq)]
theorem lp_bl (t : Tm) : t.lp.flatMap Tm.b1 = t.bl := by
  induction t using Tm.ind with
  | h1 n => rfl
  | h2 n => rfl
  | h3 n => rfl
  | h4 w ps ih =>
    simp only [Tm.lp, Tm.bl, List.flatMap_cons, Tm.b1, List.nil_append]
    exact lpL_bl_of ih
abbrev Ln := Tm × Tm
theorem isB_iff (t : Tm) : isB t = true ↔ ∃ w, t = .blank w := by
  cases t <;> simp [isB]
end BF
set_option Elab.async false
set_option linter.all false
set_option maxRecDepth 100000
namespace BF
open PySem PySem.Spec PyProof.Rows L2
/-- the kind of a term, read off -/
theorem TermAt.kind {H : Hp} {v : V} {t : Tm} (h : TermAt H v t) : ∃ a xs k, v = .ref a ∧ H a = some (.tup (.str k :: xs)) ∧ (k = "blank" ↔ isB t = true) ∧ (k = "thing" ↔ isT t = true) := by
  cases t with
  | num n =>
    obtain ⟨a, rfl, e⟩ := termAt_num.mp h
    exact ⟨a, _, _, rfl, e, by simp [isB, nm_ne2], by simp [isT, nm_ne3]⟩
  | name n =>
    obtain ⟨a, rfl, e⟩ := termAt_name.mp h
    exact ⟨a, _, _, rfl, e, by simp [isB, nm_ne4], by simp [isT, nm_ne5]⟩
  | blank n =>
    obtain ⟨a, rfl, e⟩ := termAt_blank.mp h
    exact ⟨a, _, _, rfl, e, by simp [isB], by simp [isT, nm_ne6]⟩
  | thing n ps =>
    obtain ⟨a, b, vs, rfl, e, _⟩ := termAt_thing.mp h
    exact ⟨a, _, _, rfl, e, by simp [isB, nm_ne6'], by simp [isT]⟩
end BF
set_option Elab.async false
set_option linter.all false
set_option maxRecDepth 100000
set_option maxHeartbeats 4000000
namespace K12
open PySem L2 BF
def top (i : Nat) : Stmt := PySem.Challenge.pw_blankform_k12_same_but_names.main.body.getD i (.Pass ⟨0, 0, 0, 0⟩)
abbrev s_all_parts : Stmt := top 1
theorem sc_all_parts : FnScope ["term", "met", "coming", "part"] ["term"] (defScope s_all_parts) := ⟨rfl, rfl, rfl, by decide +kernel, rfl, by decide +kernel, by decide +kernel⟩
abbrev s_blanks_of : Stmt := top 2
theorem sc_blanks_of : FnScope ["term", "words", "part"] ["term"] (defScope s_blanks_of) := ⟨rfl, rfl, rfl, by decide +kernel, rfl, by decide +kernel, by decide +kernel⟩
abbrev s_head : Stmt := top 3
theorem sc_head : FnScope ["term"] ["term"] (defScope s_head) := ⟨rfl, rfl, rfl, by decide +kernel, rfl, by decide +kernel, by decide +kernel⟩
abbrev s_same : Stmt := top 4
theorem sc_same : FnScope ["one", "other", "coming", "pair"] ["one", "other"] (defScope s_same) := ⟨rfl, rfl, rfl, by decide +kernel, rfl, by decide +kernel, by decide +kernel⟩
abbrev s_replaced : Stmt := top 6
theorem sc_replaced : FnScope ["term", "terms", "made", "part", "parts"] ["term", "terms"] (defScope s_replaced) := ⟨rfl, rfl, rfl, by decide +kernel, rfl, by decide +kernel, by decide +kernel⟩
abbrev s_taken : Stmt := top 7
theorem sc_taken : FnScope ["made", "count", "last"] ["made", "count"] (defScope s_taken) := ⟨rfl, rfl, rfl, by decide +kernel, rfl, by decide +kernel, by decide +kernel⟩
abbrev s_filling_of : Stmt := top 8
theorem sc_filling_of : FnScope ["terms"] ["terms"] (defScope s_filling_of) := ⟨rfl, rfl, rfl, by decide +kernel, rfl, by decide +kernel, by decide +kernel⟩
abbrev s_matched : Stmt := top 10
theorem sc_matched : FnScope ["pattern", "term", "terms", "paths", "coming", "step", "asked", "part", "path", "word"] ["pattern", "term"] (defScope s_matched) := ⟨rfl, rfl, rfl, by decide +kernel, rfl, by decide +kernel, by decide +kernel⟩
abbrev s_steps_within : Stmt := top 11
theorem sc_steps_within : FnScope ["asked", "part", "path", "steps"] ["asked", "part", "path"] (defScope s_steps_within) := ⟨rfl, rfl, rfl, by decide +kernel, rfl, by decide +kernel, by decide +kernel⟩
abbrev s_renamed : Stmt := top 13
theorem sc_renamed : FnScope ["term", "names"] ["term", "names"] (defScope s_renamed) := ⟨rfl, rfl, rfl, by decide +kernel, rfl, by decide +kernel, by decide +kernel⟩
abbrev s_same_but_names : Stmt := top 14
theorem sc_same_but_names : FnScope ["one", "other", "told", "terms", "names", "taken", "word", "term"] ["one", "other"] (defScope s_same_but_names) := ⟨rfl, rfl, rfl, by decide +kernel, rfl, by decide +kernel, by decide +kernel⟩
abbrev s_law_at : Stmt := top 16
theorem sc_law_at : FnScope ["_law_script", "_law_k"] ["_law_script", "_law_k"] (defScope s_law_at) := ⟨rfl, rfl, rfl, by decide +kernel, rfl, by decide +kernel, by decide +kernel⟩
abbrev s_law_any_word : Stmt := top 17
theorem sc_law_any_word : FnScope ["_law_cell", "_law_left", "_law_word"] ["_law_cell"] (defScope s_law_any_word) := ⟨rfl, rfl, rfl, by decide +kernel, rfl, by decide +kernel, by decide +kernel⟩
abbrev s_law_leaf : Stmt := top 18
theorem sc_law_leaf : FnScope ["_law_cell", "_law_way", "_law_rare"] ["_law_cell"] (defScope s_law_leaf) := ⟨rfl, rfl, rfl, by decide +kernel, rfl, by decide +kernel, by decide +kernel⟩
abbrev s_law_head : Stmt := top 19
theorem sc_law_head : FnScope ["_law_cell"] ["_law_cell"] (defScope s_law_head) := ⟨rfl, rfl, rfl, by decide +kernel, rfl, by decide +kernel, by decide +kernel⟩
abbrev s_law_many_parts : Stmt := top 20
theorem sc_law_many_parts : FnScope ["_law_cell", "_law_count"] ["_law_cell", "_law_count"] (defScope s_law_many_parts) := ⟨rfl, rfl, rfl, by decide +kernel, rfl, by decide +kernel, by decide +kernel⟩
abbrev s_law_grown : Stmt := top 21
theorem sc_law_grown : FnScope ["_law_cells", "_law_pile", "_law_cell", "_law_many", "_law_start", "_law_made"] ["_law_cells"] (defScope s_law_grown) := ⟨rfl, rfl, rfl, by decide +kernel, rfl, by decide +kernel, by decide +kernel⟩
abbrev s_law_steps : Stmt := top 22
theorem sc_law_steps : FnScope ["_law_term", "_law_row", "_law_todo", "_law_part"] ["_law_term"] (defScope s_law_steps) := ⟨rfl, rfl, rfl, by decide +kernel, rfl, by decide +kernel, by decide +kernel⟩
abbrev s_law_fill : Stmt := top 23
theorem sc_law_fill : FnScope ["_law_term", "_law_pairs", "_law_pile", "_law_part", "_law_made", "_law_start", "_law_pair"] ["_law_term", "_law_pairs"] (defScope s_law_fill) := ⟨rfl, rfl, rfl, by decide +kernel, rfl, by decide +kernel, by decide +kernel⟩
abbrev s_law_blanks : Stmt := top 24
theorem sc_law_blanks : FnScope ["_law_term", "_law_row", "_law_part"] ["_law_term"] (defScope s_law_blanks) := ⟨rfl, rfl, rfl, by decide +kernel, rfl, by decide +kernel, by decide +kernel⟩
abbrev s_law_variant : Stmt := top 25
theorem sc_law_variant : FnScope ["_law_one", "_law_other", "_law_forth", "_law_back", "_law_todo", "_law_two", "_law_left", "_law_right", "_law_mate", "_law_k"] ["_law_one", "_law_other"] (defScope s_law_variant) := ⟨rfl, rfl, rfl, by decide +kernel, rfl, by decide +kernel, by decide +kernel⟩
abbrev s_law_so : Stmt := top 26
theorem sc_law_so : FnScope ["_law_found", "_law_due", "_law_todo", "_law_one", "_law_other", "_law_k"] ["_law_found", "_law_due"] (defScope s_law_so) := ⟨rfl, rfl, rfl, by decide +kernel, rfl, by decide +kernel, by decide +kernel⟩
abbrev s_law : Stmt := top 27
theorem sc_law : FnScope ["_law_script", "_law_one", "_law_way", "_law_menu", "_law_names", "_law_due", "_law_handed", "_law_found", "_law_other", "_law_forth", "_law_told", "_law_words", "_law_k", "_law_pair"] ["_law_script"] (defScope s_law) := ⟨rfl, rfl, rfl, by decide +kernel, rfl, by decide +kernel, by decide +kernel⟩
/-! ### the law's own makers of terms -/
structure Bi (mg : Str → Option Value) : Prop where
  b_len : mg "len" = none
  b_abs : mg "abs" = none
  b_isinstance : mg "isinstance" = none
  b_int : mg "int" = none
  b_bool : mg "bool" = none
  b_str : mg "str" = none
  b_tuple : mg "tuple" = none
  b_list : mg "list" = none
  b_reversed : mg "reversed" = none
  b_range : mg "range" = none
section
variable {P : Program} {w : World} {K : PySem.W.Frag} {mg : Str → Option Value} {base : Heap}
def spWord : Sp := fun vs H Q _ => ∃ i : Int, vs = [.int i] ∧ ∀ x : Str, Wd x → x.cps.toList.length ≤ 30 → Q (.str x) H
theorem ok_any_word {f : Addr} {fd : FuncData} (F : Fun K "_law_any_word" "_law_any_word" s_law_any_word f fd) (T : Bi mg) : FnOk P w K mg base CX0 1 f fd ["_law_cell"] spWord := by
  refine F.ok sc_law_any_word (fun vs H Q E h => ?_) (fun cdv A outer s H vs Q E hr h => ?_)
  · obtain ⟨i, rfl, _⟩ := h
    rfl
  obtain ⟨i, rfl, q⟩ := h
  refine ⟨_, (pss_cons (ps_set (i := 1) sc_law_any_word.nd rfl (Or.inl rfl) (pe_op op_mod (pe_blt call_abs T.b_abs bt_abs (pa_cons (pv 0) pa_nil)) (pe_op op_pow pe_int pe_int)))
      (pss_cons (ps_set (i := 2) sc_law_any_word.nd rfl (Or.inl rfl) pe_str)
      (pss_cons (ps_while PassesOwn.never (pt_cmpR op_ge (pv 1) pe_int (nomark _)) (pss_cons (ps_set (i := 2) sc_law_any_word.nd rfl (Or.inl rfl) (pe_op op_add_str (pe_ix ix_str pe_str (pe_op op_mod (pv 1) pe_int) (fun _ _ => rfl)) (pv 2)))
        (pss_one (ps_set (i := 1) sc_law_any_word.nd rfl (Or.inl rfl) (pe_op op_sub (pe_op op_fdiv (pv 1) pe_int) pe_int)))))
      (pss_one (ps_ret (pv 2)))))), ?_⟩
  refine ⟨_, rfl, _, rfl, _, _, rfl, rfl, ⟨by decide, by decide, by decide⟩, _, _, rfl, rfl, (show (0 : Int) < _ by decide +kernel), ?_⟩
  refine ⟨fun m σ H1 => H1 = H ∧ ∃ (l : Int) (x : Str), σ = [some (.int i), some (.int l), some (.str x)] ∧ m = (l + 1).toNat ∧ WI l x, ⟨_, rfl, _, _, rfl, rfl, WI.start i⟩, ?_⟩
  rintro m σ H1 ⟨rfl, l, x, rfl, rfl, hw⟩
  refine ⟨_, rfl, _, _, rfl, rfl, _, rfl, ?_⟩
  refine ite2 (fun c => ⟨_, fun _ _ h => h, ?_⟩) (fun c => ?_)
  · have c' : 0 ≤ l := of_decide_eq_true c
    have hs := hw.short c'
    have hb : 0 ≤ l % 26 := Int.emod_nonneg _ (by decide)
    have hb' : l % 26 < 26 := Int.emod_lt_of_pos _ (by decide)
    obtain ⟨j, hj, hj'⟩ : ∃ j : Nat, l % 26 = (j : Int) ∧ j < 26 := ⟨(l % 26).toNat, by omega, by omega⟩
    have hat : atI alpha.cps.toList (l % 26) = some (97 + j) := by
      rw [hj]
      exact atI_nat (alpha_at j hj')
    refine ⟨_, rfl, _, _, rfl, rfl, (show (0 : Int) < _ by decide), _, _, _, rfl, rfl, (by decide +kernel), hat, _, rfl, _, _, rfl, rfl, ?_, ?_⟩
    · rw [len_cps, len_cps]
      show 1 + _ ≤ sizeLine
      exact small (by omega)
    refine ⟨_, rfl, _, _, rfl, rfl, ⟨by decide, by decide⟩, _, _, rfl, rfl, ?_⟩
    refine ⟨(l / 26 - 1 + 1).toNat, by omega, rfl, _, _, rfl, rfl, hw.turn c' (by omega)⟩
  · have c' : ¬ 0 ≤ l := of_decide_eq_false (Bool.eq_false_iff.mpr c)
    refine ⟨_, rfl, ?_⟩
    obtain ⟨h1, h2⟩ := hw.wd c'
    exact q x h1 h2
def spLeaf : Sp := fun vs H Q _ => ∃ i : Int, vs = [.int i] ∧ ∀ (v : V) (t : Tm) (H' : Hp), Same H H' → TermAt H' v t → t.Ok → t.nodes = 1 → Q v H'
theorem ok_leaf {f : Addr} {fd : FuncData} (F : Fun K "_law_leaf" "_law_leaf" s_law_leaf f fd) (T : Bi mg) (c__law_any_word : Cal P w K mg base 1 "_law_any_word" ["_law_cell"] spWord) :
    FnOk P w K mg base CX0 2 f fd ["_law_cell"] spLeaf := by
  refine F.ok sc_law_leaf (fun vs H Q E h => ?_) (fun cdv A outer s H vs Q E hr h => ?_)
  · obtain ⟨i, rfl, _⟩ := h
    rfl
  obtain ⟨i, rfl, q⟩ := h
  have qn : ∀ (n : Int) (p : Addr), H p = none → -(10 ^ 61) ≤ n → n ≤ 10 ^ 61 → Q (.ref p) (upd H p (.tup [.str "number", .int n])) := fun n p hp h1 h2 =>
    q _ (.num n) _ (same_new hp _) (termAt_num.mpr ⟨p, rfl, upd_same⟩) (by simp only [Tm.Ok]; exact ⟨h1, h2⟩) rfl
  have qa : ∀ (x : Str) (H1 : Hp) (p : Addr), Same H H1 → H1 p = none → Wd x → Q (.ref p) (upd H1 p (.tup [.str "name", .str x])) := fun x H1 p hs hp hx =>
    q _ (.name x) _ (hs.trans (same_new hp _)) (termAt_name.mpr ⟨p, rfl, upd_same⟩) (by simp only [Tm.Ok]; exact hx) rfl
  have qb : ∀ (x : Str) (p : Addr), H p = none → Wd x → Q (.ref p) (upd H p (.tup [.str "blank", .str x])) := fun x p hp hx =>
    q _ (.blank x) _ (same_new hp _) (termAt_blank.mpr ⟨p, rfl, upd_same⟩) (by simp only [Tm.Ok]; exact hx) rfl
  obtain ⟨w1, w2, _, _, _, _, w3, w4, w5⟩ := Wd.lits
  refine ⟨_, (pss_cons (ps_set (i := 1) sc_law_leaf.nd rfl (Or.inl rfl) (pe_op op_mod (pv 0) pe_int))
      (pss_cons (ps_set (i := 2) sc_law_leaf.nd rfl (Or.inl rfl) (pe_cmpR op_eq (pe_op op_mod (pe_op op_fdiv (pv 0) pe_int) pe_int) pe_int (nomark _)))
      (pss_cons (ps_if (pt_cmpR op_eq (pv 1) pe_int (nomark _)) (pss_cons (ps_if (pt_val (pv 2)) (pss_one (ps_ret (pe_tup (pa_cons pe_str (pa_cons (pe_op op_sub (pe_op op_mod (pv 0) (pe_op op_pow pe_int pe_int)) (pe_op op_pow pe_int pe_int)) pa_nil))))) pss_nil)
        (pss_one (ps_ret (pe_tup (pa_cons pe_str (pa_cons (pe_op op_sub (pe_op op_mod (pe_op op_fdiv (pv 0) pe_int) pe_int) pe_int) pa_nil)))))) pss_nil)
      (pss_cons (ps_if (pt_cmpR op_eq (pv 1) pe_int (nomark _)) (pss_cons (ps_if (pt_val (pv 2)) (pss_one (ps_ret (pe_tup (pa_cons pe_str (pa_cons (pe_cal c__law_any_word (hr.mono (by decide)) (pa_cons (pe_op op_fdiv (pv 0) pe_int) pa_nil)) pa_nil))))) pss_nil)
        (pss_one (ps_ret (pe_tup (pa_cons pe_str (pa_cons (pe_ix ix_list (pe_lst (pa_cons pe_str (pa_cons pe_str pa_nil))) (pe_op op_mod (pe_op op_fdiv (pv 0) pe_int) pe_int) (fun _ _ => rfl)) pa_nil)))))) pss_nil)
      (pss_cons (ps_if (pw_and (pt_val (pv 2)) (pw_and1 (pt_cmpR op_gt (pe_op op_mod (pv 0) pe_int) pe_int (nomark _)))).pt (pss_one (ps_ret (pe_tup (pa_cons pe_str (pa_cons (pe_ix ix_str pe_str (pe_op op_mod (pe_op op_fdiv (pv 0) pe_int) pe_int) (fun _ _ => rfl)) pa_nil))))) pss_nil)
      (pss_cons (ps_if (pt_val (pv 2)) (pss_one (ps_ret (pe_tup (pa_cons pe_str (pa_cons (pe_op op_add_str pe_str (pe_cal c__law_any_word (hr.mono (by decide)) (pa_cons (pe_op op_fdiv (pv 0) pe_int) pa_nil))) pa_nil))))) pss_nil)
      (pss_one (ps_ret (pe_tup (pa_cons pe_str (pa_cons (pe_ix ix_str pe_str (pe_op op_mod (pe_op op_fdiv (pv 0) pe_int) pe_int) (fun _ _ => rfl)) pa_nil))))))))))), ?_⟩
  refine ⟨_, rfl, _, _, rfl, rfl, (show (0 : Int) < _ by decide), ?_⟩
  refine ⟨_, rfl, _, _, rfl, rfl, ⟨by decide, by decide⟩, _, _, rfl, rfl, (show (0 : Int) < _ by decide), rfl, ?_⟩
  refine ⟨_, rfl, rfl, _, rfl, ite2 (fun c1 => ?_) (fun c1 => ?_)⟩
  · refine ⟨_, rfl, _, rfl, ite2 (fun c2 => ?_) (fun c2 => ?_)⟩
    · refine ⟨_, rfl, _, _, rfl, rfl, ⟨by decide, by decide, by decide⟩, _, _, rfl, rfl, (show (0 : Int) < _ by decide +kernel), _, _, rfl, rfl, ⟨by decide, by decide, by decide⟩, _, _, rfl, rfl, (by show 2 ≤ sizeLine; decide), fun p hp => ?_⟩
      have g1 : 0 ≤ i % (10 ^ (60 : Int).toNat) := Int.emod_nonneg _ (by decide +kernel)
      have g2 : i % (10 ^ (60 : Int).toNat) < 10 ^ (60 : Int).toNat := Int.emod_lt_of_pos _ (by decide +kernel)
      have g3 : (10 : Int) ^ (60 : Int).toNat ≤ 10 ^ 61 := by decide +kernel
      have g4 : (10 : Int) ^ (20 : Int).toNat ≤ 10 ^ 61 := by decide +kernel
      have g5 : (0 : Int) ≤ 10 ^ (20 : Int).toNat := by decide +kernel
      exact qn _ p hp (by omega) (by omega)
    · refine ⟨_, rfl, _, _, rfl, rfl, ⟨by decide, by decide⟩, _, _, rfl, rfl, (show (0 : Int) < _ by decide), _, _, rfl, rfl, (by show 2 ≤ sizeLine; decide), fun p hp => ?_⟩
      have g3 : (3 : Int) ≤ 10 ^ 61 := by decide +kernel
      exact qn _ p hp (by omega) (by omega)
  refine ⟨_, rfl, rfl, _, rfl, ite2 (fun c2 => ?_) (fun c2 => ?_)⟩
  · refine ⟨_, rfl, _, rfl, ite2 (fun c3 => ?_) (fun c3 => ?_)⟩
    · refine ⟨_, rfl, _, _, rfl, rfl, ⟨by decide, by decide⟩, _, rfl, fun x hx _ => ⟨(by show 2 ≤ sizeLine; decide), fun p hp => ?_⟩⟩
      exact qa x H p (Same.refl _) hp hx
    · refine ⟨(by show 2 ≤ sizeLine; decide), fun p hp => ⟨_, rfl, _, _, rfl, rfl, ⟨by decide, by decide⟩, _, _, rfl, rfl, (show (0 : Int) < _ by decide), ?_⟩⟩
      have hz : i / 4 % 2 = 0 ∨ i / 4 % 2 = 1 := by omega
      rcases hz with z | z
      · refine ⟨p, _, _, .str "oak", rfl, rfl, SqL.of upd_same, by rw [z]; rfl, (by show 2 ≤ sizeLine; decide), fun r hr' => ?_⟩
        exact qa _ _ r (same_new hp _) hr' w1
      · refine ⟨p, _, _, .str "oik", rfl, rfl, SqL.of upd_same, by rw [z]; rfl, (by show 2 ≤ sizeLine; decide), fun r hr' => ?_⟩
        exact qa _ _ r (same_new hp _) hr' w2
  have hab := Wd.abcd
  refine ⟨_, rfl, _, rfl, ite2 (fun c3 => ?_) (fun c3 => iteF ?_)⟩
  · refine ⟨_, rfl, _, _, rfl, rfl, (show (0 : Int) < _ by decide), _, _, rfl, rfl, _, rfl, ite2 (fun c4 => ?_) (fun c4 => ?_)⟩
    · have hz : i / 80 % 4 = 0 ∨ i / 80 % 4 = 1 ∨ i / 80 % 4 = 2 ∨ i / 80 % 4 = 3 := by omega
      refine ⟨_, rfl, _, _, rfl, rfl, ⟨by decide, by decide⟩, _, _, rfl, rfl, (show (0 : Int) < _ by decide), ?_⟩
      rcases hz with z | z | z | z
      · refine ⟨_, _, 97, rfl, rfl, (by decide +kernel), by rw [z]; decide +kernel, (by show 2 ≤ sizeLine; decide), fun p hp => ?_⟩
        exact qb _ p hp (by have e : (⟨#[97]⟩ : Str) = "a" := by decide +kernel
                            rw [e]; exact hab.1)
      · refine ⟨_, _, 98, rfl, rfl, (by decide +kernel), by rw [z]; decide +kernel, (by show 2 ≤ sizeLine; decide), fun p hp => ?_⟩
        exact qb _ p hp (by have e : (⟨#[98]⟩ : Str) = "b" := by decide +kernel
                            rw [e]; exact hab.2.1)
      · refine ⟨_, _, 99, rfl, rfl, (by decide +kernel), by rw [z]; decide +kernel, (by show 2 ≤ sizeLine; decide), fun p hp => ?_⟩
        exact qb _ p hp (by have e : (⟨#[99]⟩ : Str) = "c" := by decide +kernel
                            rw [e]; exact hab.2.2.1)
      · refine ⟨_, _, 100, rfl, rfl, (by decide +kernel), by rw [z]; decide +kernel, (by show 2 ≤ sizeLine; decide), fun p hp => ?_⟩
        exact qb _ p hp (by have e : (⟨#[100]⟩ : Str) = "d" := by decide +kernel
                            rw [e]; exact hab.2.2.2)
    · refine ⟨_, rfl, _, rfl, ite2 (fun c5 => ?_) (fun c5 => absurd c3 c5)⟩
      refine ⟨_, rfl, _, _, rfl, rfl, ⟨by decide, by decide⟩, _, rfl, fun x hx hl => ⟨_, _, rfl, rfl, ?_, (by show 2 ≤ sizeLine; decide), fun p hp => ?_⟩⟩
      · have e : (Str.ofString "zz").length = 2 := by decide +kernel
        rw [e, len_cps]
        exact small (by omega)
      · exact qb _ p hp (hx.zz hl)
  · refine ⟨_, rfl, _, rfl, ite2 (fun c5 => absurd c5 c3) (fun c5 => ?_)⟩
    have hz : i / 4 % 3 = 0 ∨ i / 4 % 3 = 1 ∨ i / 4 % 3 = 2 := by omega
    refine ⟨_, rfl, _, _, rfl, rfl, ⟨by decide, by decide⟩, _, _, rfl, rfl, (show (0 : Int) < _ by decide), ?_⟩
    rcases hz with z | z | z
    · refine ⟨_, _, 120, rfl, rfl, (by decide +kernel), by rw [z]; decide +kernel, (by show 2 ≤ sizeLine; decide), fun p hp => ?_⟩
      exact qb _ p hp (by have e : (⟨#[120]⟩ : Str) = "x" := by decide +kernel
                          rw [e]; exact w3)
    · refine ⟨_, _, 121, rfl, rfl, (by decide +kernel), by rw [z]; decide +kernel, (by show 2 ≤ sizeLine; decide), fun p hp => ?_⟩
      exact qb _ p hp (by have e : (⟨#[121]⟩ : Str) = "y" := by decide +kernel
                          rw [e]; exact w4)
    · refine ⟨_, _, 122, rfl, rfl, (by decide +kernel), by rw [z]; decide +kernel, (by show 2 ≤ sizeLine; decide), fun p hp => ?_⟩
      exact qb _ p hp (by have e : (⟨#[122]⟩ : Str) = "z" := by decide +kernel
                          rw [e]; exact w5)
def spHead : Sp := fun vs H Q _ => ∃ i : Int, vs = [.int i] ∧ ∀ (x : Str) (H' : Hp), Same H H' → Wd x → Q (.str x) H'
theorem ok_head {f : Addr} {fd : FuncData} (F : Fun K "_law_head" "_law_head" s_law_head f fd) (T : Bi mg) (c__law_any_word : Cal P w K mg base 1 "_law_any_word" ["_law_cell"] spWord) :
    FnOk P w K mg base CX0 2 f fd ["_law_cell"] spHead := by
  refine F.ok sc_law_head (fun vs H Q E h => ?_) (fun cdv A outer s H vs Q E hr h => ?_)
  · obtain ⟨i, rfl, _⟩ := h
    rfl
  obtain ⟨i, rfl, q⟩ := h
  obtain ⟨_, _, w1, w2, _, _, _, _, _⟩ := Wd.lits
  refine ⟨_, (pss_cons (ps_if (pt_cmpR op_eq (pe_op op_mod (pv 0) pe_int) pe_int (nomark _)) (pss_one (ps_ret (pe_cal c__law_any_word (hr.mono (by decide)) (pa_cons (pe_op op_fdiv (pv 0) pe_int) pa_nil)))) pss_nil)
      (pss_one (ps_ret (pe_ix ix_list (pe_lst (pa_cons pe_str (pa_cons pe_str pa_nil))) (pe_op op_mod (pv 0) pe_int) (fun _ _ => rfl))))), ?_⟩
  refine ⟨_, rfl, _, _, rfl, rfl, (show (0 : Int) < _ by decide), rfl, _, rfl, ite2 (fun c1 => ?_) (fun c1 => ?_)⟩
  · exact ⟨_, rfl, _, _, rfl, rfl, ⟨by decide, by decide⟩, _, rfl, fun x hx _ => q x H (Same.refl _) hx⟩
  · refine ⟨(by show 2 ≤ sizeLine; decide), fun p hp => ⟨_, rfl, _, _, rfl, rfl, (show (0 : Int) < _ by decide), ?_⟩⟩
    have hz : i % 2 = 0 ∨ i % 2 = 1 := by omega
    rcases hz with z | z
    · exact ⟨p, _, _, .str "f", rfl, rfl, SqL.of upd_same, by rw [z]; rfl, q _ _ (same_new hp _) w1⟩
    · exact ⟨p, _, _, .str "pair", rfl, rfl, SqL.of upd_same, by rw [z]; rfl, q _ _ (same_new hp _) w2⟩
def spMany : Sp := fun vs H Q _ => ∃ i n : Int, vs = [.int i, .int n] ∧ ∀ (k : Int) (H' : Hp), Same H H' → (0 ≤ k ∧ k ≤ 3) ∨ k = n → Q (.int k) H'
theorem ok_many {f : Addr} {fd : FuncData} (F : Fun K "_law_many_parts" "_law_many_parts" s_law_many_parts f fd) (T : Bi mg) :
    FnOk P w K mg base CX0 1 f fd ["_law_cell", "_law_count"] spMany := by
  refine F.ok sc_law_many_parts (fun vs H Q E h => ?_) (fun cdv A outer s H vs Q E hr h => ?_)
  · obtain ⟨i, n, rfl, _⟩ := h
    rfl
  obtain ⟨i, n, rfl, q⟩ := h
  have last : ∀ D : Ends, D.rt = Q → tRet (tOp (rIxL K) (tLst (tCons (tC (.int 0)) (tCons (tC (.int 0)) (tCons (tC (.int 1)) (tCons (tC (.int 2)) (tCons (tC (.int 2)) (tCons (tC (.int 3)) tNil))))))) (tOp (rI (fun _ j => 0 < j) fun i j => .int (i % j)) (tVar 0) (tC (.int 6)))) D [some (.int i), some (.int n)] H := fun D hD => by
    refine ⟨(by show 6 ≤ sizeLine; decide), fun p hp => ⟨_, rfl, _, _, rfl, rfl, (show (0 : Int) < _ by decide), ?_⟩⟩
    rw [hD]
    have hz : i % 6 = 0 ∨ i % 6 = 1 ∨ i % 6 = 2 ∨ i % 6 = 3 ∨ i % 6 = 4 ∨ i % 6 = 5 := by omega
    rcases hz with z | z | z | z | z | z
    · exact ⟨p, _, _, .int 0, rfl, rfl, SqL.of upd_same, by rw [z]; rfl, q _ _ (same_new hp _) (.inl ⟨by decide, by decide⟩)⟩
    · exact ⟨p, _, _, .int 0, rfl, rfl, SqL.of upd_same, by rw [z]; rfl, q _ _ (same_new hp _) (.inl ⟨by decide, by decide⟩)⟩
    · exact ⟨p, _, _, .int 1, rfl, rfl, SqL.of upd_same, by rw [z]; rfl, q _ _ (same_new hp _) (.inl ⟨by decide, by decide⟩)⟩
    · exact ⟨p, _, _, .int 2, rfl, rfl, SqL.of upd_same, by rw [z]; rfl, q _ _ (same_new hp _) (.inl ⟨by decide, by decide⟩)⟩
    · exact ⟨p, _, _, .int 2, rfl, rfl, SqL.of upd_same, by rw [z]; rfl, q _ _ (same_new hp _) (.inl ⟨by decide, by decide⟩)⟩
    · exact ⟨p, _, _, .int 3, rfl, rfl, SqL.of upd_same, by rw [z]; rfl, q _ _ (same_new hp _) (.inl ⟨by decide, by decide⟩)⟩
  refine ⟨_, (pss_cons (ps_if (pw_and (pt_cmpR op_eq (pe_op op_mod (pv 0) pe_int) pe_int (nomark _)) (pw_and1 (pt_cmpR op_eq (pe_op op_mod (pe_op op_fdiv (pv 0) pe_int) pe_int) pe_int (nomark _)))).pt (pss_one (ps_ret (pv 1))) pss_nil)
      (pss_one (ps_ret (pe_ix ix_list (pe_lst (pa_cons pe_int (pa_cons pe_int (pa_cons pe_int (pa_cons pe_int (pa_cons pe_int (pa_cons pe_int pa_nil))))))) (pe_op op_mod (pv 0) pe_int) (fun _ _ => rfl))))), ?_⟩
  refine ⟨_, rfl, _, _, rfl, rfl, (show (0 : Int) < _ by decide), rfl, _, rfl, ite2 (fun c1 => ?_) (fun c1 => ?_)⟩
  · refine ⟨_, rfl, _, _, rfl, rfl, ⟨by decide, by decide⟩, _, _, rfl, rfl, (show (0 : Int) < _ by decide), rfl, _, rfl, ite2 (fun c2 => ?_) (fun c2 => ?_)⟩
    · exact ⟨_, rfl, q _ _ (Same.refl _) (.inr rfl)⟩
    · exact last _ rfl
  · exact iteF (last _ rfl)
/-- a term is handed back, all that was there stays -/
def spGrown (K : PySem.W.Frag) : Sp := fun vs H Q _ => ∃ (a : Addr) (ns : List Int), vs = [.ref a] ∧ SqL K H a (ns.map V.int) ∧ ns.length ≤ 200 ∧
  ∀ (v : V) (t : Tm) (H' : Hp), Same H H' → TermAt H' v t → t.Ok → t.nodes ≤ ns.length + 2 → Q v H'
theorem cut_from (vs : List V) (k : Int) (h0 : 0 ≤ k) (h : k ≤ vs.length) : cutV vs (some k) none = vs.drop k.toNat := by
  obtain ⟨j, rfl⟩ := Int.eq_ofNat_of_zero_le h0
  unfold cutV
  rw [HT.sIx_none, HT.sIx_nat]
  have e : min j vs.length = j := by have : (j : Int) ≤ vs.length := h; omega
  rw [e]
  show (vs.drop j).take (vs.length - j) = vs.drop j
  exact List.take_of_length_le (by rw [List.length_drop]; omega)
theorem cut_to (vs : List V) (k : Int) (h0 : 0 ≤ k) (h : k ≤ vs.length) : cutV vs none (some k) = vs.take k.toNat := by
  obtain ⟨j, rfl⟩ := Int.eq_ofNat_of_zero_le h0
  unfold cutV
  rw [HT.sIx_none, HT.sIx_nat]
  have e : min j vs.length = j := by have : (j : Int) ≤ vs.length := h; omega
  rw [e]
  rfl
theorem ok_grown {f : Addr} {fd : FuncData} (F : Fun K "_law_grown" "_law_grown" s_law_grown f fd) (T : Bi mg) (c__law_many_parts : Cal P w K mg base 1 "_law_many_parts" ["_law_cell", "_law_count"] spMany)
    (c__law_leaf : Cal P w K mg base 2 "_law_leaf" ["_law_cell"] spLeaf) (c__law_head : Cal P w K mg base 2 "_law_head" ["_law_cell"] spHead) :
    FnOk P w K mg base CX0 3 f fd ["_law_cells"] (spGrown K) := by
  refine F.ok sc_law_grown (fun vs H Q E h => ?_) (fun cdv A outer s H vs Q E hr h => ?_)
  · obtain ⟨a, ns, rfl, _⟩ := h
    rfl
  obtain ⟨a, ns, rfl, hS, hlen, q⟩ := h
  obtain ⟨_, _, _, _, w1, w2, _, _, _⟩ := Wd.lits
  refine ⟨_, (pss_cons (ps_set (i := 1) sc_law_grown.nd rfl (Or.inl rfl) (pe_lst pa_nil))
      (pss_cons (ps_for PassesOwn.never rfl (pi_list (pv 0)) (pg_name (i := 2) sc_law_grown.nd rfl (Or.inl rfl)) (pss_cons (ps_set (i := 3) sc_law_grown.nd rfl (Or.inl rfl) (pe_cal c__law_many_parts (hr.mono (by decide)) (pa_cons (pv 2) (pa_cons (pe_blt call_len_seq T.b_len bt_len (pa_cons (pv 1) pa_nil)) pa_nil))))
        (pss_one (ps_if (pw_or (pt_cmpR op_eq (pv 3) pe_int (nomark _)) (pw_or1 (pt_cmpR op_gt (pv 3) (pe_blt call_len_seq T.b_len bt_len (pa_cons (pv 1) pa_nil)) (nomark _)))).pt (pss_one (ps_expr (pe_bm PySem.F.plainAttrs_list PySem.F.slot_list_append PySem.F.type_list_append mt_append (pv 1) (pa_cons (pe_cal c__law_leaf (hr.mono (by decide)) (pa_cons (pe_op op_fdiv (pv 2) pe_int) pa_nil)) pa_nil)))) (pss_cons (ps_set (i := 4) sc_law_grown.nd rfl (Or.inl rfl) (pe_op op_sub (pe_blt call_len_seq T.b_len bt_len (pa_cons (pv 1) pa_nil)) (pv 3)))
          (pss_cons (ps_set (i := 5) sc_law_grown.nd rfl (Or.inl rfl) (pe_tup (pa_cons pe_str (pa_cons (pe_cal c__law_head (hr.mono (by decide)) (pa_cons (pe_op op_fdiv (pv 2) pe_int) pa_nil)) (pa_cons (pe_bty call_tuple_of T.b_tuple bt_tuple (pa_cons (pe_slice sl_list (pv 1) (po_some (pv 4)) po_none) pa_nil)) pa_nil)))))
          (pss_one (ps_set (i := 1) sc_law_grown.nd rfl (Or.inl rfl) (pe_op op_cat (pe_slice sl_list (pv 1) po_none (po_some (pv 4))) (pe_lst (pa_cons (pv 5) pa_nil)))))))))))
      (pss_cons (ps_if (pt_cmpR op_eq (pe_blt call_len_seq T.b_len bt_len (pa_cons (pv 1) pa_nil)) pe_int (nomark _)) (pss_one (ps_ret (pe_ix ix_list (pv 1) pe_int (fun _ _ => rfl)))) pss_nil)
      (pss_one (ps_ret (pe_tup (pa_cons pe_str (pa_cons pe_str (pa_cons (pe_bty call_tuple_of T.b_tuple bt_tuple (pa_cons (pe_op op_cat (pv 1) (pe_lst (pa_cons (pe_tup (pa_cons pe_str (pa_cons pe_str pa_nil))) pa_nil))) pa_nil)) pa_nil))))))))), ?_⟩
  refine ⟨(by show 0 ≤ sizeLine; decide), fun p0 hp0 => ?_⟩
  refine ⟨_, rfl, a, rfl, ⟨_, (same_new hp0 _).seq hS⟩, for_list (K := K) (a := a) (xs := ns.map V.int) (fun i σ H2 => ∃ (p : Addr) (us : List V) (ts : List Tm) (o2 o3 o4 o5 : Option V),
    σ = [some (.ref a), some (.ref p), o2, o3, o4, o5] ∧ Same H H2 ∧ H p = none ∧ H2 p = some (.lst us) ∧ TermsAt H2 us ts ∧ OkL ts ∧ nodesL ts ≤ i ∧ i ≤ ns.length)
    ⟨p0, [], [], none, none, none, none, rfl, same_new hp0 _, hp0, upd_same, TermsAt.nil, trivial, Nat.le_refl _, Nat.zero_le _⟩ (fun i σ H2 _ ⟨_, _, _, _, _, _, _, _, s2, _⟩ => s2.seq hS) ?_ ?_⟩
  · rintro i y σ H2 hi ⟨p, us, ts, o2, o3, o4, o5, rfl, s2, fp, hp, ht, hok, hnd, hil⟩
    have hil' : i < (ns.map V.int).length := (List.getElem?_eq_some_iff.mp hi).1
    rw [List.length_map] at hil'
    obtain ⟨c, rfl⟩ : ∃ c, y = V.int c := by
      rw [List.getElem?_map] at hi
      cases e : ns[i]? with
      | none => rw [e] at hi; cases hi
      | some z => rw [e] at hi; exact ⟨z, (Option.some.inj hi).symm⟩
    have hul : us.length ≤ 200 := by have := ht.len; have := len_le_nodes ts; omega
    refine ⟨_, rfl, _, rfl, p, us, rfl, .inl (SqL.of hp), c, us.length, rfl, fun k H3 s3 hk => ?_⟩
    have hk0 : 0 ≤ k := by omega
    have hp3 : H3 p = some (.lst us) := s3 _ _ hp
    have ht3 : TermsAt H3 us ts := ht.mono (.of s3)
    -- a leaf
    have leaf : ∀ D : Ends, D.nx = (fun σ H2 => ∃ (p : Addr) (us : List V) (ts : List Tm) (o2 o3 o4 o5 : Option V),
        σ = [some (.ref a), some (.ref p), o2, o3, o4, o5] ∧ Same H H2 ∧ H p = none ∧ H2 p = some (.lst us) ∧ TermsAt H2 us ts ∧ OkL ts ∧ nodesL ts ≤ i + 1 ∧ i + 1 ≤ ns.length) →
        ∀ (v : V) (t : Tm) (H4 : Hp), Same H3 H4 → TermAt H4 v t → t.Ok → t.nodes = 1 → rAppend (.ref p) [v] H4 (fun _ H1 => D.nx [some (.ref a), some (.ref p), some (.int c), some (.int k), o4, o5] H1) := fun D hD v t H4 s4 hv hvo hvn => by
      refine ⟨p, us, v, rfl, rfl, s4 _ _ hp3, small1000 (by omega), ?_⟩
      rw [hD]
      have k1 : TSame H4 (upd H4 p (.lst (us ++ [v]))) := .lst (s4 _ _ hp3)
      refine ⟨p, us ++ [v], ts ++ [t], _, _, _, _, rfl, fun b o e => ?_, fp, upd_same, TermsAt.mono k1 ((ht3.mono (.of s4)).app (.cons hv .nil)), (okL_append _ _).mpr ⟨hok, hvo, trivial⟩, by rw [nodesL_append]; simp only [nodesL]; omega, by omega⟩
      rw [upd_ne (ne_of_none e fp)]
      exact s4 _ _ (s3 _ _ (s2 _ _ e))
    refine ⟨_, rfl, rfl, _, rfl, ite2 (fun c1 => iteT ?_) (fun c1 => ?_)⟩
    · exact ⟨_, rfl, .inl ⟨rfl, _, SqL.of hp3⟩, _, rfl, _, _, rfl, rfl, ⟨by decide, by decide⟩, _, rfl, leaf _ rfl⟩
    refine ⟨_, rfl, _, rfl, p, us, rfl, .inl (SqL.of hp3), _, _, rfl, rfl, _, rfl, ite2 (fun c2 => ?_) (fun c2 => ?_)⟩
    · exact ⟨_, rfl, .inl ⟨rfl, _, SqL.of hp3⟩, _, rfl, _, _, rfl, rfl, ⟨by decide, by decide⟩, _, rfl, leaf _ rfl⟩
    -- a thing
    have c1' : ¬ k = 0 := fun z => (by rw [z] at c1; exact c1 rfl)
    have c2' : ¬ (us.length : Int) < k := of_decide_eq_false (Bool.eq_false_iff.mpr c2)
    refine ⟨_, rfl, p, us, rfl, .inl (SqL.of hp3), _, rfl, _, _, rfl, rfl, ?_⟩
    have j0 : 0 ≤ (us.length : Int) - k := by omega
    have j1 : (us.length : Int) - k ≤ us.length := by omega
    refine ⟨_, rfl, _, _, rfl, rfl, ⟨by decide, by decide⟩, _, rfl, fun x H4 s4 hx => ?_⟩
    refine ⟨_, rfl, _, rfl, _, rfl, p, us, rfl, SqL.of (s4 _ _ hp3), fun l hl => ?_⟩
    rw [cut_from us _ j0 j1]
    have s5 := same_new hl (HO.lst (us.drop ((us.length : Int) - k).toNat))
    have x5 : upd H4 l (HO.lst (us.drop ((us.length : Int) - k).toNat)) l = some _ := upd_same
    generalize upd H4 l (HO.lst (us.drop ((us.length : Int) - k).toNat)) = H5 at s5 x5 ⊢
    refine ⟨l, _, rfl, .inl ⟨SqL.of x5, fun b hb => ?_⟩⟩
    have s6 := same_new hb (HO.tup (us.drop ((us.length : Int) - k).toNat))
    have x6 : upd H5 b (HO.tup (us.drop ((us.length : Int) - k).toNat)) b = some _ := upd_same
    generalize upd H5 b (HO.tup (us.drop ((us.length : Int) - k).toNat)) = H6 at s6 x6 ⊢
    refine ⟨(by show 3 ≤ sizeLine; decide), fun g hg => ?_⟩
    have s7 := same_new hg (HO.tup [.str "thing", .str x, .ref b])
    have x7 : upd H6 g (HO.tup [.str "thing", .str x, .ref b]) g = some _ := upd_same
    generalize upd H6 g (HO.tup [.str "thing", .str x, .ref b]) = H7 at s7 x7 ⊢
    have e4 : Same H4 H7 := s5.trans (s6.trans s7)
    refine ⟨_, rfl, _, rfl, _, rfl, p, us, rfl, SqL.of (e4 _ _ (s4 _ _ hp3)), fun l2 hl2 => ?_⟩
    rw [cut_to us _ j0 j1]
    have s8 := same_new hl2 (HO.lst (us.take ((us.length : Int) - k).toNat))
    have x8 : upd H7 l2 (HO.lst (us.take ((us.length : Int) - k).toNat)) l2 = some _ := upd_same
    generalize upd H7 l2 (HO.lst (us.take ((us.length : Int) - k).toNat)) = H8 at s8 x8 ⊢
    refine ⟨_, rfl, (by show 1 ≤ sizeLine; decide), fun l3 hl3 => ?_⟩
    have s9 := same_new hl3 (HO.lst [.ref g])
    have x9 : upd H8 l3 (HO.lst [.ref g]) l3 = some _ := upd_same
    generalize upd H8 l3 (HO.lst [.ref g]) = H9 at s9 x9 ⊢
    refine ⟨l2, l3, _, _, rfl, rfl, s9 _ _ x8, x9, ?_, fun l4 hl4 => ?_⟩
    · rw [List.length_take]; show _ + 1 ≤ sizeLine
      exact small (by omega)
    have sA := same_new hl4 (HO.lst (us.take ((us.length : Int) - k).toNat ++ [.ref g]))
    have xA : upd H9 l4 (HO.lst (us.take ((us.length : Int) - k).toNat ++ [.ref g])) l4 = some _ := upd_same
    have e9 : Same H4 H9 := e4.trans (s8.trans s9)
    have f9 : H l4 = none := (s2.trans (s3.trans (s4.trans e9))).free hl4
    generalize upd H9 l4 (HO.lst (us.take ((us.length : Int) - k).toNat ++ [.ref g])) = HA at sA xA ⊢
    have tA : TermsAt HA us ts := ht3.mono (.of (s4.trans (e9.trans sA)))
    have up : Same H7 HA := s8.trans (s9.trans sA)
    have oo := (okL_append (ts.take ((us.length : Int) - k).toNat) (ts.drop ((us.length : Int) - k).toNat)).mp (by rw [List.take_append_drop]; exact hok)
    have nn := nodesL_append (ts.take ((us.length : Int) - k).toNat) (ts.drop ((us.length : Int) - k).toNat)
    rw [List.take_append_drop] at nn
    have hl' := ht.len
    have okk : OkL (ts.take ((us.length : Int) - k).toNat ++ [.thing x (ts.drop ((us.length : Int) - k).toNat)]) := by
      refine (okL_append _ _).mpr ⟨oo.1, ?_⟩
      simp only [OkL, Tm.Ok]
      refine ⟨⟨hx, ?_, oo.2⟩, trivial⟩
      intro z
      have z' := congrArg List.length z
      rw [List.length_drop, List.length_nil] at z'
      omega
    refine ⟨l4, _, ts.take ((us.length : Int) - k).toNat ++ [.thing x (ts.drop ((us.length : Int) - k).toNat)], _, _, _, _, rfl, s2.trans (s3.trans (s4.trans (e9.trans sA))), f9, xA,
      (tA.takeN _).app (.cons (termAt_thing.mpr ⟨g, b, _, rfl, up _ _ x7, up _ _ (s7 _ _ x6), tA.dropN _⟩) .nil), okk, ?_, by omega⟩
    rw [nodesL_append]
    simp only [nodesL, Tm.nodes]
    omega
  · rintro σ H2 ⟨p, us, ts, o2, o3, o4, o5, rfl, s2, fp, hp, ht, hok, hnd, hil⟩
    have hl := ht.len
    have hnl := len_le_nodes ts
    refine ⟨_, rfl, p, us, rfl, .inl (SqL.of hp), rfl, _, rfl, ite2 (fun c1 => ?_) (fun c1 => ?_)⟩
    · have c1' : us.length = 1 := by
        have := V.int.inj (of_decide_eq_true c1)
        omega
      match us, ts, c1', hl, ht, hok, hnd, hp with
      | [u], [t], _, _, ht, hok, hnd, hp =>
        refine ⟨_, rfl, p, _, _, u, rfl, rfl, SqL.of hp, rfl, ?_⟩
        have h1 := ht.at 0 (by simp) (by simp)
        exact q u t H2 s2 h1 hok.1 (by simp only [nodesL] at hnd; omega)
    · have c1' : ¬ us.length = 1 := fun z => c1 (decide_eq_true (by rw [z]; rfl))
      refine ⟨_, rfl, (by show 2 ≤ sizeLine; decide), fun g hg => ?_⟩
      have s7 := same_new hg (HO.tup [.str "name", .str "end"])
      have x7 : upd H2 g (HO.tup [.str "name", .str "end"]) g = some _ := upd_same
      generalize upd H2 g (HO.tup [.str "name", .str "end"]) = H7 at s7 x7 ⊢
      refine ⟨(by show 1 ≤ sizeLine; decide), fun l3 hl3 => ?_⟩
      have s9 := same_new hl3 (HO.lst [.ref g])
      have x9 : upd H7 l3 (HO.lst [.ref g]) l3 = some _ := upd_same
      generalize upd H7 l3 (HO.lst [.ref g]) = H9 at s9 x9 ⊢
      refine ⟨p, l3, us, _, rfl, rfl, s9 _ _ (s7 _ _ hp), x9, ?_, fun l4 hl4 => ?_⟩
      · show us.length + 1 ≤ sizeLine
        exact small (by omega)
      have sA := same_new hl4 (HO.lst (us ++ [.ref g]))
      have xA : upd H9 l4 (HO.lst (us ++ [.ref g])) l4 = some _ := upd_same
      generalize upd H9 l4 (HO.lst (us ++ [.ref g])) = HA at sA xA ⊢
      refine ⟨l4, _, rfl, .inl ⟨SqL.of xA, fun b hb => ?_⟩⟩
      have sB := same_new hb (HO.tup (us ++ [.ref g]))
      have xB : upd HA b (HO.tup (us ++ [.ref g])) b = some _ := upd_same
      generalize upd HA b (HO.tup (us ++ [.ref g])) = HB at sB xB ⊢
      refine ⟨(by show 3 ≤ sizeLine; decide), fun d hd => ?_⟩
      have sC := same_new hd (HO.tup [.str "thing", .str "row", .ref b])
      have xC : upd HB d (HO.tup [.str "thing", .str "row", .ref b]) d = some _ := upd_same
      generalize upd HB d (HO.tup [.str "thing", .str "row", .ref b]) = HC at sC xC ⊢
      have up : Same H7 HC := s9.trans (sA.trans (sB.trans sC))
      refine q _ (.thing "row" (ts ++ [.name "end"])) HC (s2.trans (s7.trans up)) (termAt_thing.mpr ⟨d, b, _, rfl, xC, sC _ _ xB, (ht.mono (.of (s7.trans up))).app (.cons (termAt_name.mpr ⟨g, rfl, up _ _ x7⟩) .nil)⟩) ?_ ?_
      · simp only [Tm.Ok]
        exact ⟨w1, by simp, (okL_append _ _).mpr ⟨hok, by simp only [OkL, Tm.Ok]; exact ⟨w2, trivial⟩⟩⟩
      · simp only [Tm.nodes, nodesL_append, nodesL]
        omega
end
end K12
namespace BF
open PySem
/-! ### hidden parts -/
end BF
set_option Elab.async false
set_option linter.all false
namespace BF
open PySem PySem.Spec PyProof.Rows L2
/-! ### the piles of hidden parts on the heap -/
theorem paired_snoc {α β : Type} {F : α → β → Prop} {x : α} {y : β} : ∀ {l : List α} {m : List β}, Paired F l m → F x y → Paired F (l ++ [x]) (m ++ [y])
  | _, _, .nil, h => .cons h .nil
  | _, _, .cons f r, h => .cons f (paired_snoc r h)
end BF
set_option Elab.async false
set_option linter.all false
set_option maxRecDepth 100000
namespace BF
open PySem PySem.Spec PyProof.Rows L2
open Sem (wp)
/-! ### zip of two tuples: its tuples may be kept -/
section
variable {prog : Program} {w : World} {A : Around} {E : Value → Shared → Prop} {s : Shared}
theorem w_alive {a : Addr} {Q : Option Obj → Shared → Prop} (h : Q (s.heap.get? a) s) : wpAny (model prog w) A (loadIfAlive a) Q E s := fun Γ p hΓ => by
  show wp _ _ (Sem.loadIfAlive a .pure) _ _ _ _
  rw [Sem.wp_loadIfAlive]
  exact (wpAny_pure h : wpAny (model prog w) A (pure (s.heap.get? a)) Q E s) Γ p hΓ
theorem t_draw {it t : Addr} {i : Nat} {items : Array Value} {x : Value} {Q : Value → Shared → Prop} (q : IsTupIter s.heap it t i) (ht : IsTup s.heap t items) (hx : items[i]? = some x)
    (k : ∀ h', IsTupIter h' it t (i + 1) → Heap.SameBut it s.heap h' → Q x { s with heap := h' }) : wpAny (model prog w) A (Builtin.SmallTypes.nextOf (.ref it)) Q E s := by
  obtain ⟨oi, gi, ci, di⟩ := id q
  obtain ⟨ot, gt, _, nt, dt⟩ := ht
  unfold Builtin.SmallTypes.nextOf
  refine wpAny_bind (wpAny_callSpecial?_slot (name := Str.ofString "__next__") q.typeIs slot_tupleiter_next (wpAny_call_entry slot_tupleiter_next q.typeIs entry_tupleiter_next ?_ (args_tupleiter_next _)))
  show wpAny _ _ (field (Value.ref it) 0 >>= _) _ _ s
  refine wpAny_bind (wpAny_field gi di (x := Value.ref t) rfl ?_)
  show wpAny _ _ (if (Value.ref t == Value.none) = true then _ else _) _ _ (s : Shared)
  rw [if_neg (show ¬ (Value.ref t == Value.none) = true from fun z => nomatch z)]
  show wpAny _ _ (field (Value.ref it) 1 >>= _) _ _ s
  refine wpAny_bind (wpAny_field gi di (x := Value.int i 0) rfl ?_)
  show wpAny _ _ (seqItems? (Value.ref t) >>= _) _ _ s
  refine wpAny_bind (wpAny_seqItems gt dt ?_)
  simp only [Int.toNat_natCast, hx]
  refine wpAny_bind (wpAny_setField gi di (by simp) (wpAny_pure ⟨x, rfl, wpAny_pure (k _ ⟨_, Heap.get?_update_self _ gi (Obj.isFreed_of_fields (Obj.data_mapFields di _)), (Obj.cls_mapFields ..).trans ci, ?_⟩ (Heap.SameBut.update ..))⟩))
  rw [Obj.data_mapFields di]
  simp [rawInt]
theorem t_drawn {it t : Addr} {i : Nat} {items : Array Value} {Q : Value → Shared → Prop} (hh : A.handled = none) (q : IsTupIter s.heap it t i) (ht : IsTup s.heap t items) (hx : items[i]? = none)
    (k : ∀ h' e, Heap.ExtBut it s.heap h' → (∃ o, h'.get? e = some o ∧ o.cls = .type "StopIteration") → E (.ref e) { s with heap := h' }) : wpAny (model prog w) A (Builtin.SmallTypes.nextOf (.ref it)) Q E s := by
  obtain ⟨oi, gi, ci, di⟩ := id q
  obtain ⟨ot, gt, _, nt, dt⟩ := ht
  unfold Builtin.SmallTypes.nextOf
  refine wpAny_bind (wpAny_callSpecial?_slot (name := Str.ofString "__next__") q.typeIs slot_tupleiter_next (wpAny_call_entry slot_tupleiter_next q.typeIs entry_tupleiter_next ?_ (args_tupleiter_next _)))
  show wpAny _ _ (field (Value.ref it) 0 >>= _) _ _ s
  refine wpAny_bind (wpAny_field gi di (x := Value.ref t) rfl ?_)
  show wpAny _ _ (if (Value.ref t == Value.none) = true then _ else _) _ _ (s : Shared)
  rw [if_neg (show ¬ (Value.ref t == Value.none) = true from fun z => nomatch z)]
  show wpAny _ _ (field (Value.ref it) 1 >>= _) _ _ s
  refine wpAny_bind (wpAny_field gi di (x := Value.int i 0) rfl ?_)
  show wpAny _ _ (seqItems? (Value.ref t) >>= _) _ _ s
  refine wpAny_bind (wpAny_seqItems gt dt ?_)
  simp only [Int.toNat_natCast, hx]
  refine wpAny_bind (wpAny_rule (wpAny_bind (wpAny_setField gi di (by simp) ?_)))
  show wpAny _ _ (newExc (Value.type "StopIteration") [] >>= _) _ _ _
  refine wpAny_bind ?_
  simp only [newExc, newTuple]
  refine wpAny_bind (wpAny_newObj_type ?_ (by size_fits))
  refine wpAny_bind (m := firstArgMember _ _) (wpAny_of_eq (a := Value.none) (by first | rfl | (simp only [firstArgMember]; rfl)) ?_)
  refine wpAny_newObj_type ?_ (by size_fits)
  simp only [raiseNew]
  refine wpAny_bind (wpAny_handled ?_)
  first | rw [show A.in1.handled = none from hh] | rw [hh]
  exact wpAny_bind (wpAny_pure (wpAny_throw (k _ _ (((Heap.SameBut.update ..).extBut.push _).push _) ⟨_, Heap.get?_push_size _ rfl, rfl⟩)))
abbrev zObj (f0 f1 : Value) (TI TO : Addr) : Obj := { cls := .type "zip", dict := none, data := .fields #[f0, f1, .bool false, .ref TI, .ref TO], slots := #[] }
def Zf (f0 f1 : Value) : Prop := (f0 = .none ∨ ∃ n : Int, f0 = rawInt n) ∧ ∃ b, f1 = .bool b
theorem z_free {z TI TO : Addr} {f0 f1 : Value} {Q : Bool → Shared → Prop} (hz : s.heap.get? z = some (zObj f0 f1 TI TO)) (hf : Zf f0 f1) (ht : Q true s)
    (hn : ∀ h' f1', h'.get? z = some (zObj f0 f1' TI TO) → Heap.SameBut z s.heap h' → Zf f0 f1' → Q false { s with heap := h' }) : wpAny (model prog w) A (Builtin.SmallTypes.ownedTupleIsFree (.ref z)) Q E s := by
  obtain ⟨h0, b, rfl⟩ := id hf
  unfold Builtin.SmallTypes.ownedTupleIsFree
  rcases h0 with rfl | ⟨n, rfl⟩
  · exact wpAny_bind (wpAny_field hz rfl (x := Value.none) rfl (wpAny_pure ht))
  · refine wpAny_bind (wpAny_field hz rfl (x := rawInt n) rfl ?_)
    show wpAny _ _ (loadIfAlive n.toNat >>= _) _ _ _
    refine wpAny_bind (w_alive ?_)
    cases s.heap.get? n.toNat with
    | none => exact wpAny_pure ht
    | some o =>
      show wpAny _ _ (field (Value.ref z) 1 >>= _) _ _ _
      refine wpAny_bind (wpAny_field hz rfl (x := Value.bool b) rfl ?_)
      cases b with
      | true => exact wpAny_pure (hn _ _ hz (Heap.SameBut.refl ..) hf)
      | false => exact wpAny_bind (wpAny_setField_rec hz (by simp) fun h1 g1 s1 => wpAny_pure (hn _ _ g1 s1 ⟨hf.1, true, rfl⟩))
theorem z_item {z TI TO i1 i2 a b : Addr} {k : Nat} {xs ys : Array Value} {x y f0 f1 : Value} {Q : Value → Shared → Prop} (D : ZipApart z TI TO i1 i2 a b) (hf : Zf f0 f1)
    (hz : s.heap.get? z = some (zObj f0 f1 TI TO)) (hTI : IsPair s.heap TI (.ref i1) (.ref i2)) (hTO : ∃ u v, IsPair s.heap TO u v)
    (h1 : IsTupIter s.heap i1 a k) (h2 : IsTupIter s.heap i2 b k) (t1 : IsTup s.heap a xs) (t2 : IsTup s.heap b ys) (hx : xs[k]? = some x) (hy : ys[k]? = some y)
    (hQ : ∀ h' f0' f1', Zf f0' f1' → h'.get? z = some (zObj f0' f1' TI TO) → (∃ u v, IsPair h' TO u v) → IsTupIter h' i1 a (k + 1) → IsTupIter h' i2 b (k + 1) → IsPair h' s.heap.objs.size x y → h'.objs.size = s.heap.objs.size + 1 →
      (∀ c o, c ≠ z → c ≠ TO → c ≠ i1 → c ≠ i2 → s.heap.get? c = some o → h'.get? c = some o) → Q (.ref s.heap.objs.size) { s with heap := h' }) :
    wpAny (model prog w) A (Builtin.«zip.__next__» ⟨[.ref z], []⟩) (fun fin s' => ∃ v, fin = .done (.ret v) ∧ Q v s') E s := by
  obtain ⟨u, v, hTO⟩ := hTO
  show wpAny _ _ (field (Value.ref z) 2 >>= _) _ _ s
  refine wpAny_bind (wpAny_field hz rfl (x := Value.bool false) rfl ?_)
  show wpAny _ _ (field (Value.ref z) 3 >>= _) _ _ s
  refine wpAny_bind (wpAny_field hz rfl (x := Value.ref TI) rfl ?_)
  refine wpAny_bind (wpAny_seqItems hTI rfl ?_)
  show wpAny _ _ (Builtin.SmallTypes.ownedTupleIsFree (Value.ref z) >>= _) _ _ s
  refine wpAny_bind (z_free hz hf ?_ fun g1 f1' gz1 gs1 gf1 => ?_)
  · simp only [if_true]
    refine wpAny_bind (wpAny_rule (wpAny_bind (wpAny_field hz rfl (x := Value.ref TO) rfl ?_)))
    refine wpAny_bind (wpAny_setField_rec hz (by simp) fun g1 gz1 gs1 => ?_)
    replace gz1 : g1.get? z = some (zObj .ellipsis f1 TI TO) := gz1
    refine wpAny_bind ?_
    simp only [List.zipIdx_cons, List.zipIdx_nil, List.forIn_cons, List.forIn_nil]
    refine wpAny_bind (wpAny_bind (wpAny_onRaise ?_))
    show wpAny _ _ (Builtin.SmallTypes.nextOf (Value.ref i1) >>= _) _ _ _
    refine wpAny_bind (t_draw (h1.extBut gs1.extBut D.i1z) (t1.extBut gs1.extBut D.l1z) hx fun g2 e2 gs2 => wpAny_pure ?_)
    have o2 : IsPair g2 TO u v := gs2.extBut _ _ D.TOi1 (gs1.extBut _ _ D.TOz hTO)
    refine wpAny_bind (wpAny_seqItems o2 rfl (wpAny_bind (wpAny_updateSeq_pair o2 fun g3 o3 gs3 => ?_)))
    replace o3 : IsPair g3 TO x v := o3
    refine wpAny_bind (wpAny_letGo (wpAny_pure (wpAny_bind (wpAny_bind (wpAny_onRaise ?_)))))
    show wpAny _ _ (Builtin.SmallTypes.nextOf (Value.ref i2) >>= _) _ _ _
    refine wpAny_bind (t_draw (((h2.extBut gs1.extBut D.i2z).extBut gs2.extBut D.i12.symm).extBut gs3.extBut D.TOi2.symm) (((t2.extBut gs1.extBut D.l2z).extBut gs2.extBut D.l2i1).extBut gs3.extBut D.l2TO) hy fun g4 e4 gs4 => wpAny_pure ?_)
    have o4 : IsPair g4 TO x v := gs4.extBut _ _ D.TOi2 o3
    refine wpAny_bind (wpAny_seqItems o4 rfl (wpAny_bind (wpAny_updateSeq_pair o4 fun g5 o5 gs5 => ?_)))
    replace o5 : IsPair g5 TO x y := o5
    refine wpAny_bind (wpAny_letGo (wpAny_pure (wpAny_pure (wpAny_bind (wpAny_seqItems o5 rfl (wpAny_bind (wpAny_newTuple ?_)))))))
    have hsz : g5.objs.size = s.heap.objs.size := by rw [gs5.1, gs4.1, gs3.1, gs2.1, gs1.1]
    have gz5 : g5.get? z = some (zObj .ellipsis f1 TI TO) := gs5.extBut _ _ D.TOz.symm (gs4.extBut _ _ D.i2z.symm (gs3.extBut _ _ D.TOz.symm (gs2.extBut _ _ D.i1z.symm gz1)))
    have hk : ∀ c o, c ≠ z → c ≠ TO → c ≠ i1 → c ≠ i2 → s.heap.get? c = some o → g5.get? c = some o := fun c o c1 c2 c3 c4 e =>
      gs5.extBut _ _ c2 (gs4.extBut _ _ c4 (gs3.extBut _ _ c2 (gs2.extBut _ _ c3 (gs1.extBut _ _ c1 e))))
    have w1 : IsTupIter g5 i1 a (k + 1) := ((e2.extBut gs3.extBut D.TOi1.symm).extBut gs4.extBut D.i12).extBut gs5.extBut D.TOi1.symm
    have w2 : IsTupIter g5 i2 b (k + 1) := e4.extBut gs5.extBut D.TOi2.symm
    have zlt : z < g5.objs.size := Heap.lt_size gz5
    show wpAny _ _ (Builtin.SmallTypes.ownedTupleHandOut (Value.ref z) (Value.ref g5.objs.size) >>= _) _ _ _
    refine wpAny_bind ?_
    unfold Builtin.SmallTypes.ownedTupleHandOut
    have gz6 : (g5.push { cls := .type "tuple", data := .seq #[x, y] }).get? z = some (zObj .ellipsis f1 TI TO) := Heap.get?_push_of_some _ gz5
    refine wpAny_bind (wpAny_setField_rec gz6 (by simp) fun g7 gz7 gs7 => ?_)
    replace gz7 : g7.get? z = some (zObj (rawInt g5.objs.size) f1 TI TO) := gz7
    refine wpAny_setField_rec gz7 (by simp) fun g8 gz8 gs8 => ?_
    replace gz8 : g8.get? z = some (zObj (rawInt g5.objs.size) (.bool false) TI TO) := gz8
    have up : ∀ c o, c ≠ z → g5.get? c = some o → g8.get? c = some o := fun c o c1 e => gs8.extBut _ _ c1 (gs7.extBut _ _ c1 (Heap.get?_push_of_some _ e))
    have hT : IsPair g8 g5.objs.size x y := gs8.extBut _ _ (Nat.ne_of_gt zlt) (gs7.extBut _ _ (Nat.ne_of_gt zlt) (Heap.get?_push_size _ rfl))
    have hz8 : g8.objs.size = g5.objs.size + 1 := by rw [gs8.1, gs7.1, Heap.size_push]
    rw [hsz] at hT hz8
    refine wpAny_pure ⟨_, rfl, ?_⟩
    show Q (.ref g5.objs.size) _
    rw [hsz]
    refine hQ g8 _ _ ⟨.inr ⟨_, rfl⟩, false, rfl⟩ gz8 ⟨x, y, up _ _ D.TOz o5⟩ ?_ ?_ hT hz8 fun c o c1 c2 c3 c4 e => up c o c1 (hk c o c1 c2 c3 c4 e)
    · obtain ⟨o, ho, r⟩ := w1
      exact ⟨o, up _ _ D.i1z ho, r⟩
    · obtain ⟨o, ho, r⟩ := w2
      exact ⟨o, up _ _ D.i2z ho, r⟩
  · simp only [Bool.false_eq_true, if_false]
    refine wpAny_bind ?_
    simp only [← Array.forIn_toList, List.forIn_cons, List.forIn_nil]
    refine wpAny_bind (wpAny_bind (wpAny_holding ?_))
    show wpAny _ _ (Builtin.SmallTypes.nextOf (Value.ref i1) >>= _) _ _ _
    refine wpAny_bind (t_draw (h1.extBut gs1.extBut D.i1z) (t1.extBut gs1.extBut D.l1z) hx fun g2 e2 gs2 => wpAny_pure (wpAny_pure ?_))
    refine wpAny_bind (wpAny_bind (wpAny_holding ?_))
    show wpAny _ _ (Builtin.SmallTypes.nextOf (Value.ref i2) >>= _) _ _ _
    refine wpAny_bind (t_draw ((h2.extBut gs1.extBut D.i2z).extBut gs2.extBut D.i12.symm) ((t2.extBut gs1.extBut D.l2z).extBut gs2.extBut D.l2i1) hy fun g4 e4 gs4 => wpAny_pure (wpAny_pure (wpAny_pure ?_)))
    refine wpAny_bind (wpAny_newTuple (wpAny_pure ⟨_, rfl, ?_⟩) (by show 2 ≤ sizeLine; decide))
    have hsz : g4.objs.size = s.heap.objs.size := by rw [gs4.1, gs2.1, gs1.1]
    have w1 := e2.extBut gs4.extBut D.i12
    show Q (.ref g4.objs.size) _
    rw [hsz]
    refine hQ _ _ _ gf1 (Heap.get?_push_of_some _ (gs4.extBut _ _ D.i2z.symm (gs2.extBut _ _ D.i1z.symm gz1))) ⟨u, v, Heap.get?_push_of_some _ (gs4.extBut _ _ D.TOi2 (gs2.extBut _ _ D.TOi1 (gs1.extBut _ _ D.TOz hTO)))⟩ ?_ ?_ ?_ (by rw [Heap.size_push, hsz]) fun c o c1 c2 c3 c4 e => Heap.get?_push_of_some _ (gs4.extBut _ _ c4 (gs2.extBut _ _ c3 (gs1.extBut _ _ c1 e)))
    · obtain ⟨o, ho, r⟩ := w1
      exact ⟨o, Heap.get?_push_of_some _ ho, r⟩
    · obtain ⟨o, ho, r⟩ := e4
      exact ⟨o, Heap.get?_push_of_some _ ho, r⟩
    · rw [← hsz]
      exact Heap.get?_push_size _ rfl
theorem z_end {z TI TO i1 i2 a b : Addr} {k : Nat} {xs : Array Value} {f0 f1 : Value} {Q : Fin → Shared → Prop} (hh : A.handled = none) (D : ZipApart z TI TO i1 i2 a b) (hf : Zf f0 f1)
    (hz : s.heap.get? z = some (zObj f0 f1 TI TO)) (hTI : IsPair s.heap TI (.ref i1) (.ref i2))
    (h1 : IsTupIter s.heap i1 a k) (t1 : IsTup s.heap a xs) (hx : xs[k]? = none)
    (hE : ∀ h' e, (∀ c o, c ≠ z → c ≠ i1 → s.heap.get? c = some o → h'.get? c = some o) → (∃ o, h'.get? e = some o ∧ o.cls = .type "StopIteration") → E (.ref e) { s with heap := h' }) :
    wpAny (model prog w) A (Builtin.«zip.__next__» ⟨[.ref z], []⟩) Q E s := by
  show wpAny _ _ (field (Value.ref z) 2 >>= _) _ _ s
  refine wpAny_bind (wpAny_field hz rfl (x := Value.bool false) rfl ?_)
  show wpAny _ _ (field (Value.ref z) 3 >>= _) _ _ s
  refine wpAny_bind (wpAny_field hz rfl (x := Value.ref TI) rfl ?_)
  refine wpAny_bind (wpAny_seqItems hTI rfl ?_)
  show wpAny _ _ (Builtin.SmallTypes.ownedTupleIsFree (Value.ref z) >>= _) _ _ s
  refine wpAny_bind (z_free hz hf ?_ fun g1 f1' gz1 gs1 gf1 => ?_)
  · simp only [if_true]
    refine wpAny_bind (wpAny_rule (wpAny_bind (wpAny_field hz rfl (x := Value.ref TO) rfl ?_)))
    refine wpAny_bind (wpAny_setField_rec hz (by simp) fun g1 gz1 gs1 => ?_)
    replace gz1 : g1.get? z = some (zObj .ellipsis f1 TI TO) := gz1
    refine wpAny_bind ?_
    simp only [List.zipIdx_cons, List.zipIdx_nil, List.forIn_cons, List.forIn_nil]
    refine wpAny_bind (wpAny_bind (wpAny_onRaise ?_))
    show wpAny _ _ (Builtin.SmallTypes.nextOf (Value.ref i1) >>= _) _ _ _
    refine wpAny_bind (t_drawn hh (h1.extBut gs1.extBut D.i1z) (t1.extBut gs1.extBut D.l1z) hx fun g2 e gs2 he => ?_)
    obtain ⟨oe, hoe, hce⟩ := he
    have gz2 : g2.get? z = some (zObj .ellipsis f1 TI TO) := gs2 _ _ D.i1z.symm gz1
    have hez : e ≠ z := fun y => by subst y; rw [gz2] at hoe; cases hoe; simp at hce
    exact wpAny_setField_rec gz2 (by simp) fun g3 _ gs3 => hE g3 e (fun c o c1 c3 y => gs3.extBut _ _ c1 (gs2 _ _ c3 (gs1.extBut _ _ c1 y))) ⟨oe, gs3.extBut _ _ hez hoe, hce⟩
  · simp only [Bool.false_eq_true, if_false]
    refine wpAny_bind ?_
    simp only [← Array.forIn_toList, List.forIn_cons, List.forIn_nil]
    refine wpAny_bind (wpAny_bind (wpAny_holding ?_))
    show wpAny _ _ (Builtin.SmallTypes.nextOf (Value.ref i1) >>= _) _ _ _
    exact wpAny_bind (t_drawn hh (h1.extBut gs1.extBut D.i1z) (t1.extBut gs1.extBut D.l1z) hx fun g2 e gs2 he => hE g2 e (fun c o c1 c3 y => gs2 _ _ c3 (gs1.extBut _ _ c1 y)) he)
end
end BF
set_option Elab.async false
set_option linter.all false
set_option maxRecDepth 100000
namespace BF
open PySem PySem.Spec PyProof.Rows L2
open Sem (wp)
/-- a zip of two tuples, k drawn -/
structure ZAt (h : Heap) (z TI TO i1 i2 a b : Addr) (k : Nat) : Prop where
  z : ∃ f0 f1, Zf f0 f1 ∧ h.get? z = some (zObj f0 f1 TI TO)
  ti : IsPair h TI (.ref i1) (.ref i2)
  to : ∃ u v, IsPair h TO u v
  i1 : IsTupIter h i1 a k
  i2 : IsTupIter h i2 b k
theorem ZAt.keep {h h' : Heap} {z TI TO i1 i2 a b : Addr} {k : Nat} (x : ZAt h z TI TO i1 i2 a b k) (q : ∀ c ∈ [z, TI, TO, i1, i2], ∀ o, h.get? c = some o → h'.get? c = some o) : ZAt h' z TI TO i1 i2 a b k where
  z := let ⟨f0, f1, hf, e⟩ := x.z; ⟨f0, f1, hf, q z (by simp) _ e⟩
  ti := q TI (by simp) _ x.ti
  to := let ⟨u, v, e⟩ := x.to; ⟨u, v, q TO (by simp) _ e⟩
  i1 := let ⟨o, e, r⟩ := x.i1; ⟨o, q i1 (by simp) _ e, r⟩
  i2 := let ⟨o, e, r⟩ := x.i2; ⟨o, q i2 (by simp) _ e, r⟩
section
variable {prog : Program} {w : World} {A : Around} {E : Value → Shared → Prop} {s : Shared} {z TI TO i1 i2 a b : Addr} {k : Nat} {xs ys : Array Value} {x y : Value}
abbrev ZNext (s : Shared) (z TI TO i1 i2 a b : Addr) (k : Nat) (x y : Value) (h' : Heap) : Prop :=
  ZAt h' z TI TO i1 i2 a b (k + 1) ∧ IsPair h' s.heap.objs.size x y ∧ h'.objs.size = s.heap.objs.size + 1 ∧ ∀ c o, c ≠ z → c ≠ TO → c ≠ i1 → c ≠ i2 → s.heap.get? c = some o → h'.get? c = some o
theorem z_next {Q : Value → Shared → Prop} (D : ZipApart z TI TO i1 i2 a b) (hz : ZAt s.heap z TI TO i1 i2 a b k) (t1 : IsTup s.heap a xs) (t2 : IsTup s.heap b ys) (hx : xs[k]? = some x) (hy : ys[k]? = some y)
    (hQ : ∀ h', ZNext s z TI TO i1 i2 a b k x y h' → Q (.ref s.heap.objs.size) { s with heap := h' }) : wpAny (model prog w) A (Builtin.«zip.__next__» ⟨[.ref z], []⟩) (fun fin s' => ∃ v, fin = .done (.ret v) ∧ Q v s') E s := by
  obtain ⟨f0, f1, hf, e⟩ := hz.z
  exact z_item D hf e hz.ti hz.to hz.i1 hz.i2 t1 t2 hx hy fun h' g0 g1 q1 q2 q3 q4 q5 q6 q7 q8 => hQ h' ⟨⟨⟨g0, g1, q1, q2⟩, q8 _ _ D.TIz D.TITO D.TIi1 D.TIi2 hz.ti, q3, q4, q5⟩, q6, q7, q8⟩
theorem z_draw {Q : Value → Shared → Prop} (D : ZipApart z TI TO i1 i2 a b) (hz : ZAt s.heap z TI TO i1 i2 a b k) (t1 : IsTup s.heap a xs) (t2 : IsTup s.heap b ys) (hx : xs[k]? = some x) (hy : ys[k]? = some y)
    (hQ : ∀ h', ZNext s z TI TO i1 i2 a b k x y h' → Q (.ref s.heap.objs.size) { s with heap := h' }) : wpAny (model prog w) A (Builtin.SmallTypes.nextOf (.ref z)) Q E s := by
  have hT : s.TypeIs (.ref z) "zip" := let ⟨_, _, _, e⟩ := hz.z; ⟨_, e, rfl⟩
  unfold Builtin.SmallTypes.nextOf
  exact wpAny_bind (wpAny_callSpecial?_slot (name := Str.ofString "__next__") hT F.slot_zip_next (wpAny_call_entry F.slot_zip_next hT F.entry_zip_next (z_next D hz t1 t2 hx hy fun h' q => wpAny_pure (hQ h' q)) (F.args_zip_next_1 _)))
theorem z_pn {Q : Option Value → Shared → Prop} (D : ZipApart z TI TO i1 i2 a b) (hz : ZAt s.heap z TI TO i1 i2 a b k) (t1 : IsTup s.heap a xs) (t2 : IsTup s.heap b ys) (hx : xs[k]? = some x) (hy : ys[k]? = some y)
    (hQ : ∀ h', ZNext s z TI TO i1 i2 a b k x y h' → Q (some (.ref s.heap.objs.size)) { s with heap := h' }) : wpAny (model prog w) A (pyNext (.ref z)) Q E s := by
  have hT : s.TypeIs (.ref z) "zip" := let ⟨_, _, _, e⟩ := hz.z; ⟨_, e, rfl⟩
  unfold pyNext
  exact wpAny_bind (wpAny_attempt (wpAny_callSpecial?_slot (name := Str.ofString "__next__") hT F.slot_zip_next (wpAny_call_entry F.slot_zip_next hT F.entry_zip_next (z_next D hz t1 t2 hx hy fun h' q => wpAny_pure (hQ h' q)) (F.args_zip_next_1 _))))
theorem z_drawn {Q : Value → Shared → Prop} (hh : A.handled = none) (D : ZipApart z TI TO i1 i2 a b) (hz : ZAt s.heap z TI TO i1 i2 a b k) (t1 : IsTup s.heap a xs) (hx : xs[k]? = none)
    (hE : ∀ h' e, (∀ c o, c ≠ z → c ≠ i1 → s.heap.get? c = some o → h'.get? c = some o) → (∃ o, h'.get? e = some o ∧ o.cls = .type "StopIteration") → E (.ref e) { s with heap := h' }) : wpAny (model prog w) A (Builtin.SmallTypes.nextOf (.ref z)) Q E s := by
  have hT : s.TypeIs (.ref z) "zip" := let ⟨_, _, _, e⟩ := hz.z; ⟨_, e, rfl⟩
  obtain ⟨f0, f1, hf, e⟩ := hz.z
  unfold Builtin.SmallTypes.nextOf
  exact wpAny_bind (wpAny_callSpecial?_slot (name := Str.ofString "__next__") hT F.slot_zip_next (wpAny_call_entry F.slot_zip_next hT F.entry_zip_next (z_end hh D hf e hz.ti hz.i1 t1 hx hE) (F.args_zip_next_1 _)))
theorem z_pnone {Q : Option Value → Shared → Prop} (hh : A.handled = none) (D : ZipApart z TI TO i1 i2 a b) (hz : ZAt s.heap z TI TO i1 i2 a b k) (t1 : IsTup s.heap a xs) (hx : xs[k]? = none)
    (hQ : ∀ h', (∀ c o, c ≠ z → c ≠ i1 → s.heap.get? c = some o → h'.get? c = some o) → Q none { s with heap := h' }) : wpAny (model prog w) A (pyNext (.ref z)) Q E s := by
  have hT : s.TypeIs (.ref z) "zip" := let ⟨_, _, _, e⟩ := hz.z; ⟨_, e, rfl⟩
  obtain ⟨f0, f1, hf, e⟩ := hz.z
  unfold pyNext
  refine wpAny_bind (wpAny_attempt (wpAny_callSpecial?_slot (name := Str.ofString "__next__") hT F.slot_zip_next (wpAny_call_entry F.slot_zip_next hT F.entry_zip_next (z_end hh D hf e hz.ti hz.i1 t1 hx fun h' e hk he => ?_) (F.args_zip_next_1 _))))
  obtain ⟨o, ho, hc⟩ := he
  exact wpAny_bind (wpAny_isInstance (T := "StopIteration") (b := true) ⟨o, ho, hc⟩ isSubtype_stop (wpAny_pure (hQ _ hk)))
theorem z_self {Q : Value → Shared → Prop} (hz : ZAt s.heap z TI TO i1 i2 a b k) (h : Q (.ref z) s) : wpAny (model prog w) A (pyIter (.ref z)) Q E s := by
  obtain ⟨f0, f1, hf, e⟩ := hz.z
  have hT : s.TypeIs (.ref z) "zip" := ⟨_, e, rfl⟩
  refine wpAny_pyIter_slot hT F.slot_zip_iter (wpAny_call_entry F.slot_zip_iter hT F.entry_zip_iter ?_ (F.args_zip_iter_1 _))
  show wpAny _ _ (ret (Value.ref z)) _ _ s
  exact wpAny_pure ⟨_, rfl, "zip", _, hT, F.slot_zip_next.lookup, h⟩
end
/-! ### zip(t, u) -/
abbrev zt1 (h : Heap) (l1 : Addr) : Heap := h.push { cls := .type "tuple_iterator", data := .fields #[.ref l1, .int 0 0] }
abbrev zt2 (h : Heap) (l1 l2 : Addr) : Heap := (zt1 h l1).push { cls := .type "tuple_iterator", data := .fields #[.ref l2, .int 0 0] }
abbrev zt3 (h : Heap) (l1 l2 : Addr) : Heap := (zt2 h l1 l2).push { cls := .type "tuple", data := .seq #[.ref h.objs.size, .ref (zt1 h l1).objs.size] }
abbrev zt4 (h : Heap) (l1 l2 : Addr) : Heap := (zt3 h l1 l2).push { cls := .type "tuple", data := .seq #[.none, .none] }
abbrev zt5 (h : Heap) (l1 l2 : Addr) : Heap := (zt4 h l1 l2).push (zObj .none (.bool false) (zt2 h l1 l2).objs.size (zt3 h l1 l2).objs.size)
theorem meets_zt (l1 l2 : Addr) (xs ys : Array Value) :
    Meets (Builtin.«zip.__new__» ⟨[.type "zip", .ref l1, .ref l2], []⟩) (fun _ R s => IsTup s.heap l1 xs ∧ IsTup s.heap l2 ys ∧ R (.ok (.ret (.ref (zt4 s.heap l1 l2).objs.size))) { s with heap := zt5 s.heap l1 l2 }) :=
  .of_wp fun prog w A R s h => by
    obtain ⟨hp, g, d, tk, os⟩ := s; obtain ⟨hl1, hl2, h⟩ := h
    have hsub := sub_zip
    have hL1 : IsTup (Shared.heap ⟨hp, g, d, tk, os⟩) l1 xs := hl1
    have hL2 : IsTup (Shared.heap ⟨hp.push { cls := .type "tuple_iterator", data := .fields #[.ref l1, .int 0 0] }, g, d, tk, os⟩) l2 ys := let ⟨o, e, r⟩ := hl2; ⟨o, Heap.get?_push_of_some _ e, r⟩
    wp_walk using iter_tuple hL1, iter_tuple hL2
    exact ⟨_, rfl, h⟩
theorem zt_all (h : Heap) (l1 l2 : Addr) : (zt5 h l1 l2).objs.size = h.objs.size + 5 ∧ (zt4 h l1 l2).objs.size = h.objs.size + 4 ∧ ZAt (zt5 h l1 l2) (h.objs.size + 4) (h.objs.size + 2) (h.objs.size + 3) h.objs.size (h.objs.size + 1) l1 l2 0 ∧
    (∀ c o, h.get? c = some o → (zt5 h l1 l2).get? c = some o) := by
  have z1 : (zt1 h l1).objs.size = h.objs.size + 1 := Heap.size_push ..
  have z2 : (zt2 h l1 l2).objs.size = h.objs.size + 2 := by rw [Heap.size_push, z1]
  have z3 : (zt3 h l1 l2).objs.size = h.objs.size + 3 := by rw [Heap.size_push, z2]
  have z4 : (zt4 h l1 l2).objs.size = h.objs.size + 4 := by rw [Heap.size_push, z3]
  have z5 : (zt5 h l1 l2).objs.size = h.objs.size + 5 := by rw [Heap.size_push, z4]
  have g5 : (zt5 h l1 l2).get? (zt4 h l1 l2).objs.size = some _ := Heap.get?_push_size _ rfl
  have g4 : (zt5 h l1 l2).get? (zt3 h l1 l2).objs.size = some _ := Heap.get?_push_of_some _ (Heap.get?_push_size _ rfl)
  have g3 : (zt5 h l1 l2).get? (zt2 h l1 l2).objs.size = some _ := Heap.get?_push_of_some _ (Heap.get?_push_of_some _ (Heap.get?_push_size _ rfl))
  have g2 : (zt5 h l1 l2).get? (zt1 h l1).objs.size = some _ := Heap.get?_push_of_some _ (Heap.get?_push_of_some _ (Heap.get?_push_of_some _ (Heap.get?_push_size _ rfl)))
  have g1 : (zt5 h l1 l2).get? h.objs.size = some _ := Heap.get?_push_of_some _ (Heap.get?_push_of_some _ (Heap.get?_push_of_some _ (Heap.get?_push_of_some _ (Heap.get?_push_size _ rfl))))
  rw [z2, z3, z4] at g5
  rw [z1, z2] at g3
  rw [z3] at g4
  rw [z1] at g2
  exact ⟨z5, z4, ⟨⟨_, _, ⟨.inl rfl, false, rfl⟩, g5⟩, g3, ⟨_, _, g4⟩, ⟨_, g1, rfl, rfl⟩, ⟨_, g2, rfl, rfl⟩⟩, fun c o e => Heap.get?_push_of_some _ (Heap.get?_push_of_some _ (Heap.get?_push_of_some _ (Heap.get?_push_of_some _ (Heap.get?_push_of_some _ e))))⟩
theorem call_zt {prog : Program} {w : World} {A : Around} {E : Value → Shared → Prop} {s : Shared} {l1 l2 : Addr} {xs ys : Array Value} {Q : Value → Shared → Prop} (h1 : IsTup s.heap l1 xs) (h2 : IsTup s.heap l2 ys)
    (h : Q (.ref (s.heap.objs.size + 4)) { s with heap := zt5 s.heap l1 l2 }) : wpAny (model prog w) A (call (.type "zip") [.ref l1, .ref l2]) Q E s := by
  refine callType_new F.called_zip (by decide) (F.typeCall_zip_2 _ _) (F.newCall_zip_2 _ _) (fun obj => F.args_object_init_3 obj _ _) F.entry_zip_new (meets_zt l1 l2 xs ys) ⟨h1, h2, ?_⟩
  obtain ⟨z5, z4, zz, _⟩ := zt_all s.heap l1 l2
  show _ ∧ _
  rw [z4]
  obtain ⟨_, _, _, e⟩ := zz.z
  exact ⟨⟨_, e, rfl⟩, h⟩
theorem zt_apart {n a b : Nat} (h1 : a < n) (h2 : b < n) : ZipApart (n + 4) (n + 2) (n + 3) n (n + 1) a b := by
  constructor <;> (show (_ : Nat) ≠ (_ : Nat); omega)
end BF
set_option Elab.async false
set_option linter.all false
set_option maxRecDepth 100000
namespace BF
open PySem PySem.Spec PyProof.Rows L2
open Sem (wp)
/-- tuples of two, of two lists -/
def ZL (H : Hp) (ls xs ys : List V) : Prop := ls.length = xs.length ∧ ∀ (i : Nat) (x y : V), xs[i]? = some x → ys[i]? = some y → ∃ p, ls[i]? = some (.ref p) ∧ H p = some (.tup [x, y])
theorem ZL.snoc {H H' : Hp} {ls xs ys : List V} {x y : V} {p : Addr} (h : ZL H ls xs ys) (hl : xs.length = ys.length) (k : ∀ q us, H q = some (.tup us) → H' q = some (.tup us)) (hp : H' p = some (.tup [x, y])) : ZL H' (ls ++ [.ref p]) (xs ++ [x]) (ys ++ [y]) := by
  refine ⟨by simp [h.1], fun i u v hu hv => ?_⟩
  by_cases c : i < xs.length
  · rw [List.getElem?_append_left c] at hu
    rw [List.getElem?_append_left (by omega)] at hv
    obtain ⟨q, e1, e2⟩ := h.2 i u v hu hv
    exact ⟨q, by rw [List.getElem?_append_left (by have := h.1; omega)]; exact e1, k _ _ e2⟩
  · have hi : i = xs.length := by
      have := (List.getElem?_eq_some_iff.mp hu).1
      simp at this
      omega
    subst hi
    rw [List.getElem?_append_right (Nat.le_refl _)] at hu
    rw [hl, List.getElem?_append_right (Nat.le_refl _)] at hv
    simp at hu hv
    subst hu hv
    refine ⟨p, ?_, hp⟩
    rw [← h.1, List.getElem?_append_right (Nat.le_refl _)]
    simp
section
variable {X : Cx} {pins : List (Addr × Obj)} {σ : L2.St}
/-- one more drawn: the tuple is laid, the zip's own objects have turned -/
theorem z_inv {s : Shared} {H : Hp} {z TI TO i1 i2 a b : Addr} {k : Nat} {x y : V} {u v : Value} {h' : Heap} (I : Inv X pins σ H s) (hf : ∀ c ∈ [z, TI, TO, i1, i2], FpOk X pins H c) (hz : ZAt s.heap z TI TO i1 i2 a b k) (ru : RelV x u) (rv : RelV y v) (q : ZNext s z TI TO i1 i2 a b k u v h') :
    Inv X pins σ (upd H s.heap.objs.size (.tup [x, y])) { s with heap := h' } ∧ (∀ c ∈ [z, TI, TO, i1, i2], FpOk X pins (upd H s.heap.objs.size (.tup [x, y])) c) ∧ H s.heap.objs.size = none := by
  obtain ⟨hz', hp, hsz, hk⟩ := q
  have J : Inv X pins σ (upd H s.heap.objs.size (.tup [x, y])) { s with heap := s.heap.push { cls := .type "tuple", data := .seq #[u, v] } } :=
    I.laid (t' := s.toks) (fun b u e => Heap.get?_push_of_some _ e) (Nat.le_refl _) ⟨by show 2 ≤ sizeLine; decide, [u, v], .cons ru (.cons rv .nil), ⟨_, Heap.get?_push_size _ rfl, rfl, _, rfl⟩⟩
  have lt : ∀ c ∈ [z, TI, TO, i1, i2], c < s.heap.objs.size := fun c hc => by
    simp only [List.mem_cons, List.not_mem_nil, or_false] at hc
    rcases hc with rfl | rfl | rfl | rfl | rfl
    · exact let ⟨_, _, _, e⟩ := hz.z; Heap.lt_size e
    · exact Heap.lt_size hz.ti
    · exact let ⟨_, _, e⟩ := hz.to; Heap.lt_size e
    · exact let ⟨_, e, _⟩ := hz.i1; Heap.lt_size e
    · exact let ⟨_, e, _⟩ := hz.i2; Heap.lt_size e
  have hf' : ∀ c ∈ [z, TI, TO, i1, i2], FpOk X pins (upd H s.heap.objs.size (.tup [x, y])) c := fun c hc => ⟨by rw [upd_ne (Nat.ne_of_lt (lt c hc))]; exact (hf c hc).1, (hf c hc).2⟩
  refine ⟨?_, hf', I.fresh⟩
  refine L2.Inv.turnedL (s := { s with heap := s.heap.push { cls := .type "tuple", data := .seq #[u, v] } }) (t' := s.toks) (ch := [z, TI, TO, i1, i2]) J (fun c o hc e => ?_) hf'
  simp only [List.mem_cons, List.not_mem_nil, or_false, not_or] at hc
  by_cases ec : c = s.heap.objs.size
  · subst ec
    rw [Heap.get?_push_size _ rfl] at e
    cases e
    exact hp
  · rw [Heap.get?_push_ne _ _ _ ec] at e
    exact hk c o hc.1 hc.2.2.1 hc.2.2.2.1 hc.2.2.2.2 e
theorem lz_loop {z TI TO i1 i2 a b S : Addr} {xs ys : List V} {A : Around} {R : Result → Shared → Prop} {res : Value} (D : ZipApart z TI TO i1 i2 a b) (hh : A.handled = none) (hl : xs.length = ys.length) (hsz : xs.length ≤ sizeLine) (hS : S ∉ [z, TI, TO, i1, i2]) :
    ∀ (k i : Nat) (s : Shared) (H : Hp) (ls : List V), xs.length - i = k → i ≤ xs.length → Inv X pins σ H s → ZAt s.heap z TI TO i1 i2 a b i → H a = some (.tup xs) → H b = some (.tup ys) → H S = some (.lst ls) → ZL H ls (xs.take i) (ys.take i) → (∀ c ∈ [z, TI, TO, i1, i2], FpOk X pins H c) →
      (∀ s' H' ls', Inv X pins σ H' s' → (∀ c o, c ≠ S → H c = some o → H' c = some o) → H' S = some (.lst ls') → ZL H' ls' xs ys → R (.ok (.ret res)) s') →
      codeAny (model X.prog X.w) A (.builtin "list.extend.loop" ⟨[.ref S, .ref z, res], []⟩) R s := by
  intro k
  induction k with
  | zero =>
    intro i s H ls hk hi I hz ha hb hSl hZ hf hR
    have hin : i = xs.length := by omega
    subst hin
    obtain ⟨its1, rv1, p1, _⟩ := I.tuple (SqT.of ha)
    have l1 := rv1.length
    refine codeAny_builtin F.entry_extend_loop ?_
    rw [Around.under_plainId F.plain_extend_loop _]
    show wpAny _ A.in1 (pyNext (Value.ref z) >>= _) _ _ s
    refine wpAny_bind (z_pnone hh D hz p1 (by simp; omega) fun h' hk' => wpAny_pure ?_)
    rw [List.take_length, hl, List.take_length] at hZ
    refine hR _ H ls ?_ (fun _ _ _ e => e) hSl hZ
    refine L2.Inv.turnedL (t' := s.toks) (ch := [z, TI, TO, i1, i2]) I (fun c o hc e => ?_) hf
    simp only [List.mem_cons, List.not_mem_nil, or_false, not_or] at hc
    exact hk' c o hc.1 hc.2.2.2.1 e
  | succ k ih =>
    intro i s H ls hk hi I hz ha hb hSl hZ hf hR
    have hlt : i < xs.length := by omega
    obtain ⟨its1, rv1, p1, _⟩ := I.tuple (SqT.of ha)
    obtain ⟨its2, rv2, p2, _⟩ := I.tuple (SqT.of hb)
    have hx : xs[i]? = some xs[i] := List.getElem?_eq_getElem hlt
    have hy : ys[i]? = some (ys[i]'(by omega)) := List.getElem?_eq_getElem (by omega)
    obtain ⟨u, hu, ru⟩ := rv1.get hx
    obtain ⟨v, hv, rv⟩ := rv2.get hy
    refine codeAny_builtin F.entry_extend_loop ?_
    rw [Around.under_plainId F.plain_extend_loop _]
    show wpAny _ A.in1 (pyNext (Value.ref z) >>= _) _ _ s
    refine wpAny_bind (z_pn D hz p1 p2 (x := u) (y := v) (by simpa using hu) (by simpa using hv) fun h' q => ?_)
    obtain ⟨J, hf', hfr⟩ := z_inv I hf hz ru rv q
    generalize hT : s.heap.objs.size = T at J hf' hfr q
    have nST : S ≠ T := ne_of_none hSl hfr
    have gS : upd H T (.tup [xs[i], ys[i]'(by omega)]) S = some (.lst ls) := by rw [upd_ne nST]; exact hSl
    obtain ⟨zS, its, n, rS, hlS, eS⟩ := J.lstM gS
    have hls := hZ.1
    rw [List.length_take] at hls
    show wpAny _ A.in1 (updateSeq S (·.push (Value.ref T)) >>= _) _ _ _
    refine wpAny_bind ?_
    have J3 := J.lset (its' := its ++ [Value.ref T]) (ys := ls ++ [.ref T]) (f := (·.push (Value.ref T))) (t' := s.toks) gS eS (by simp) (rS.append (.cons (show RelV (V.ref T) (Value.ref T) from rfl) .nil)) (by rw [List.length_append, List.length_singleton]; omega)
    refine wpAny_updateSeq eS rfl (wpAny_pure ⟨plainId_quiet F.plain_extend_loop _, ih (i + 1) _ _ (ls ++ [.ref T]) (by omega) hlt J3 ?_ ?_ ?_ upd_same ?_ (fun c hc => ?_) fun s' H' ls' I' hk' g1 g2 => ?_⟩) (by rw [List.size_toArray]; omega) (by show (its.toArray.push (Value.ref T)).size ≤ sizeLine + 1; rw [Array.size_push, List.size_toArray]; omega)
    · exact q.1.keep fun c hc o e => (Heap.get?_update_other _ _ (fun y : S = c => hS (y ▸ hc))).trans e
    · rw [upd_ne (by rintro rfl; rw [ha] at hSl; cases hSl), upd_ne (ne_of_none ha hfr)]
      exact ha
    · rw [upd_ne (by rintro rfl; rw [hb] at hSl; cases hSl), upd_ne (ne_of_none hb hfr)]
      exact hb
    · rw [List.take_succ_eq_append_getElem hlt, List.take_succ_eq_append_getElem (by omega : i < ys.length)]
      refine hZ.snoc (by rw [List.length_take, List.length_take]; omega) (fun r us e => ?_) ?_
      · rw [upd_ne (by rintro rfl; rw [e] at hSl; cases hSl), upd_ne (ne_of_none e hfr)]
        exact e
      · rw [upd_ne nST.symm, upd_same]
    · have nc : c ≠ S := fun y => hS (y ▸ hc)
      exact ⟨by rw [upd_ne nc]; exact (hf' c hc).1, (hf' c hc).2⟩
    · refine hR s' H' ls' I' (fun c o hc e => hk' c o hc ?_) g1 g2
      rw [upd_ne hc, upd_ne (ne_of_none e hfr)]
      exact e
theorem zip_nolen : typeLookup (.type "zip") "__len__" = pure none := by rw [typeLookup_type, builtinLookup_eq_fast]; kernel_rfl
theorem zip_nohint : typeLookup (.type "zip") "__length_hint__" = pure none := by rw [typeLookup_type, builtinLookup_eq_fast]; kernel_rfl
theorem z_hint {prog : Program} {w : World} {A : Around} {E : Value → Shared → Prop} {s : Shared} {z : Addr} {Q : Bool → Shared → Prop} (hT : s.TypeIs (.ref z) "zip") (h : Q true s) : wpAny (model prog w) A (Builtin.List.listLengthHint (.ref z)) Q E s := by
  unfold Builtin.List.listLengthHint
  refine wpAny_bind (wpAny_specialOf hT zip_nolen ?_)
  show wpAny _ _ (specialOf (Value.ref z) (Str.ofString "__length_hint__") >>= _) _ _ _
  exact wpAny_bind (wpAny_specialOf hT zip_nohint (wpAny_pure h))
def tLZ (K : PySem.W.Frag) (ta : TA) : TE := fun σ H Q => ta σ H fun vs H1 => ∃ a b xs ys, vs = [.ref a, .ref b] ∧ H1 a = some (.tup xs) ∧ H1 b = some (.tup ys) ∧ xs.length = ys.length ∧ ∀ l ls H2, Same H1 H2 → H1 l = none → H2 l = some (.lst ls) → ZL H2 ls xs ys → Q (.ref l) H2
theorem lz_list {s : Shared} {H : Hp} {z TI TO i1 i2 a b : Addr} {xs ys : List V} {Q : VK} (hc : X.calm = true) (D : ZipApart z TI TO i1 i2 a b) (I : Inv X pins σ H s) (hz : ZAt s.heap z TI TO i1 i2 a b 0) (hf : ∀ c ∈ [z, TI, TO, i1, i2], FpOk X pins H c) (ha : H a = some (.tup xs)) (hb : H b = some (.tup ys)) (hl : xs.length = ys.length)
    (q : ∀ l ls H2, Same H H2 → H l = none → H2 l = some (.lst ls) → ZL H2 ls xs ys → Q (.ref l) H2) : wpAny (model X.prog X.w) X.A (call (.type "list") [.ref z]) (EP X pins σ Q) X.xe s := by
  have hsz : xs.length ≤ sizeLine := (I.tuple (SqT.of ha)).choose_spec.2.2
  have lt : ∀ c ∈ [z, TI, TO, i1, i2], c < s.heap.objs.size := fun c hc => by
    simp only [List.mem_cons, List.not_mem_nil, or_false] at hc
    rcases hc with rfl | rfl | rfl | rfl | rfl
    · exact let ⟨_, _, _, e⟩ := hz.z; Heap.lt_size e
    · exact Heap.lt_size hz.ti
    · exact let ⟨_, _, e⟩ := hz.to; Heap.lt_size e
    · exact let ⟨_, e, _⟩ := hz.i1; Heap.lt_size e
    · exact let ⟨_, e, _⟩ := hz.i2; Heap.lt_size e
  refine callType_codes (Q₁ := fun obj s₁ => obj = .ref s.heap.objs.size ∧ s₁ = { s with heap := s.heap.push { cls := .type "list", data := .seq #[] } }) PySem.F.called_list (PySem.F.typeCall_list_1 _) PySem.F.entry_list_init (code_list_new _ ⟨rfl, rfl⟩) fun obj s₁ g => ?_
  obtain ⟨rfl, rfl⟩ := g
  have J : Inv X pins σ (upd H s.heap.objs.size (.lst [])) { s with heap := s.heap.push { cls := .type "list", data := .seq #[] } } := I.lnew (ys := []) (its := []) (t' := s.toks) .nil (Nat.zero_le _)
  have hfr := I.fresh
  have zJ : ZAt (s.heap.push { cls := .type "list", data := .seq #[] }) z TI TO i1 i2 a b 0 := hz.keep fun c _ o e => Heap.get?_push_of_some _ e
  have fJ : ∀ c ∈ [z, TI, TO, i1, i2], FpOk X pins (upd H s.heap.objs.size (.lst [])) c := fun c hc => ⟨by rw [upd_ne (Nat.ne_of_lt (lt c hc))]; exact (hf c hc).1, (hf c hc).2⟩
  have gS : (s.heap.push { cls := .type "list", data := .seq #[] }).get? s.heap.objs.size = some { cls := .type "list", data := .seq #[] } := Heap.get?_push_size _ rfl
  refine ⟨⟨_, gS, rfl⟩, PySem.F.args_list_init_2 _ _, ?_⟩
  have nS : s.heap.objs.size ∉ [z, TI, TO, i1, i2] := fun y => Nat.lt_irrefl _ (lt _ y)
  generalize hS : s.heap.objs.size = S at J fJ gS hfr nS
  generalize hh1 : s.heap.push { cls := .type "list", data := .seq #[] } = h1 at J zJ gS
  show wpAny _ _ (do let old ← Builtin.List.listItems (.ref S); Builtin.List.listUpdate (.ref S) (fun _ => #[]); letGo old.toList.reverse; Builtin.List.listExtendWith (.ref S) (.ref z) .none) _ _ _
  refine wpAny_bind ?_
  unfold Builtin.List.listItems
  refine wpAny_bind (wpAny_seqItems gS rfl (wpAny_pure ?_))
  show wpAny _ _ (updateSeq S (fun _ => #[]) >>= fun _ => letGo (#[] : Array Value).toList.reverse >>= fun _ => Builtin.List.listExtendWith (.ref S) (.ref z) .none) _ _ _
  refine wpAny_bind (wpAny_updateSeq gS rfl ?_)
  have J2 := J.lset (its := []) (its' := []) (ys := []) (n := 0) (f := fun _ => (#[] : Array Value)) (t' := s.toks) upd_same gS rfl .nil (Nat.zero_le _)
  rw [upd_upd] at J2
  have g2 := Heap.get?_update_self (Obj.mapSeq (fun _ => (#[] : Array Value))) gS rfl
  have z2 : ZAt (h1.update S (Obj.mapSeq (fun _ => (#[] : Array Value)))) z TI TO i1 i2 a b 0 := zJ.keep fun c hc o e => (Heap.get?_update_other _ _ (fun y : S = c => nS (y ▸ hc))).trans e
  generalize h1.update S (Obj.mapSeq (fun _ => (#[] : Array Value))) = h2 at J2 g2 z2
  refine wpAny_bind (wpAny_letGo ?_)
  unfold Builtin.List.listExtendWith
  have hT : Shared.TypeIs { s with heap := h2 } (.ref z) "zip" := let ⟨_, _, _, e⟩ := z2.z; ⟨_, e, rfl⟩
  refine wpAny_bind (wpAny_typeOf (T := "zip") hT ?_)
  have nz : S ≠ z := fun y => nS (y ▸ by simp)
  have e1 : Builtin.List.listSameRef (.ref S) (.ref z) = false := by simp [Builtin.List.listSameRef, nz]
  have e2 : (Value.type "zip" == Value.type "list") = false := by decide
  have e3 : (Value.type "zip" == Value.type "tuple") = false := by decide
  simp only [e1, e2, e3, Bool.or_false, Bool.false_eq_true, if_false]
  refine wpAny_bind (z_self z2 ?_)
  refine wpAny_bind (wpAny_holding (z_hint hT ?_))
  simp only [Bool.true_or, if_true]
  refine wpAny_bind (wpAny_rule (wpAny_bind ?_))
  show wpAny _ _ (updateSeq S (·.push .none) >>= fun _ => updateSeq S (·.pop)) _ _ _
  refine wpAny_bind (wpAny_updateSeq g2 rfl ?_)
  have J3 := J2.lset (its := []) (its' := [.none]) (ys := [.non]) (n := _) (f := (·.push Value.none)) (t' := s.toks) upd_same g2 rfl (.cons rfl .nil) (by show 1 ≤ sizeLine; decide)
  rw [upd_upd] at J3
  have g3 := Heap.get?_update_self (Obj.mapSeq (·.push Value.none)) g2 rfl
  have z3 : ZAt (h2.update S (Obj.mapSeq (·.push Value.none))) z TI TO i1 i2 a b 0 := z2.keep fun c hc o e => (Heap.get?_update_other _ _ (fun y : S = c => nS (y ▸ hc))).trans e
  generalize h2.update S (Obj.mapSeq (·.push Value.none)) = h3 at J3 g3 z3
  refine wpAny_updateSeq (hz := by seq_fits) g3 rfl ?_
  have J4 := J3.lset (its := [.none]) (its' := []) (ys := []) (n := _) (f := (·.pop)) (t' := s.toks) upd_same g3 rfl .nil (Nat.zero_le _)
  rw [upd_upd] at J4
  have z4 : ZAt (h3.update S (Obj.mapSeq (·.pop))) z TI TO i1 i2 a b 0 := z3.keep fun c hc o e => (Heap.get?_update_other _ _ (fun y : S = c => nS (y ▸ hc))).trans e
  generalize h3.update S (Obj.mapSeq (·.pop)) = h4 at J4 z4
  refine wpAny_pure ⟨plainId_quiet PySem.F.plain_extend_loop _, lz_loop (A := X.A.in1) (S := S) (xs := xs) (ys := ys) D (show X.A.in1.handled = none from I.ok.hd hc) hl hsz nS xs.length 0 _ _ [] (by omega) (Nat.zero_le _) J4 z4 ?_ ?_ upd_same ⟨rfl, fun i x y e => by simp at e⟩ fJ fun s' H' ls' I' hk g1 g2 => ?_⟩
  · rw [upd_ne (ne_of_none ha hfr)]; exact ha
  · rw [upd_ne (ne_of_none hb hfr)]; exact hb
  · refine ⟨rfl, .ref S, H', I', rfl, q S ls' H' (fun c o e => hk c o (ne_of_none e hfr) ?_) hfr g1 g2⟩
    rw [upd_ne (ne_of_none e hfr)]
    exact e
/-- list(zip(t, u)) of two tuples with equally many parts -/
theorem pe_listzip {a b : Expr} {ta : TA} {p p' pos pos' : Pos} (hm : X.mg "list" = none) (hm' : X.mg "zip" = none) (h : PA X [a, b] ta) (hc : X.calm = true := by rfl) (hg : Gl X "list" := by rfl) (hg' : Gl X "zip" := by rfl)
    (h1 : starEach [.Call (.Name "zip" p') [a, b] [] pos'] X.env = [(false, eval (.Call (.Name "zip" p') [a, b] [] pos') X.env)] := by rfl) (hs : starEach [a, b] X.env = [(false, eval a X.env), (false, eval b X.env)] := by rfl) (hs2 : starEach [b] X.env = [(false, eval b X.env)] := by rfl) :
    PE X (.Call (.Name "list" p) [.Call (.Name "zip" p') [a, b] [] pos'] [] pos) (tLZ X.K ta) := by
  intro pins s σ H Q I hw
  refine Call_ (ld_blt I hg hm bt_list (PyProof.Rows.callWith_type1 ?_ h1 rfl))
  rw [h1]
  refine Calls.spliced_cons ?_
  refine Call_ (ld_blt I hg' hm' bt_zip (PyProof.Rows.callWith_type1 (thn (h pos' pins s σ H _ I hw) fun us s1 ⟨vs, H1, I1, r1, q1⟩ => ?_) (by rw [hs, hs2]) (by rw [hs2]; rfl)))
  obtain ⟨l1, l2, xs, ys, e, ha, hb, hl, q⟩ := q1
  subst e
  obtain ⟨u, u', rfl, ru, ru'⟩ := vals2 r1
  cases ru
  cases ru'
  obtain ⟨its1, rv1, p1, _⟩ := I1.tuple (SqT.of ha)
  obtain ⟨its2, rv2, p2, _⟩ := I1.tuple (SqT.of hb)
  have lt1 : @LT.lt Nat _ l1 s1.heap.objs.size := let ⟨o, ho, _⟩ := p1; Heap.lt_size ho
  have lt2 : @LT.lt Nat _ l2 s1.heap.objs.size := let ⟨o, ho, _⟩ := p2; Heap.lt_size ho
  refine call_zt p1 p2 (Calls.spliced_nil ?_)
  obtain ⟨z5, z4, zz, zk⟩ := zt_all s1.heap l1 l2
  have I2 : Inv X pins σ H1 { s1 with heap := zt5 s1.heap l1 l2 } := I1.kept (t' := s1.toks) zk
  refine lz_list (z := s1.heap.objs.size + 4) (s := { s1 with heap := zt5 s1.heap l1 l2 }) hc (zt_apart lt1 lt2) I2 zz (fun c hc => ?_) ha hb hl q
  have hc' : s1.heap.objs.size ≤ c := by
    simp only [List.mem_cons, List.not_mem_nil, or_false] at hc
    rcases hc with rfl | rfl | rfl | rfl | rfl <;> first | exact Nat.le_refl _ | exact Nat.le_add_right _ _
  exact I1.fpOk hc' (I1.hok.fresh hc')
end
end BF
namespace BF
open PySem
/-! ### reasons -/
end BF
namespace BF
open PySem
/-! ### lines with any reasons: whether all follow -/
end BF
namespace BF
open PySem
/-! ### filling by a function -/
mutual
def Tm.sub (φ : Str → Tm) : Tm → Tm
  | .num n => .num n
  | .name w => .name w
  | .blank w => φ w
  | .thing w ps => .thing w (subL φ ps)
def subL (φ : Str → Tm) : List Tm → List Tm
  | [] => []
  | p :: r => p.sub φ :: subL φ r
end
theorem subL_map (φ : Str → Tm) (ps : List Tm) : subL φ ps = ps.map (Tm.sub φ) := by
  induction ps with
  | nil => rfl
  | cons p r ih => simp only [subL, ih, List.map_cons]
theorem subL_len (φ : Str → Tm) (ps : List Tm) : (subL φ ps).length = ps.length := by rw [subL_map, List.length_map]
def fsub (f : Fl) : Str → Tm := fun w => (look f w).getD (.blank w)
theorem fill_sub (f : Fl) (t : Tm) : t.fill f = t.sub (fsub f) := by
  refine Tm.ind (P := fun t => t.fill f = t.sub (fsub f)) (fun _ => rfl) (fun _ => rfl) (fun _ => rfl) (fun w ps ih => ?_) t
  simp only [Tm.fill, Tm.sub, fillL_map, subL_map]
  rw [List.map_congr_left ih]
theorem mem_blL {w : Str} {ps : List Tm} : w ∈ blL ps ↔ ∃ p ∈ ps, w ∈ p.bl := by
  induction ps with
  | nil => simp [blL]
  | cons p r ih => simp [blL, ih]
theorem sub_congr {φ ψ : Str → Tm} (t : Tm) : (∀ w ∈ t.bl, φ w = ψ w) → t.sub φ = t.sub ψ := by
  refine Tm.ind (P := fun t => (∀ w ∈ t.bl, φ w = ψ w) → t.sub φ = t.sub ψ) (fun _ _ => rfl) (fun _ _ => rfl) (fun w h => h w (by simp [Tm.bl])) (fun w ps ih h => ?_) t
  simp only [Tm.sub, subL_map]
  rw [List.map_congr_left fun p hp => ih p hp fun x hx => h x (by simp only [Tm.bl]; exact mem_blL.mpr ⟨p, hp, hx⟩)]
theorem sub_blank (t : Tm) : t.sub Tm.blank = t := by
  refine Tm.ind (P := fun t => t.sub Tm.blank = t) (fun _ => rfl) (fun _ => rfl) (fun _ => rfl) (fun w ps ih => ?_) t
  simp only [Tm.sub, subL_map]
  rw [List.map_congr_left ih, List.map_id']
/-- things are made alike where their parts are -/
theorem thing_sub {φ : Str → Tm} {w v : Str} {ps qs : List Tm} : (Tm.thing w ps).sub φ = .thing v qs ↔ w = v ∧ ps.length = qs.length ∧ ∀ z ∈ ps.zip qs, z.1.sub φ = z.2 := by
  simp only [Tm.sub, subL_map, Tm.thing.injEq]
  refine and_congr_right fun _ => ?_
  induction ps generalizing qs with
  | nil => cases qs <;> simp
  | cons p r ih =>
    cases qs with
    | nil => simp
    | cons q s =>
      simp only [List.map_cons, List.cons.injEq, ih, List.length_cons, Nat.add_right_cancel_iff, List.zip_cons_cons, List.mem_cons, forall_eq_or_imp]
      exact ⟨fun ⟨a, b, c⟩ => ⟨b, a, c⟩, fun ⟨b, a, c⟩ => ⟨a, b, c⟩⟩
/-- all that tells a term but what stands within its parts -/
theorem bl_go {a : List Int} {t u : Tm} (h : go a t = some u) : ∀ w ∈ u.bl, w ∈ t.bl := by
  induction a generalizing t with
  | nil => cases h; exact fun _ h => h
  | cons i r ih =>
    cases t with
    | thing v ps =>
      simp only [go] at h
      split at h
      · cases e : ps[i.toNat]? with
        | none => rw [e] at h; cases h
        | some p =>
          rw [e] at h
          intro w hw
          simp only [Tm.bl]
          exact mem_blL.mpr ⟨p, List.mem_of_getElem? e, ih h w hw⟩
      · cases h
    | num n => cases h
    | name n => cases h
    | blank n => cases h
theorem go_snoc {a : List Int} {t : Tm} {w : Str} {ps : List Tm} {k : Nat} {u : Tm} (h : go a t = some (.thing w ps)) (hu : ps[k]? = some u) : go (a ++ [(k : Int)]) t = some u := by
  rw [go_append, h]
  show go [(k : Int)] (.thing w ps) = some u
  simp only [go]
  rw [if_pos (by omega), Int.toNat_natCast, hu]
theorem go_sub {φ : Str → Tm} {a : List Int} {t u : Tm} (h : go a t = some u) : go a (t.sub φ) = some (u.sub φ) := by
  induction a generalizing t with
  | nil => cases h; rfl
  | cons i r ih =>
    cases t with
    | thing v ps =>
      simp only [go] at h
      split at h
      · rename_i c
        cases e : ps[i.toNat]? with
        | none => rw [e] at h; cases h
        | some p =>
          rw [e] at h
          simp only [Tm.sub, subL_map, go]
          rw [if_pos c, List.getElem?_map, e]
          exact ih h
      · cases h
    | num n => cases h
    | name n => cases h
    | blank n => cases h
/-! ### matching -/
/-- a pattern's part, the term's, and the path to both -/
abbrev Mt := Tm × Tm × List Int
structure MInv (pat term : Tm) (cs : List Mt) (tm : Fl) (ph : List (Str × List Int)) : Prop where
  at' : ∀ c ∈ cs, go c.2.2 pat = some c.1 ∧ go c.2.2 term = some c.2.1
  dom : ph.map (·.1) = tm.map (·.1)
  nd : (tm.map (·.1)).Nodup
  pl : ∀ z ∈ tm.zip ph, go z.2.2 pat = some (.blank z.1.1) ∧ go z.2.2 term = some z.1.2
  sol : ∀ φ : Str → Tm, pat.sub φ = term ↔ (∀ c ∈ cs, c.1.sub φ = c.2.1) ∧ ∀ z ∈ tm, φ z.1 = z.2
theorem MInv.start (pat term : Tm) : MInv pat term [(pat, term, [])] [] [] where
  at' := fun c hc => by cases List.mem_singleton.mp hc; exact ⟨rfl, rfl⟩
  dom := rfl
  nd := .nil
  pl := fun z hz => by simp at hz
  sol := fun φ => by simp
variable {pat term : Tm} {cs : List Mt} {tm : Fl} {ph : List (Str × List Int)}
theorem MInv.put {w : Str} {p : Tm} {a : List Int} (h : MInv pat term (cs ++ [(.blank w, p, a)]) tm ph) (hw : w ∉ tm.map (·.1)) : MInv pat term cs (tm ++ [(w, p)]) (ph ++ [(w, a)]) where
  at' := fun c hc => h.at' c (by simp [hc])
  dom := by simp [h.dom]
  nd := by
    rw [List.map_append]
    exact List.nodup_append.mpr ⟨h.nd, by simp, fun x hx y hy => by simp at hy; rintro rfl; subst hy; exact hw hx⟩
  pl := fun z hz => by
    have hl : tm.length = ph.length := by have := congrArg List.length h.dom; simpa using this.symm
    rw [List.zip_append hl] at hz
    rcases List.mem_append.mp hz with y | y
    · exact h.pl z y
    · simp at y
      subst y
      exact h.at' (.blank w, p, a) (by simp)
  sol := fun φ => by
    rw [h.sol φ]
    constructor
    · rintro ⟨h1, h2⟩
      refine ⟨fun c hc => h1 c (by simp [hc]), fun z hz => ?_⟩
      rcases List.mem_append.mp hz with y | y
      · exact h2 z y
      · cases List.mem_singleton.mp y
        exact h1 (.blank w, p, a) (by simp)
    · rintro ⟨h1, h2⟩
      refine ⟨fun c hc => ?_, fun z hz => h2 z (by simp [hz])⟩
      rcases List.mem_append.mp hc with y | y
      · exact h1 c y
      · cases List.mem_singleton.mp y
        exact h2 (w, p) (by simp)
theorem MInv.kept {w : Str} {p : Tm} {a : List Int} (h : MInv pat term (cs ++ [(.blank w, p, a)]) tm ph) (hw : (w, p) ∈ tm) : MInv pat term cs tm ph where
  at' := fun c hc => h.at' c (by simp [hc])
  dom := h.dom
  nd := h.nd
  pl := h.pl
  sol := fun φ => by
    rw [h.sol φ]
    refine ⟨fun ⟨h1, h2⟩ => ⟨fun c hc => h1 c (by simp [hc]), h2⟩, fun ⟨h1, h2⟩ => ⟨fun c hc => ?_, h2⟩⟩
    rcases List.mem_append.mp hc with y | y
    · exact h1 c y
    · cases List.mem_singleton.mp y
      exact h2 (w, p) hw
theorem MInv.leaf {t : Tm} {a : List Int} (h : MInv pat term (cs ++ [(t, t, a)]) tm ph) (ht : ∀ φ, t.sub φ = t) : MInv pat term cs tm ph where
  at' := fun c hc => h.at' c (by simp [hc])
  dom := h.dom
  nd := h.nd
  pl := h.pl
  sol := fun φ => by
    rw [h.sol φ]
    refine ⟨fun ⟨h1, h2⟩ => ⟨fun c hc => h1 c (by simp [hc]), h2⟩, fun ⟨h1, h2⟩ => ⟨fun c hc => ?_, h2⟩⟩
    rcases List.mem_append.mp hc with y | y
    · exact h1 c y
    · cases List.mem_singleton.mp y
      exact ht φ
/-- the parts of two things, with their paths, from the last on -/
def within (ps qs : List Tm) (a : List Int) : List Mt := ((ps.zip qs).zipIdx.map fun z => (z.1.1, z.1.2, a ++ [(z.2 : Int)])).reverse
theorem mem_within {ps qs : List Tm} {a : List Int} {c : Mt} : c ∈ within ps qs a ↔ ∃ (k : Nat) (p q : Tm), ps[k]? = some p ∧ qs[k]? = some q ∧ c = (p, q, a ++ [(k : Int)]) := by
  unfold within
  rw [List.mem_reverse, List.mem_map]
  constructor
  · rintro ⟨⟨⟨p, q⟩, k⟩, hz, rfl⟩
    rw [List.mem_zipIdx_iff_getElem?] at hz
    obtain ⟨h1, h2⟩ := List.getElem?_zip_eq_some.mp hz
    exact ⟨k, p, q, h1, h2, rfl⟩
  · rintro ⟨k, p, q, h1, h2, rfl⟩
    exact ⟨((p, q), k), by rw [List.mem_zipIdx_iff_getElem?]; exact List.getElem?_zip_eq_some.mpr ⟨h1, h2⟩, rfl⟩
theorem MInv.parts {w : Str} {ps qs : List Tm} {a : List Int} (h : MInv pat term (cs ++ [(.thing w ps, .thing w qs, a)]) tm ph) (hl : ps.length = qs.length) : MInv pat term (cs ++ within ps qs a) tm ph where
  at' := fun c hc => by
    rcases List.mem_append.mp hc with y | y
    · exact h.at' c (by simp [y])
    · obtain ⟨k, p, q, h1, h2, rfl⟩ := mem_within.mp y
      obtain ⟨g1, g2⟩ := h.at' (.thing w ps, .thing w qs, a) (by simp)
      exact ⟨go_snoc g1 h1, go_snoc g2 h2⟩
  dom := h.dom
  nd := h.nd
  pl := h.pl
  sol := fun φ => by
    have key : (Tm.thing w ps).sub φ = .thing w qs ↔ ∀ c ∈ within ps qs a, c.1.sub φ = c.2.1 := by
      rw [thing_sub]
      constructor
      · rintro ⟨_, _, hz⟩ c hc
        obtain ⟨k, p, q, h1, h2, rfl⟩ := mem_within.mp hc
        exact hz (p, q) (List.mem_of_getElem? (List.getElem?_zip_eq_some.mpr ⟨h1, h2⟩))
      · intro hz
        refine ⟨rfl, hl, fun z hz' => ?_⟩
        obtain ⟨k, hk, e⟩ := List.mem_iff_getElem.mp hz'
        have e' := List.getElem?_eq_getElem hk
        rw [e] at e'
        obtain ⟨h1, h2⟩ := List.getElem?_zip_eq_some.mp e'
        exact hz (z.1, z.2, a ++ [(k : Int)]) (mem_within.mpr ⟨k, _, _, h1, h2, rfl⟩)
    rw [h.sol φ]
    refine ⟨fun ⟨h1, h2⟩ => ⟨fun c hc => ?_, h2⟩, fun ⟨h1, h2⟩ => ⟨fun c hc => ?_, h2⟩⟩
    · rcases List.mem_append.mp hc with y | y
      · exact h1 c (by simp [y])
      · exact key.mp (h1 (.thing w ps, .thing w qs, a) (by simp)) c y
    · rcases List.mem_append.mp hc with y | y
      · exact h1 c (by simp [y])
      · cases List.mem_singleton.mp y
        exact key.mpr fun c hc => h1 c (by simp [hc])
end BF
set_option Elab.async false
set_option linter.all false
set_option maxRecDepth 100000
set_option maxHeartbeats 4000000
namespace K12
open PySem L2 BF
theorem at0' {x : V} {xs : List V} : atI (x :: xs) (0 : Int) = some x := atI_nat (j := 0) rfl
theorem at1' {x y : V} {xs : List V} : atI (x :: y :: xs) (1 : Int) = some y := atI_nat (j := 1) rfl
/-! ### heads; clashes -/
section
variable {P : Program} {w : World} {K : PySem.W.Frag} {mg : Str → Option Value} {base : Heap}
/-- all that tells a term but what stands within its parts -/
def hdL : Tm → List Dt
  | .num n => [.str "number", .int n]
  | .name w => [.str "name", .str w]
  | .blank w => [.str "blank", .str w]
  | .thing w ps => [.str "thing", .str w, .int ps.length]
theorem hdL_ne {t u : Tm} (h : isT t = false ∨ isT u = false) : hdL t ≠ hdL u ↔ t ≠ u := by
  cases t <;> cases u <;> simp [hdL, isT, nm_ne1, nm_ne2, nm_ne3, nm_ne4, nm_ne5, nm_ne6, nm_ne1', nm_ne2', nm_ne3', nm_ne4', nm_ne5', nm_ne6'] at h ⊢
theorem hdL_th {w v : Str} {ps qs : List Tm} : hdL (.thing w ps) ≠ hdL (.thing v qs) ↔ (w ≠ v ∨ ps.length ≠ qs.length) := by
  simp only [hdL, ne_eq, List.cons.injEq, Dt.str.injEq, Dt.int.injEq, true_and, and_true, Int.natCast_inj]
  exact Classical.not_and_iff_not_or_not
def spHd : Sp := fun vs H Q _ => ∃ (v : V) (t : Tm), vs = [v] ∧ TermAt H v t ∧ ∀ x H', Same H H' → DatAt H' x (.tup (hdL t)) → Q x H'
theorem ok_hd {f : Addr} {fd : FuncData} (F : Fun K "head" "head" s_head f fd) (T : Bi mg) : FnOk P w K mg base CX0 1 f fd ["term"] spHd := by
  refine F.ok sc_head (fun vs H Q E h => ?_) (fun cdv A outer s H vs Q E hr h => ?_)
  · obtain ⟨_, _, rfl, _⟩ := h
    rfl
  obtain ⟨v, t, rfl, ht, q⟩ := h
  refine ⟨_, (pss_cons (ps_if (pt_cmpR op_eq (pe_ix ix_tup (pv 0) pe_int (fun _ _ => rfl)) pe_str (nomark _)) (pss_one (ps_ret (pe_tup (pa_cons pe_str (pa_cons (pe_ix ix_tup (pv 0) pe_int (fun _ _ => rfl)) (pa_cons (pe_blt call_len_seq T.b_len bt_len (pa_cons (pe_ix ix_tup (pv 0) pe_int (fun _ _ => rfl)) pa_nil)) pa_nil)))))) pss_nil)
      (pss_one (ps_ret (pv 0)))), ?_⟩
  cases t with
  | num n =>
    obtain ⟨a1, e0, e1⟩ := termAt_num.mp ht
    subst e0
    exact ⟨_, rfl, _, _, _, _, rfl, rfl, SqT.of e1, rfl, rfl, _, rfl, ite_f (by decide +kernel) ⟨_, rfl, q _ H (Same.refl _) ht⟩⟩
  | name n =>
    obtain ⟨a1, e0, e1⟩ := termAt_name.mp ht
    subst e0
    exact ⟨_, rfl, _, _, _, _, rfl, rfl, SqT.of e1, rfl, rfl, _, rfl, ite_f (by decide +kernel) ⟨_, rfl, q _ H (Same.refl _) ht⟩⟩
  | blank n =>
    obtain ⟨a1, e0, e1⟩ := termAt_blank.mp ht
    subst e0
    exact ⟨_, rfl, _, _, _, _, rfl, rfl, SqT.of e1, rfl, rfl, _, rfl, ite_f (by decide +kernel) ⟨_, rfl, q _ H (Same.refl _) ht⟩⟩
  | thing n ps =>
    obtain ⟨a1, b1, us1, e0, e1, g1, k1⟩ := termAt_thing.mp ht
    subst e0
    have l1 := k1.len
    refine ⟨_, rfl, _, _, _, _, rfl, rfl, SqT.of e1, rfl, rfl, _, rfl, ite_t (by decide +kernel) ⟨_, rfl, _, _, _, _, rfl, rfl, SqT.of e1, rfl, _, rfl, _, _, _, _, rfl, rfl, SqT.of e1, rfl, b1, us1, rfl, .inr (SqT.of g1), (by show 3 ≤ sizeLine; decide), fun g fg => ?_⟩⟩
    refine q _ _ (same_new fg _) ?_
    simp only [hdL, DatAt, DatsAt]
    exact ⟨g, _, rfl, upd_same, _, _, rfl, rfl, _, _, rfl, rfl, _, _, rfl, by rw [l1], rfl⟩
end
/-! ### the program's look at two terms -/
section
variable {P : Program} {w : World} {K : PySem.W.Frag} {mg : Str → Option Value} {base : Heap}
theorem hdL_dep (t : Tm) : (Dt.tup (hdL t)).dep ≤ 4 := by
  cases t <;> simp [hdL, Dt.dep, depL]
/-- pairs of terms in a list -/
def Prs (H : Hp) (us : List V) (ps : List Ln) : Prop := Paired (fun x p => ∃ g a b, x = .ref g ∧ H g = some (.tup [a, b]) ∧ TermAt H a p.1 ∧ TermAt H b p.2) us ps
theorem Prs.mono {H H' : Hp} {us : List V} {ps : List Ln} (k : TSame H H') (h : Prs H us ps) : Prs H' us ps :=
  paired_mono (fun _ _ ⟨g, a, b, e, h1, h2, h3⟩ => ⟨g, a, b, e, k _ _ h1, h2.mono k, h3.mono k⟩) h
theorem Prs.snoc {H : Hp} : ∀ {us : List V} {u : V} {ds : List Ln} {d : Ln}, Prs H (us ++ [u]) (ds ++ [d]) → Prs H us ds ∧ ∃ g a b, u = .ref g ∧ H g = some (.tup [a, b]) ∧ TermAt H a d.1 ∧ TermAt H b d.2
  | [], _, [], _, .cons h .nil => ⟨.nil, h⟩
  | [], _, _ :: [], _, .cons _ r => nomatch r
  | [], _, _ :: _ :: _, _, .cons _ r => nomatch r
  | _ :: [], _, [], _, .cons _ r => nomatch r
  | _ :: _ :: _, _, [], _, .cons _ r => nomatch r
  | _ :: _, _, _ :: _, _, .cons h r => let ⟨a, b⟩ := Prs.snoc r; ⟨.cons h a, b⟩
theorem Prs.app {H : Hp} {us vs : List V} {ps qs : List Ln} (h : Prs H us ps) (h' : Prs H vs qs) : Prs H (us ++ vs) (ps ++ qs) := by
  unfold Prs at h h' ⊢
  induction h with
  | nil => exact h'
  | cons a _ ih => exact .cons a ih
theorem hdL_eq {t u : Tm} (h : hdL t = hdL u) : t = u ∨ ∃ w ps qs, t = .thing w ps ∧ u = .thing w qs ∧ ps.length = qs.length := by
  by_cases c : isT t = false ∨ isT u = false
  · exact .inl (Classical.byContradiction fun z => (hdL_ne c).mpr z h)
  · cases t <;> cases u <;> simp [isT] at c
    rename_i w ps v qs
    have : ¬ (w ≠ v ∨ ps.length ≠ qs.length) := fun z => hdL_th.mpr z h
    have hw : w = v := Classical.byContradiction fun z => this (.inl z)
    have hl : ps.length = qs.length := Classical.byContradiction fun z => this (.inr z)
    subst hw
    exact .inr ⟨w, ps, qs, rfl, rfl, hl⟩
theorem eq_parts {ps qs : List Tm} (hl : ps.length = qs.length) : ps = qs ↔ ∀ z ∈ ps.zip qs, z.1 = z.2 := by
  induction ps generalizing qs with
  | nil => cases qs <;> simp at hl ⊢
  | cons p r ih =>
    cases qs with
    | nil => simp at hl
    | cons q s =>
      simp only [List.length_cons, Nat.add_right_cancel_iff] at hl
      simp only [List.cons.injEq, List.zip_cons_cons, List.mem_cons, forall_eq_or_imp, ih hl]
theorem paired_of_get {α β : Type} {F : α → β → Prop} : ∀ {l : List α} {m : List β}, l.length = m.length → (∀ (i : Nat) (h1 : i < l.length) (h2 : i < m.length), F l[i] m[i]) → Paired F l m
  | [], [], _, _ => .nil
  | _ :: _, _ :: _, hl, h => .cons (h 0 (by simp) (by simp)) (paired_of_get (by simpa using hl) fun i h1 h2 => h (i + 1) (by simpa using h1) (by simpa using h2))
  | [], _ :: _, hl, _ => by simp at hl
  | _ :: _, [], hl, _ => by simp at hl
theorem ZL.prs {H : Hp} {ls xs ys : List V} {ts us : List Tm} (h : ZL H ls xs ys) (h1 : TermsAt H xs ts) (h2 : TermsAt H ys us) (hl : ts.length = us.length) : Prs H ls (ts.zip us) := by
  have l1 := h1.len
  have l2 := h2.len
  refine paired_of_get (by rw [List.length_zip, h.1, l1]; omega) fun i h3 h4 => ?_
  have hi : i < xs.length := by have := h.1; omega
  obtain ⟨p, e1, e2⟩ := h.2 i _ _ (List.getElem?_eq_getElem hi) (List.getElem?_eq_getElem (by omega))
  rw [List.getElem?_eq_getElem h3] at e1
  refine ⟨p, _, _, Option.some.inj e1, e2, ?_, ?_⟩
  · rw [List.getElem_zip]
    exact h1.at i hi (by omega)
  · rw [List.getElem_zip]
    exact h2.at i (by omega) (by omega)
def spSame : Sp := fun vs H Q _ => ∃ (v v' : V) (t u : Tm), vs = [v, v'] ∧ TermAt H v t ∧ TermAt H v' u ∧ t.nodes ≤ 30000 ∧ ∀ (b : Bool) H', Same H H' → (b = true ↔ t = u) → Q (.bl b) H'
theorem ok_same {f : Addr} {fd : FuncData} (F : Fun K "same" "same" s_same f fd) (T : Bi mg) (TZ : mg "zip" = none) (c_head : Cal P w K mg base 1 "head" ["term"] spHd) : FnOk P w K mg base CX0 2 f fd ["one", "other"] spSame := by
  refine F.ok sc_same (fun vs H Q E h => ?_) (fun cdv A outer s H vs Q E hr h => ?_)
  · obtain ⟨_, _, _, _, rfl, _⟩ := h
    rfl
  obtain ⟨v, v', t, u, rfl, ht, hu, hn, q⟩ := h
  have hun := hr.un
  refine ⟨_, (pss_cons (ps_set (i := 2) sc_same.nd rfl (Or.inl rfl) (pe_lst (pa_cons (pe_tup (pa_cons (pv 0) (pa_cons (pv 1) pa_nil))) pa_nil)))
      (pss_cons (ps_while PassesOwn.never (pt_truth (pv 2) (fun _ => rfl)) (pss_cons (ps_set (i := 3) sc_same.nd rfl (Or.inl rfl) (pe_bm0 PySem.F.plainAttrs_list PySem.F.slot_list_pop PySem.F.type_list_pop mt_pop (pv 2)))
        (pss_cons (ps_if (pt_cmpR op_neT (pe_cal c_head (hr.mono (by decide)) (pa_cons (pe_ix ix_tup (pv 3) pe_int (fun _ _ => rfl)) pa_nil)) (pe_cal c_head (hr.mono (by decide)) (pa_cons (pe_ix ix_tup (pv 3) pe_int (fun _ _ => rfl)) pa_nil)) (nomark _)) (pss_one (ps_ret pe_bl)) pss_nil)
        (pss_one (ps_if (pt_cmpR op_eq (pe_ix ix_tup (pe_ix ix_tup (pv 3) pe_int (fun _ _ => rfl)) pe_int (fun _ _ => rfl)) pe_str (nomark _)) (pss_one (ps_expr (pe_bm PySem.F.plainAttrs_list PySem.F.slot_list_extend PySem.F.type_list_extend mt_extend (pv 2) (pa_cons (pe_listzip T.b_list TZ (pa_cons (pe_ix ix_tup (pe_ix ix_tup (pv 3) pe_int (fun _ _ => rfl)) pe_int (fun _ _ => rfl)) (pa_cons (pe_ix ix_tup (pe_ix ix_tup (pv 3) pe_int (fun _ _ => rfl)) pe_int (fun _ _ => rfl)) pa_nil))) pa_nil)))) pss_nil)))))
      (pss_one (ps_ret pe_bl)))), ?_⟩
  refine ⟨_, rfl, _, rfl, (by show 2 ≤ sizeLine; decide), fun g0 hg0 => ?_⟩
  have s1 := same_new hg0 (HO.tup [v, v'])
  have x1 : upd H g0 (HO.tup [v, v']) g0 = some _ := upd_same
  generalize upd H g0 (HO.tup [v, v']) = H1 at s1 x1 ⊢
  refine ⟨(by show 1 ≤ sizeLine; decide), fun p hp1 => ?_⟩
  have hp : H p = none := s1.free hp1
  have s2 := same_new hp1 (HO.lst [.ref g0])
  refine ⟨fun m σ H3 => ∃ (o : Option V) (us : List V) (ps : List Ln), σ = [some v, some v', some (.ref p), o] ∧ Same H H3 ∧ H3 p = some (.lst us) ∧ Prs H3 us ps ∧ nodesL (ps.map (·.1)) = m ∧ m ≤ t.nodes ∧ ((∀ z ∈ ps, z.1 = z.2) ↔ t = u),
    ⟨_, none, [.ref g0], [(t, u)], rfl, s1.trans s2, upd_same, .cons ⟨g0, v, v', rfl, s2 _ _ x1, ht.mono (.of (s1.trans s2)), hu.mono (.of (s1.trans s2))⟩ .nil, rfl, by simp [nodesL], by simp⟩, ?_⟩
  rintro m σ H3 ⟨o, us, ps, rfl, s3, g2, hps, hm, hmt, hiff⟩
  refine ⟨_, rfl, _, .inl ⟨us, SqL.of g2, rfl⟩, ite2 (fun c => ⟨_, fun _ _ h => h, ?_⟩) (fun c => ?_)⟩
  · have hne : us ≠ [] := by intro z; rw [z] at c; exact absurd c (by decide)
    have hlen := Paired.length hps
    obtain ⟨us0, x, rfl⟩ := snoc_of hne
    obtain ⟨ps0, ⟨t1, u1⟩, rfl⟩ := snoc_of (l := ps) (by intro z; rw [z] at hlen; simp at hlen)
    obtain ⟨h0, g, a, b, rfl, hg, ha, hb⟩ := hps.snoc
    rw [List.map_append, nodesL_append] at hm
    simp only [List.map_cons, List.map_nil, nodesL] at hm
    have hn1 := t1.nodes_pos
    refine ⟨_, rfl, .inl ⟨rfl, _, SqL.of g2⟩, p, _, .ref g, rfl, rfl, g2, by simp, ?_⟩
    rw [List.dropLast_concat]
    have k4 : TSame H3 (upd H3 p (HO.lst us0)) := .lst g2
    have x4 : upd H3 p (HO.lst us0) p = some _ := upd_same
    have s4 : Same H (upd H3 p (HO.lst us0)) := fun b ob z => by rw [upd_ne (ne_of_none z hp)]; exact s3 _ _ z
    generalize upd H3 p (HO.lst us0) = H4 at k4 x4 s4 ⊢
    have hg4 := k4 _ _ hg
    have ha4 := ha.mono k4
    have hb4 := hb.mono k4
    have h04 := h0.mono k4
    refine ⟨_, rfl, _, _, _, _, rfl, rfl, SqT.of hg4, at0', _, t1, rfl, ha4, fun y1 H5 s5 d1 => ?_⟩
    refine ⟨_, rfl, _, _, _, _, rfl, rfl, SqT.of (s5 _ _ hg4), at1', _, u1, rfl, hb4.mono (.of s5), fun y2 H6 s6 d2 => ?_⟩
    have hdd := hdL_dep t1
    refine ⟨hdL t1, hdL u1, d1.same s6, d2, (by show (A.deeper _).units + _ < cLine; omega), fun b hb' => ⟨_, rfl, ite2 (fun c2 => ?_) (fun c2 => ?_)⟩⟩
    · refine q false H6 (s4.trans (s5.trans s6)) ⟨fun z => (by cases z), fun z => ?_⟩
      have := hiff.mpr z (t1, u1) (by simp)
      exact absurd (congrArg hdL this) (hb'.mp c2)
    · have s46 := s5.trans s6
      have heq : hdL t1 = hdL u1 := Classical.byContradiction fun z => c2 (hb'.mpr z)
      have ha6 := ha4.mono (.of s46)
      have hb6 := hb4.mono (.of s46)
      have x6 := s46 _ _ x4
      have hg6 := s46 _ _ hg4
      have h06 := h04.mono (.of s46)
      have s6' := s4.trans s46
      obtain ⟨a1, xs1, kk, rfl, f1, _, hT1⟩ := ha6.kind
      refine ⟨_, rfl, _, _, _, _, rfl, rfl, SqT.of hg6, at0', _, _, _, _, rfl, rfl, SqT.of f1, at0', rfl, _, rfl, ite2 (fun c3 => ?_) (fun c3 => ?_)⟩
      · have c1 : isT t1 = true := hT1.mp (by simpa using c3)
        obtain ⟨w1, ps1, qs1, e1, e2, hl⟩ : ∃ w ps qs, t1 = .thing w ps ∧ u1 = .thing w qs ∧ ps.length = qs.length := by
          rcases hdL_eq heq with z | z
          · subst z
            cases t1 with
            | num _ => cases c1
            | name _ => cases c1
            | blank _ => cases c1
            | thing w ps => exact ⟨w, ps, ps, rfl, rfl, rfl⟩
          · exact z
        subst e1 e2
        obtain ⟨b1, d1', us1, e1, j1, g1, m1⟩ := termAt_thing.mp ha6
        obtain ⟨b2, d2', us2, e2, j2, g2', m2⟩ := termAt_thing.mp hb6
        cases e1
        subst e2
        have l1 := m1.len
        have l2 := m2.len
        have hpn := len_le_nodes ps1
        simp only [Tm.nodes] at hm
        have hlen0 : us0.length ≤ nodesL (ps0.map (·.1)) := by
          have := Paired.length h06
          have := len_le_nodes (ps0.map (·.1))
          rw [List.length_map] at this
          omega
        refine ⟨_, rfl, .inl ⟨rfl, _, SqL.of x6⟩, _, rfl, _, _, _, _, rfl, rfl, SqT.of hg6, at0', _, _, _, _, rfl, rfl, SqT.of j1, rfl, _, rfl, _, _, _, _, rfl, rfl, SqT.of hg6, at1', _, _, _, _, rfl, rfl, SqT.of j2, rfl, d1', d2', us1, us2, rfl, g1, g2', by omega, fun l ls H7 s7 fl x7 hzl => ?_⟩
        refine ⟨p, l, us0, ls, rfl, rfl, s7 _ _ x6, x7, small (by have := hzl.1; omega), ?_⟩
        have k8 : TSame H7 (upd H7 p (HO.lst (us0 ++ ls))) := .lst (s7 _ _ x6)
        refine ⟨nodesL ((ps0 ++ ps1.zip qs1).map (·.1)), ?_, _, us0 ++ ls, ps0 ++ ps1.zip qs1, rfl, fun b' ob z => by rw [upd_ne (ne_of_none z hp)]; exact s7 _ _ (s6' _ _ z), upd_same, (Prs.app (h06.mono (.of s7)) (ZL.prs hzl (m1.mono (.of s7)) (m2.mono (.of s7)) hl)).mono k8, rfl, ?_, ?_⟩
        · rw [List.map_append, nodesL_append, List.map_fst_zip (by omega)]
          omega
        · rw [List.map_append, nodesL_append, List.map_fst_zip (by omega)]
          omega
        · rw [← hiff]
          constructor
          · intro hz z hz'
            rcases List.mem_append.mp hz' with y | y
            · exact hz z (List.mem_append_left _ y)
            · cases List.mem_singleton.mp y
              show Tm.thing w1 ps1 = .thing w1 qs1
              rw [(eq_parts hl).mpr fun z hz' => hz z (List.mem_append_right _ hz')]
          · intro hz z hz'
            rcases List.mem_append.mp hz' with y | y
            · exact hz z (List.mem_append_left _ y)
            · have := hz (.thing w1 ps1, .thing w1 qs1) (by simp)
              exact (eq_parts hl).mp (Tm.thing.inj this).2 z y
      · have c1 : isT t1 = false := Bool.eq_false_iff.mpr fun z => c3 (by simpa using hT1.mpr z)
        have e0 : t1 = u1 := by
          rcases hdL_eq heq with z | ⟨_, _, _, z, _⟩
          · exact z
          · rw [z] at c1; cases c1
        refine ⟨nodesL (ps0.map (·.1)), by omega, _, us0, ps0, rfl, s6', x6, h06, rfl, by omega, ?_⟩
        rw [← hiff]
        constructor
        · intro hz z hz'
          rcases List.mem_append.mp hz' with y | y
          · exact hz z y
          · cases List.mem_singleton.mp y
            exact e0
        · intro hz z hz'
          exact hz z (List.mem_append_left _ hz')
  · have e : us = [] := by
      cases us with
      | nil => rfl
      | cons a b => exact absurd rfl c
    subst e
    have hlen := Paired.length hps
    have e : ps = [] := List.length_eq_zero_iff.mp hlen.symm
    subst e
    exact q true H3 s3 ⟨fun _ => hiff.mp fun z hz => (by cases hz), fun _ => rfl⟩
end
end K12
set_option Elab.async false
set_option linter.all false
set_option maxRecDepth 100000
namespace BF
open PySem PySem.Spec PyProof.Rows L2
open Sem (wp)
/-! ### enumerate of a zip -/
section
variable {prog : Program} {w : World} {A : Around} {E : Value → Shared → Prop} {s : Shared} {z TI TO i1 i2 a b e : Addr} {k : Nat} {xs ys : Array Value} {x y old : Value}
structure ENext (s : Shared) (e z TI TO i1 i2 a b : Addr) (k : Nat) (x y : Value) (h' : Heap) : Prop where
  en : IsEnumOut h' e z ((k : Int) + 1) (.ref s.heap.objs.size) (s.heap.objs.size + 1)
  zz : ZAt h' z TI TO i1 i2 a b (k + 1)
  pr : IsPair h' s.heap.objs.size x y
  tp : h'.get? (s.heap.objs.size + 1) = some { cls := .type "tuple", data := .seq #[.int k s.toks, .ref s.heap.objs.size] }
  kp : ∀ c o, c ∉ [e, z, TI, TO, i1, i2] → s.heap.get? c = some o → h'.get? c = some o
theorem en_next {Q : Value → Shared → Prop} (D : ZipApart z TI TO i1 i2 a b) (he : IsEnum s.heap e z k old) (hne : e ∉ [z, TI, TO, i1, i2]) (hz : ZAt s.heap z TI TO i1 i2 a b k) (t1 : IsTup s.heap a xs) (t2 : IsTup s.heap b ys) (hx : xs[k]? = some x) (hy : ys[k]? = some y)
    (hQ : ∀ h', ENext s e z TI TO i1 i2 a b k x y h' → Q (.ref (s.heap.objs.size + 1)) { s with heap := h', toks := s.toks + 1 }) :
    wpAny (model prog w) A (Builtin.«enumerate.__next__» ⟨[.ref e], []⟩) (fun fin s' => ∃ v, fin = .done (.ret v) ∧ Q v s') E s := by
  obtain ⟨hp, g, d, tk, os⟩ := s
  simp only [List.mem_cons, List.not_mem_nil, or_false, not_or] at hne
  obtain ⟨n1, n2, n3, n4, n5⟩ := hne
  have hel : e < hp.objs.size := Heap.lt_size he
  show wpAny _ _ (field (Value.ref e) 2 >>= _) _ _ _
  refine wpAny_bind (wpAny_field he rfl (x := Value.ref z) rfl (wpAny_bind (z_draw D hz t1 t2 hx hy fun g1 q1 => ?_)))
  obtain ⟨zz1, pr1, sz1, kp1⟩ := q1
  have pr1 : IsPair g1 hp.objs.size x y := pr1
  have sz1 : g1.objs.size = hp.objs.size + 1 := sz1
  have kp1 : ∀ c o, c ≠ z → c ≠ TO → c ≠ i1 → c ≠ i2 → hp.get? c = some o → g1.get? c = some o := kp1
  have e1 : IsEnum g1 e z k old := kp1 _ _ n1 n3 n4 n5 he
  have base : ∀ c ∈ [z, TI, TO, i1, i2], c ≠ e := fun c hc y => by
    subst y
    simp only [List.mem_cons, List.not_mem_nil, or_false] at hc
    rcases hc with y | y | y | y | y <;> contradiction
  show wpAny _ _ (field (Value.ref e) 3 >>= _) _ _ ⟨g1, g, d, tk, os⟩
  refine wpAny_bind (wpAny_field e1 rfl (x := rawInt k) rfl ?_)
  show wpAny _ _ (field (Value.ref e) 4 >>= _) _ _ ⟨g1, g, d, tk, os⟩
  refine wpAny_bind (wpAny_field e1 rfl (x := Value.none) rfl ?_)
  show wpAny _ _ (mkInt k >>= _) _ _ ⟨g1, g, d, tk, os⟩
  refine wpAny_bind (wpAny_mkInt ?_)
  show wpAny _ _ (setField (Value.ref e) 3 (rawInt ((k : Int) + 1)) >>= _) _ _ ⟨g1, g, d, tk + 1, os⟩
  refine wpAny_bind (wpAny_setField_rec e1 (by simp) fun g2 e2 s2 => ?_)
  replace s2 : Heap.SameBut e g1 g2 := s2
  replace e2 : IsEnum g2 e z ((k : Int) + 1) old := e2
  show wpAny _ _ (setField (Value.ref e) 4 Value.none >>= _) _ _ ⟨g2, g, d, tk + 1, os⟩
  refine wpAny_bind (wpAny_setField_rec e2 (by simp) fun g3 e3 s3 => ?_)
  replace s3 : Heap.SameBut e g2 g3 := s3
  replace e3 : IsEnum g3 e z ((k : Int) + 1) old := e3
  show wpAny _ _ (newTuple [Value.int k tk, Value.ref hp.objs.size] >>= _) _ _ ⟨g3, g, d, tk + 1, os⟩
  refine wpAny_bind (wpAny_newTuple ?_)
  have sz3 : g3.objs.size = hp.objs.size + 1 := by rw [s3.1, s2.1, sz1]
  have up3 : ∀ c o, c ≠ e → g1.get? c = some o → g3.get? c = some o := fun c o hc q => s3.extBut _ _ hc (s2.extBut _ _ hc q)
  have e4 : IsEnum (g3.push { cls := .type "tuple", data := .seq #[.int k tk, .ref hp.objs.size] }) e z ((k : Int) + 1) old := Heap.get?_push_of_some _ e3
  have t4 : (g3.push { cls := .type "tuple", data := .seq #[.int k tk, .ref hp.objs.size] }).get? (hp.objs.size + 1) = some { cls := .type "tuple", data := .seq #[.int k tk, .ref hp.objs.size] } := by rw [← sz3]; exact Heap.get?_push_size _ rfl
  have up4 : ∀ c o, c ≠ e → g1.get? c = some o → (g3.push { cls := .type "tuple", data := .seq #[.int k tk, .ref hp.objs.size] }).get? c = some o := fun c o hc q => Heap.get?_push_of_some _ (up3 c o hc q)
  show wpAny _ _ (Builtin.SmallTypes.ownedTupleIsFree (Value.ref e) >>= _) _ _ ⟨g3.push { cls := .type "tuple", data := .seq #[.int k tk, .ref hp.objs.size] }, g, d, tk + 1, os⟩
  rw [sz3]
  generalize g3.push { cls := .type "tuple", data := .seq #[.int k tk, .ref hp.objs.size] } = g4 at e4 t4 up4
  refine wpAny_bind ?_
  unfold Builtin.SmallTypes.ownedTupleIsFree
  refine wpAny_bind (wpAny_field e4 rfl (x := Value.none) rfl (wpAny_pure ?_))
  simp only [if_true]
  refine wpAny_bind (wpAny_rule (wpAny_bind (wpAny_field e4 rfl (x := old) rfl ?_)))
  refine wpAny_bind (wpAny_setField_rec e4 (by simp) fun g5 e5 s5 => ?_)
  replace s5 : Heap.SameBut e g4 g5 := s5
  replace e5 : IsEnum g5 e z ((k : Int) + 1) (.ref hp.objs.size) := e5
  show wpAny _ _ (Builtin.SmallTypes.ownedTupleHandOut (Value.ref e) (Value.ref (hp.objs.size + 1)) >>= _) _ _ ⟨g5, g, d, tk + 1, os⟩
  refine wpAny_bind ?_
  unfold Builtin.SmallTypes.ownedTupleHandOut
  refine wpAny_bind (wpAny_setField_rec e5 (by simp) fun g6 e6 s6 => ?_)
  replace s6 : Heap.SameBut e g5 g6 := s6
  replace e6 : IsEnumOut g6 e z ((k : Int) + 1) (.ref hp.objs.size) (hp.objs.size + 1) := e6
  refine wpAny_setField_rec e6 (by simp) fun g7 e7 s7 => ?_
  replace s7 : Heap.SameBut e g6 g7 := s7
  replace e7 : IsEnumOut g7 e z ((k : Int) + 1) (.ref hp.objs.size) (hp.objs.size + 1) := e7
  have up7 : ∀ c o, c ≠ e → g4.get? c = some o → g7.get? c = some o := fun c o hc q => s7.extBut _ _ hc (s6.extBut _ _ hc (s5.extBut _ _ hc q))
  refine wpAny_bind (wpAny_letGo (wpAny_pure ⟨_, rfl, hQ g7 ⟨e7, ?_, ?_, ?_, ?_⟩⟩))
  · exact zz1.keep fun c hc o q => up7 c o (base c hc) (up4 c o (base c hc) q)
  · exact up7 _ _ (Nat.ne_of_gt hel) (up4 _ _ (Nat.ne_of_gt hel) pr1)
  · exact up7 _ _ (by have : e < hp.objs.size + 1 := Nat.lt_succ_of_lt hel; exact Nat.ne_of_gt this) t4
  · intro c o hc q
    simp only [List.mem_cons, List.not_mem_nil, or_false, not_or] at hc
    exact up7 c o hc.1 (up4 c o hc.1 (kp1 c o hc.2.1 hc.2.2.2.1 hc.2.2.2.2.1 hc.2.2.2.2.2 q))
theorem en_pn {Q : Option Value → Shared → Prop} (D : ZipApart z TI TO i1 i2 a b) (he : IsEnum s.heap e z k old) (hne : e ∉ [z, TI, TO, i1, i2]) (hz : ZAt s.heap z TI TO i1 i2 a b k) (t1 : IsTup s.heap a xs) (t2 : IsTup s.heap b ys) (hx : xs[k]? = some x) (hy : ys[k]? = some y)
    (hQ : ∀ h', ENext s e z TI TO i1 i2 a b k x y h' → Q (some (.ref (s.heap.objs.size + 1))) { s with heap := h', toks := s.toks + 1 }) : wpAny (model prog w) A (pyNext (.ref e)) Q E s := by
  have hT : s.TypeIs (.ref e) "enumerate" := ⟨_, he, rfl⟩
  unfold pyNext
  exact wpAny_bind (wpAny_attempt (wpAny_callSpecial?_slot (name := Str.ofString "__next__") hT F.slot_enumerate_next (wpAny_call_entry F.slot_enumerate_next hT F.entry_enumerate_next (en_next D he hne hz t1 t2 hx hy fun h' q => wpAny_pure (hQ h' q)) (F.args_enumerate_next_1 _))))
theorem en_pnone {Q : Option Value → Shared → Prop} (hh : A.handled = none) (D : ZipApart z TI TO i1 i2 a b) (he : IsEnum s.heap e z k old) (hz : ZAt s.heap z TI TO i1 i2 a b k) (t1 : IsTup s.heap a xs) (hx : xs[k]? = none)
    (hQ : ∀ h', (∀ c o, c ≠ z → c ≠ i1 → s.heap.get? c = some o → h'.get? c = some o) → Q none { s with heap := h' }) : wpAny (model prog w) A (pyNext (.ref e)) Q E s := by
  have hT : s.TypeIs (.ref e) "enumerate" := ⟨_, he, rfl⟩
  unfold pyNext
  refine wpAny_bind (wpAny_attempt (wpAny_callSpecial?_slot (name := Str.ofString "__next__") hT F.slot_enumerate_next (wpAny_call_entry F.slot_enumerate_next hT F.entry_enumerate_next ?_ (F.args_enumerate_next_1 _))))
  show wpAny _ _ (field (Value.ref e) 2 >>= _) _ _ _
  refine wpAny_bind (wpAny_field he rfl (x := Value.ref z) rfl (wpAny_bind (z_drawn hh D hz t1 hx fun h' x hk hx' => ?_)))
  obtain ⟨o, ho, hc⟩ := hx'
  exact wpAny_bind (wpAny_isInstance (T := "StopIteration") (b := true) ⟨o, ho, hc⟩ isSubtype_stop (wpAny_pure (hQ _ hk)))
end
abbrev enObj (z : Addr) : Obj := { cls := .type "enumerate", data := .fields #[.none, .bool false, .ref z, rawInt 0, .none, .none] }
theorem meets_en (z TI TO i1 i2 a b : Addr) :
    Meets (Builtin.«enumerate.__new__» ⟨[.type "enumerate", .ref z], []⟩) (fun _ R s => ZAt s.heap z TI TO i1 i2 a b 0 ∧ R (.ok (.ret (.ref s.heap.objs.size))) { s with heap := s.heap.push (enObj z) }) :=
  .of_wp fun prog w A R s h => by
    obtain ⟨hp, g, d, tk, os⟩ := s; obtain ⟨hz, h⟩ := h
    have hsub := sub_enumerate
    have hZ : ZAt (Shared.heap ⟨hp, g, d, tk, os⟩) z TI TO i1 i2 a b 0 := hz
    wp_walk
    refine wpAny_stack_any fun st => wpAny_pure ?_
    split
    · rename_i c _ _ _ _ _
      cases (c == Value.type "enumerate")
      · wp_walk using z_self hZ
        exact ⟨_, rfl, h⟩
      · wp_walk using z_self hZ
        exact ⟨_, rfl, h⟩
    · wp_walk using z_self hZ
      exact ⟨_, rfl, h⟩
theorem call_en {prog : Program} {w : World} {A : Around} {E : Value → Shared → Prop} {s : Shared} {z TI TO i1 i2 a b : Addr} {Q : Value → Shared → Prop} (hz : ZAt s.heap z TI TO i1 i2 a b 0) (h : Q (.ref s.heap.objs.size) { s with heap := s.heap.push (enObj z) }) :
    wpAny (model prog w) A (call (.type "enumerate") [.ref z]) Q E s := by
  refine callType_new F.called_enumerate (by decide) (F.typeCall_enumerate_1 _) (F.newCall_enumerate_1 _) (fun obj => F.args_object_init_2 obj _) F.entry_enumerate_new (meets_en z TI TO i1 i2 a b) ⟨hz, ?_⟩
  exact ⟨⟨_, Heap.get?_push_size _ rfl, rfl⟩, h⟩
end BF
set_option Elab.async false
set_option linter.all false
set_option maxRecDepth 100000
namespace BF
open PySem PySem.Spec PyProof.Rows L2
open Sem (wp)
theorem bt_enumerate : bootBuiltins "enumerate" = some (.type "enumerate") := by decide +kernel
def Ite (a b : Addr) (xs ys : List V) : It :=
  ⟨fun i H => H a = some (.tup xs) ∧ H b = some (.tup ys) ∧ i < xs.length ∧ i < ys.length,
    fun i H x H' => ∃ p q u v, H p = none ∧ upd H p (.tup [u, v]) q = none ∧ x = .ref q ∧ xs[i]? = some u ∧ ys[i]? = some v ∧ H' = upd (upd H p (.tup [u, v])) q (.tup [.int (i : Nat), .ref p]),
    fun i H => H a = some (.tup xs) ∧ xs.length ≤ i⟩
theorem turn_ez {P : Program} {w : World} {K : PySem.W.Frag} {elts : List Expr} {ek} {epos : Pos} (e z TI TO i1 i2 a b : Addr) (xs ys : List V) (D : ZipApart z TI TO i1 i2 a b) (hne : e ∉ [z, TI, TO, i1, i2]) :
    Turn P w K (.Tuple elts ek epos) (Ite a b xs ys) [e, z, TI, TO, i1, i2] e (fun i h => (∃ old, IsEnum h e z i old) ∧ ZAt h z TI TO i1 i2 a b i) where
  mem := by simp
  obj := fun i h st c hc => by
    obtain ⟨⟨old, he⟩, hz⟩ := st
    simp only [List.mem_cons, List.not_mem_nil, or_false] at hc
    rcases hc with rfl | rfl | rfl | rfl | rfl | rfl
    · exact ⟨_, he, fun v e => by cases e⟩
    · obtain ⟨_, _, _, g⟩ := hz.z
      exact ⟨_, g, fun v e => by cases e⟩
    · exact ⟨_, hz.ti, fun v e => by cases e⟩
    · obtain ⟨_, _, g⟩ := hz.to
      exact ⟨_, g, fun v e => by cases e⟩
    · obtain ⟨_, g, _, d⟩ := hz.i1
      exact ⟨_, g, fun v e => by rw [d] at e; cases e⟩
    · obtain ⟨_, g, _, d⟩ := hz.i2
      exact ⟨_, g, fun v e => by rw [d] at e; cases e⟩
  keep := fun i h h' st k => by
    obtain ⟨⟨old, he⟩, hz⟩ := st
    exact ⟨⟨old, k e (by simp) _ he⟩, hz.keep fun c hc o q => k c (by simp only [List.mem_cons] at hc ⊢; exact .inr hc) o q⟩
  item := by
    intro X hP hw hK hc i pins s σ H E I hf st hg
    subst hP hw hK
    obtain ⟨ha, hb, hi1, hi2⟩ := hg
    obtain ⟨⟨old, he⟩, hz⟩ := st
    obtain ⟨its1, rv1, p1, _⟩ := I.tuple (SqT.of ha)
    obtain ⟨its2, rv2, p2, _⟩ := I.tuple (SqT.of hb)
    have hx : xs[i]? = some xs[i] := List.getElem?_eq_getElem hi1
    have hy : ys[i]? = some ys[i] := List.getElem?_eq_getElem hi2
    obtain ⟨u, hu, ru⟩ := rv1.get hx
    obtain ⟨v, hv, rv⟩ := rv2.get hy
    refine en_pn D he hne hz p1 p2 (x := u) (y := v) (by simpa using hu) (by simpa using hv) fun h' q => ?_
    have lt : ∀ c ∈ [e, z, TI, TO, i1, i2], c < s.heap.objs.size := fun c hc => by
      simp only [List.mem_cons, List.not_mem_nil, or_false] at hc
      rcases hc with rfl | rfl | rfl | rfl | rfl | rfl
      · exact Heap.lt_size he
      · exact let ⟨_, _, _, g⟩ := hz.z; Heap.lt_size g
      · exact Heap.lt_size hz.ti
      · exact let ⟨_, _, g⟩ := hz.to; Heap.lt_size g
      · exact let ⟨_, g, _⟩ := hz.i1; Heap.lt_size g
      · exact let ⟨_, g, _⟩ := hz.i2; Heap.lt_size g
    have hfr : H s.heap.objs.size = none := I.fresh
    have J : Inv X pins σ (upd H s.heap.objs.size (.tup [xs[i], ys[i]])) { s with heap := s.heap.push { cls := .type "tuple", data := .seq #[u, v] }, toks := s.toks + 1 } :=
      I.laid (t' := s.toks + 1) (fun b u e => Heap.get?_push_of_some _ e) (Nat.le_refl _) ⟨by show 2 ≤ sizeLine; decide, [u, v], .cons ru (.cons rv .nil), ⟨_, Heap.get?_push_size _ rfl, rfl, _, rfl⟩⟩
    have sz1 : (s.heap.push { cls := .type "tuple", data := .seq #[u, v] }).objs.size = s.heap.objs.size + 1 := Heap.size_push ..
    have hfr2 : upd H s.heap.objs.size (.tup [xs[i], ys[i]]) (s.heap.objs.size + 1) = none := by
      have := J.fresh
      simp only [sz1] at this
      exact this
    have J2 : Inv X pins σ (upd (upd H s.heap.objs.size (.tup [xs[i], ys[i]])) (s.heap.objs.size + 1) (.tup [.int (i : Nat), .ref s.heap.objs.size])) { s with heap := (s.heap.push { cls := .type "tuple", data := .seq #[u, v] }).push { cls := .type "tuple", data := .seq #[.int i s.toks, .ref s.heap.objs.size] }, toks := s.toks + 1 } :=
      J.laid (t' := s.toks + 1) (fun b u e => Heap.get?_push_of_some _ e) (Nat.le_of_eq sz1) ⟨by show 2 ≤ sizeLine; decide, [.int i s.toks, .ref s.heap.objs.size], .cons ⟨_, rfl⟩ (.cons rfl .nil), ⟨_, by rw [← sz1]; exact Heap.get?_push_size _ rfl, rfl, _, rfl⟩⟩
    have hf' : ∀ c ∈ [e, z, TI, TO, i1, i2], FpOk X pins (upd (upd H s.heap.objs.size (.tup [xs[i], ys[i]])) (s.heap.objs.size + 1) (.tup [.int (i : Nat), .ref s.heap.objs.size])) c := fun c hc => by
      have := lt c hc
      refine ⟨?_, (hf c hc).2⟩
      rw [upd_ne (Nat.ne_of_lt (Nat.lt_succ_of_lt this)), upd_ne (Nat.ne_of_lt this)]
      exact (hf c hc).1
    refine ⟨_, rfl, wpAny_letOwnedTupleGo_enum q.en fun h'' he'' hs'' => ?_⟩
    have nin : ∀ c, s.heap.objs.size ≤ c → c ≠ e := fun c hc y => by have := lt e (by simp); subst y; exact absurd this (Nat.not_lt.mpr hc)
    have J3 : Inv X pins σ (upd (upd H s.heap.objs.size (.tup [xs[i], ys[i]])) (s.heap.objs.size + 1) (.tup [.int (i : Nat), .ref s.heap.objs.size])) { s with heap := h'', toks := s.toks + 1 } := by
      refine L2.Inv.turnedL (s := { s with heap := (s.heap.push { cls := .type "tuple", data := .seq #[u, v] }).push { cls := .type "tuple", data := .seq #[.int i s.toks, .ref s.heap.objs.size] }, toks := s.toks + 1 }) (t' := s.toks + 1) (ch := [e, z, TI, TO, i1, i2]) J2 (fun c o hc g => ?_) hf'
      have hce : c ≠ e := fun y => hc (by simp [y])
      refine (hs''.2 c hce).trans ?_
      by_cases e2 : c = s.heap.objs.size + 1
      · subst e2
        have g' : ((s.heap.push { cls := .type "tuple", data := .seq #[u, v] }).push { cls := .type "tuple", data := .seq #[.int i s.toks, .ref s.heap.objs.size] }).get? (s.heap.push { cls := .type "tuple", data := .seq #[u, v] }).objs.size = some o := by rw [sz1]; exact g
        rw [Heap.get?_push_size _ rfl] at g'
        cases g'
        exact q.tp
      · have g1 : (s.heap.push { cls := .type "tuple", data := .seq #[u, v] }).get? c = some o := by
          rw [Heap.get?_push_ne _ _ _ (by rw [sz1]; exact e2)] at g
          exact g
        by_cases e1 : c = s.heap.objs.size
        · subst e1
          rw [Heap.get?_push_size _ rfl] at g1
          cases g1
          exact q.pr
        · rw [Heap.get?_push_ne _ _ _ e1] at g1
          exact q.kp c o hc g1
    refine ⟨.ref (s.heap.objs.size + 1), _, J3, rfl, ⟨s.heap.objs.size, s.heap.objs.size + 1, xs[i], ys[i], hfr, hfr2, rfl, hx, hy, rfl⟩, ⟨⟨_, he''⟩, ?_⟩, fun c hc => (hf' c hc).1⟩
    exact q.zz.keep fun c hc o g => (hs''.2 c (fun y => hne (y ▸ hc))).trans g
  done := by
    intro X hP hw hK hc i pins s σ H E I hf st hg
    subst hP hw hK
    obtain ⟨ha, hi⟩ := hg
    obtain ⟨⟨old, he⟩, hz⟩ := st
    obtain ⟨its1, rv1, p1, _⟩ := I.tuple (SqT.of ha)
    have l1 := rv1.length
    refine en_pnone (I.ok.hd hc) D he hz p1 (by simp; omega) fun h' k => ⟨rfl, L2.Inv.turnedL (t' := s.toks) (ch := [e, z, TI, TO, i1, i2]) I (fun c o hc g => ?_) hf⟩
    simp only [List.mem_cons, List.not_mem_nil, or_false, not_or] at hc
    exact k c o hc.2.1 hc.2.2.2.2.1 g
  self := fun _ _ _ _ _ st h => let ⟨_, he⟩ := st.1; wpAny_pyIter_enum he h
section
variable {X : Cx} {elts : List Expr} {epos : Pos}
def iEZ (ta : TA) : TI := fun σ H R => ta σ H fun vs H1 => ∃ a b xs ys, vs = [.ref a, .ref b] ∧ H1 a = some (.tup xs) ∧ H1 b = some (.tup ys) ∧ R (Ite a b xs ys) H1
theorem pi_enumzip {a b : Expr} {ek} {ta : TA} {p p' pos pos' : Pos} (hg : Gl X "enumerate") (hm : X.mg "enumerate" = none) (hg' : Gl X "zip") (hm' : X.mg "zip" = none) (ha : PA X [a, b] ta)
    (h1 : starEach [.Call (.Name "zip" p') [a, b] [] pos'] X.env = [(false, eval (.Call (.Name "zip" p') [a, b] [] pos') X.env)] := by rfl) (hs : starEach [a, b] X.env = [(false, eval a X.env), (false, eval b X.env)] := by rfl) (hs2 : starEach [b] X.env = [(false, eval b X.env)] := by rfl) :
    PI X (.Tuple elts ek epos) (.Call (.Name "enumerate" p) [.Call (.Name "zip" p') [a, b] [] pos'] [] pos) (iEZ ta) := by
  intro pins s σ H R I h
  refine Call_ (ld_blt I hg hm bt_enumerate (PyProof.Rows.callWith_type1 ?_ h1 rfl))
  rw [h1]
  refine Calls.spliced_cons ?_
  refine Call_ (ld_blt I hg' hm' bt_zip (PyProof.Rows.callWith_type1 (thn (ha pos' pins s σ H _ I h) fun us s1 ⟨vs, H1, I1, r1, q1⟩ => ?_) (by rw [hs, hs2]) (by rw [hs2]; rfl)))
  obtain ⟨l1, l2, xs, ys, e, ha, hb, q⟩ := q1
  subst e
  obtain ⟨u, u', rfl, ru, ru'⟩ := vals2 r1
  cases ru
  cases ru'
  obtain ⟨its1, rv1, p1, _⟩ := I1.tuple (SqT.of ha)
  obtain ⟨its2, rv2, p2, _⟩ := I1.tuple (SqT.of hb)
  have lt1 : @LT.lt Nat _ l1 s1.heap.objs.size := let ⟨o, ho, _⟩ := p1; Heap.lt_size ho
  have lt2 : @LT.lt Nat _ l2 s1.heap.objs.size := let ⟨o, ho, _⟩ := p2; Heap.lt_size ho
  refine call_zt p1 p2 (Calls.spliced_nil ?_)
  obtain ⟨z5, z4, zz, zk⟩ := zt_all s1.heap l1 l2
  have I2 : Inv X pins σ H1 { s1 with heap := zt5 s1.heap l1 l2 } := I1.kept (t' := s1.toks) zk
  refine call_en (s := { s1 with heap := zt5 s1.heap l1 l2 }) zz ?_
  have I3 : Inv X pins σ H1 { s1 with heap := (zt5 s1.heap l1 l2).push (enObj (s1.heap.objs.size + 4)) } := I2.kept (t' := s1.toks) fun c o g => Heap.get?_push_of_some _ g
  have gE : ((zt5 s1.heap l1 l2).push (enObj (s1.heap.objs.size + 4))).get? (s1.heap.objs.size + 5) = some (enObj (s1.heap.objs.size + 4)) := by rw [← z5]; exact Heap.get?_push_size _ rfl
  show wpAny _ _ (pyIter (Value.ref (zt5 s1.heap l1 l2).objs.size)) _ _ _
  rw [z5]
  refine wpAny_pyIter_enum (s := { s1 with heap := (zt5 s1.heap l1 l2).push (enObj (s1.heap.objs.size + 4)) }) gE ?_
  refine ⟨s1.heap.objs.size + 5, [s1.heap.objs.size + 5, s1.heap.objs.size + 4, s1.heap.objs.size + 2, s1.heap.objs.size + 3, s1.heap.objs.size, s1.heap.objs.size + 1], _, _, H1, rfl, I3, turn_ez (s1.heap.objs.size + 5) (s1.heap.objs.size + 4) (s1.heap.objs.size + 2) (s1.heap.objs.size + 3) s1.heap.objs.size (s1.heap.objs.size + 1) l1 l2 xs ys (zt_apart lt1 lt2) ?_, ⟨⟨_, gE⟩, zz.keep fun c _ o g => Heap.get?_push_of_some _ g⟩, fun c hc => ?_, q⟩
  · generalize s1.heap.objs.size = n
    intro y
    simp only [List.mem_cons, List.not_mem_nil, or_false] at y
    rcases y with y | y | y | y | y <;> (have y' : (n : Nat) + 5 = _ := y; omega)
  · have hc' : s1.heap.objs.size ≤ c := by
      simp only [List.mem_cons, List.not_mem_nil, or_false] at hc
      rcases hc with rfl | rfl | rfl | rfl | rfl | rfl <;> first | exact Nat.le_refl _ | exact Nat.le_add_right _ _
    exact I1.fpOk hc' (I1.hok.fresh hc')
end
theorem comp_ez {a b D : Addr} {xs ys : List V} {g : TG} {tt : TT} {te : TE} {σ : L2.St} {H : Hp} {Q : Hp → Prop} (n : Nat) (h1 : xs.length = n) (h2 : ys.length = n) (Pv : Nat → L2.St → Hp → Prop) (h0 : Pv 0 σ H) (hl : ∀ i σ H, i ≤ n → Pv i σ H → H a = some (.tup xs) ∧ H b = some (.tup ys))
    (hs : ∀ i x y p q σ H, xs[i]? = some x → ys[i]? = some y → Pv i σ H → H p = none → upd H p (.tup [x, y]) q = none → g (.ref q) σ (upd (upd H p (.tup [x, y])) q (.tup [.int (i : Nat), .ref p])) fun σ2 H2 => tt σ2 H2 fun b H3 => if b = true then te σ2 H3 fun y H4 => ∃ ys, H4 D = some (.lst ys) ∧ ys.length < sizeLine ∧ Pv (i + 1) σ2 (upd H4 D (.lst (ys ++ [y]))) else Pv (i + 1) σ2 H3)
    (hd : ∀ σ H, Pv n σ H → Q H) : tCompW g tt te (Ite a b xs ys) σ H D Q := by
  refine ⟨fun i m σ H => m = n - i ∧ i ≤ n ∧ Pv i σ H, ⟨n, by simp, Nat.zero_le _, h0⟩, ?_⟩
  rintro i m σ H ⟨rfl, hi, p⟩
  obtain ⟨q1, q2⟩ := hl i σ H hi p
  by_cases c : i = n
  · subst c
    exact .inl ⟨⟨q1, by omega⟩, hd σ H p⟩
  · refine .inr ⟨⟨q1, q2, by omega, by omega⟩, Pv (i + 1), fun σ' H' k => ⟨n - (i + 1), by omega, rfl, by omega, k⟩, ?_⟩
    rintro x H' ⟨p', q', u, v, hp', hq', rfl, hu, hv, rfl⟩
    exact hs i u v p' q' σ H hu hv p hp' hq'
end BF
namespace BF
open PySem Classical
/-! ### terms that are led together -/
theorem nodup_len {α : Type} : ∀ {l m : List α}, l.Nodup → (∀ x ∈ l, x ∈ m) → l.length ≤ m.length
  | [], _, _, _ => Nat.zero_le _
  | x :: l, m, hn, h => by
    rw [List.nodup_cons] at hn
    have hx := h x (by simp)
    have := nodup_len (l := l) (m := m.erase x) hn.2 fun y hy => (List.mem_erase_of_ne (by rintro rfl; exact hn.1 hy)).mpr (h y (by simp [hy]))
    rw [List.length_erase_of_mem hx] at this
    have := List.length_pos_of_mem hx
    simp only [List.length_cons]
    omega
/-! ### what has to be alike -/
end BF
set_option Elab.async false
set_option linter.all false
set_option maxRecDepth 100000
set_option maxHeartbeats 4000000
namespace K12
open PySem L2 BF
/-! ### a filling of a dict -/
section
variable {P : Program} {w : World} {K : PySem.W.Frag} {mg : Str → Option Value} {base : Heap}
def spFof : Sp := fun vs H Q _ => ∃ (d : Addr) (kvs : List (Key × V)) (f : Fl), vs = [.ref d] ∧ H d = some (.dK kvs) ∧ KvsAt H kvs f ∧ (f.map (·.1)).Nodup ∧ f.length < 64 ∧ (∀ p ∈ f, p.2.nodes ≤ 90) ∧
  ∀ (l : Addr) (ps : List V) (ss : List Str) (H' : Hp), Same H H' → H l = none → H' l = some (.lst ps) → ss.Perm (f.map (·.1)) → (ss.Pairwise fun a b => a.cps.toList < b.cps.toList) → FillAt H' ps (nrm f ss) → Q (.ref l) H'
theorem ok_filling_of {f0 : Addr} {fd : FuncData} (F : Fun K "filling_of" "filling_of" s_filling_of f0 fd) (TS : mg "sorted" = none) : FnOk P w K mg base CX0 1 f0 fd ["terms"] spFof := by
  refine F.ok sc_filling_of (fun vs H Q E h => ?_) (fun cdv A outer s H vs Q E hr h => ?_)
  · obtain ⟨_, _, _, rfl, _⟩ := h
    rfl
  obtain ⟨d, kvs, f, rfl, hd, hk, hnd, hlen, hsz, q⟩ := h
  have hun := hr.un
  have hu : (A.deeper (PyProof.Rows.envOfC "filling_of" (defScope s_filling_of) s.heap.objs.size f0 cdv)).units + 1 < cLine := by omega
  refine ⟨_, (pss_one (ps_ret (pe_comp (Nc := ["word", "terms"]) (k := 1) (js := [0]) ⟨rfl, rfl, rfl, rfl, rfl, rfl⟩ (pi_list (pe_blt (call_sorted_dict rfl) TS bt_sorted (pa_cons (pv 0) pa_nil))) (fun _ _ _ _ => pg_name (i := 0) (show (["word", "terms"] : List Str).Nodup by decide +kernel) rfl (Or.inl rfl)) (fun _ _ _ _ => pts_one (pt_cmpR op_neTm (pe_dget hu (pv 1) (pv 0) (fun _ _ => rfl)) (pe_tup (pa_cons pe_str (pa_cons (pv 0) pa_nil))) (nomark _))) (fun _ _ _ _ => (pe_tup (pa_cons (pv 0) (pa_cons (pe_dget hu (pv 1) (pv 0) (fun _ _ => rfl)) pa_nil))))))), ?_⟩
  refine ⟨_, rfl, d, kvs, f.map (·.1), rfl, hd, hk.keys, by rw [List.length_map]; exact hlen, fun ls ss hls hperm hpair => ?_⟩
  have hst := strict_of hperm hnd hpair
  have hsl : ss.length = f.length := by rw [hperm.length_eq, List.length_map]
  have s1 := same_new hls (HO.lst (ss.map V.str))
  have x1 : upd H ls (HO.lst (ss.map V.str)) ls = some _ := upd_same
  generalize upd H ls (HO.lst (ss.map V.str)) = H1 at s1 x1 ⊢
  refine ⟨ls, rfl, ⟨_, SqL.of x1⟩, fun D hD C _ _ _ => comp_list (K := K) (a := ls) (xs := ss.map V.str) (fun i σ H3 => ∃ (o : Option V) (qs : List V), σ = [o, some (.ref d)] ∧ Same H1 H3 ∧ H3 D = some (.lst qs) ∧ FillAt H3 qs (nrm f (ss.take i)) ∧ qs.length ≤ i)
    ⟨none, [], rfl, same_new hD _, upd_same, .nil, Nat.le_refl _⟩ (fun i σ H3 _ ⟨_, _, _, s3, _⟩ => s3.seq (SqL.of x1)) ?_ ?_⟩
  · rintro i x σ H3 hx ⟨o, qs, rfl, s3, g3, hf3, hql⟩
    have hi : i < ss.length := by have := (List.getElem?_eq_some_iff.mp hx).1; simpa using this
    have ex : x = .str ss[i] := by
      rw [List.getElem?_map, List.getElem?_eq_getElem hi] at hx
      exact (Option.some.inj hx).symm
    subst ex
    have hmem : ss[i] ∈ f.map (·.1) := hperm.mem_iff.mp (List.getElem_mem hi)
    obtain ⟨t, ht⟩ := look_in hmem
    have s13 := s1.trans s3
    obtain ⟨v, hv, htv⟩ := ((hk.mono (.of s13)).dof ss[i]).2 t ht
    have hd3 := s13 _ _ hd
    have hg3 : DGet H3 d (.str ss[i]) (some v) := by
      have := DGet.k (k := Sum.inr ss[i]) hd3
      rw [hv] at this
      exact this
    have htn := hsz _ (look_mem ht)
    refine ⟨_, rfl, _, rfl, d, v, rfl, hg3, _, rfl, (by show 2 ≤ sizeLine; decide), fun g hg => ?_⟩
    have s4 := same_new hg (HO.tup [.str "blank", .str ss[i]])
    have x4 : upd H3 g (HO.tup [.str "blank", .str ss[i]]) g = some _ := upd_same
    generalize upd H3 g (HO.tup [.str "blank", .str ss[i]]) = H4 at s4 x4 ⊢
    have hd4 := s4 _ _ hd3
    have hg4 : DGet H4 d (.str ss[i]) (some v) := by
      have := DGet.k (k := Sum.inr ss[i]) hd4
      rw [hv] at this
      exact this
    refine ⟨t, .blank ss[i], htv.mono (.of s4), termAt_blank.mpr ⟨g, rfl, x4⟩, ?_, fun b hb => ⟨_, rfl, ite2 (fun c => ?_) (fun c => ?_)⟩⟩
    · show (A.deeper _).units + 2 * _ < cLine
      simp only at htn
      omega
    · refine ⟨_, rfl, _, rfl, _, rfl, d, v, rfl, hg4, (by show 2 ≤ sizeLine; decide), fun g2 hg2 => ?_⟩
      have s5 := same_new hg2 (HO.tup [.str ss[i], v])
      have x5 : upd H4 g2 (HO.tup [.str ss[i], v]) g2 = some _ := upd_same
      generalize upd H4 g2 (HO.tup [.str ss[i], v]) = H5 at s5 x5 ⊢
      have s35 := s4.trans s5
      refine ⟨_, s35 _ _ g3, big (by omega), ?_⟩
      have k6 : TSame H5 (upd H5 D (HO.lst (qs ++ [.ref g2]))) := .lst (s35 _ _ g3)
      refine ⟨_, _, rfl, fun b' ob z => by rw [upd_ne (ne_of_none z hD)]; exact s35 _ _ (s3 _ _ z), upd_same, ?_, by simp; omega⟩
      rw [List.take_succ_eq_append_getElem hi, nrm_snoc, nrm_not ht (hb.mp c)]
      exact FillAt.mono k6 ((hf3.mono (.of s35)).app ⟨g2, v, rfl, x5, htv.mono (.of s35)⟩)
    · have et : t = .blank ss[i] := Classical.byContradiction fun z => c (hb.mpr z)
      refine ⟨_, qs, rfl, s3.trans s4, s4 _ _ g3, ?_, by omega⟩
      rw [List.take_succ_eq_append_getElem hi, nrm_snoc, nrm_own ht et, List.append_nil]
      exact hf3.mono (.of s4)
  · rintro σ H3 ⟨o, qs, rfl, s3, g3, hf3, hql⟩
    rw [List.length_map, List.take_of_length_le (Nat.le_refl _)] at hf3
    exact q D qs ss H3 (s1.trans s3) (s1.free hD) g3 hperm hst hf3
end
/-! ### a pattern matched -/
section
variable {P : Program} {w : World} {K : PySem.W.Frag} {mg : Str → Option Value} {base : Heap}
theorem at2' {x y z : V} {xs : List V} : atI (x :: y :: z :: xs) (2 : Int) = some z := atI_nat (j := 2) rfl
def intL (a : List Int) : List V := a.map V.int
/-- a step that is to come; its path's list is none of G's -/
def MtAt (G H : Hp) (x : V) (c : Mt) : Prop := ∃ g l u v, x = .ref g ∧ H g = some (.tup [u, v, .ref l]) ∧ G l = none ∧ H l = some (.lst (intL c.2.2)) ∧ TermAt H u c.1 ∧ TermAt H v c.2.1
def MtAp (D : Addr) (G H : Hp) (x : V) (c : Mt) : Prop := ∃ g l u v, x = .ref g ∧ H g = some (.tup [u, v, .ref l]) ∧ (G l = none ∧ l ≠ D) ∧ H l = some (.lst (intL c.2.2)) ∧ TermAt H u c.1 ∧ TermAt H v c.2.1
abbrev MtsAt (G H : Hp) (xs : List V) (cs : List Mt) : Prop := Paired (MtAt G H) xs cs
def wl (ps qs : List Tm) (a : List Int) : List Mt := (ps.zip qs).zipIdx.map fun z => (z.1.1, z.1.2, a ++ [(z.2 : Int)])
theorem wl_len {ps qs : List Tm} {a : List Int} (h : ps.length = qs.length) : (wl ps qs a).length = ps.length := by
  simp [wl, h]
theorem wl_get {ps qs : List Tm} {a : List Int} {i : Nat} (h1 : i < ps.length) (h2 : i < qs.length) (h3 : i < (wl ps qs a).length) : (wl ps qs a)[i] = (ps[i], qs[i], a ++ [(i : Int)]) := by
  simp [wl]
theorem paired_rev {α β : Type} {F : α → β → Prop} {l : List α} {m : List β} (h : Paired F l m) : Paired F l.reverse m.reverse := by
  induction h with
  | nil => exact .nil
  | cons a _ ih => rw [List.reverse_cons, List.reverse_cons]; exact paired_snoc ih a
def spWithin : Sp := fun vs H Q _ => ∃ (v v' : V) (l : Addr) (w w' : Str) (ps qs : List Tm) (a : List Int), vs = [v, v', .ref l] ∧ TermAt H v (.thing w ps) ∧ TermAt H v' (.thing w' qs) ∧ ps.length = qs.length ∧ H l = some (.lst (intL a)) ∧ a.length ≤ 1000 ∧ ps.length ≤ 1000 ∧
  ∀ r xs H', Same H H' → H r = none → H' r = some (.lst xs) → MtsAt H H' xs (within ps qs a) → Q (.ref r) H'
theorem ok_steps_within {f : Addr} {fd : FuncData} (F : Fun K "steps_within" "steps_within" s_steps_within f fd) (T : Bi mg) (TZ : mg "zip" = none) (TE : mg "enumerate" = none) : FnOk P w K mg base CX0 1 f fd ["asked", "part", "path"] spWithin := by
  refine F.ok sc_steps_within (fun vs H Q E h => ?_) (fun cdv A outer s H vs Q E hr h => ?_)
  · obtain ⟨_, _, _, _, _, _, _, _, rfl, _⟩ := h
    rfl
  obtain ⟨v, v', l, w1, w2, ps, qs, a, rfl, hv, hv', hl, hla, hal, hpl, q⟩ := h
  obtain ⟨a1, b1, us1, rfl, e1, g1, m1⟩ := termAt_thing.mp hv
  obtain ⟨a2, b2, us2, rfl, e2, g2, m2⟩ := termAt_thing.mp hv'
  have l1 := m1.len
  have l2 := m2.len
  refine ⟨_, (pss_cons (ps_compset (i := 3) (Nc := ["place", "pair", "path"]) (k := 2) (js := [2]) ⟨rfl, rfl, rfl, rfl, rfl, rfl⟩ sc_steps_within.nd rfl (Or.inl rfl) (pi_enumzip rfl TE rfl TZ (pa_cons (pe_ix ix_tup (pv 0) pe_int (fun _ _ => rfl)) (pa_cons (pe_ix ix_tup (pv 1) pe_int (fun _ _ => rfl)) pa_nil))) (fun _ _ _ _ => pg_tup rfl (pgs_cons (pg_name (i := 0) (show (["place", "pair", "path"] : List Str).Nodup by decide +kernel) rfl (Or.inl rfl)) (pgs_cons (pg_name (i := 1) (show (["place", "pair", "path"] : List Str).Nodup by decide +kernel) rfl (Or.inl rfl)) pgs_nil))) (fun _ _ _ _ => pts_nil) (fun _ _ _ _ => (pe_tup (pa_cons (pe_ix ix_tup (pv 1) pe_int (fun _ _ => rfl)) (pa_cons (pe_ix ix_tup (pv 1) pe_int (fun _ _ => rfl)) (pa_cons (pe_op op_cat (pv 2) (pe_lst (pa_cons (pv 0) pa_nil))) pa_nil))))))
      (pss_one (ps_ret (pe_listrevL T.b_list T.b_reversed (pv 3))))), ?_⟩
  refine ⟨_, rfl, _, _, _, _, rfl, rfl, SqT.of e1, at2', _, rfl, _, _, _, _, rfl, rfl, SqT.of e2, at2', b1, b2, us1, us2, rfl, g1, g2, fun D fD C s₀ H₀ fp => ?_⟩
  refine comp_ez ps.length l1 (by omega) (fun i σ HX => ∃ (o0 o1 : Option V) (ys : List V), σ = [o0, o1, some (.ref l)] ∧ Same H HX ∧ HX D = some (.lst ys) ∧ Paired (MtAp D H HX) ys ((wl ps qs a).take i)) ⟨none, none, [], rfl, same_new fD _, upd_same, .nil⟩ (fun i σ HX _ ⟨_, _, _, _, sX, _⟩ => ⟨sX _ _ g1, sX _ _ g2⟩) ?_ ?_
  · rintro i x y p0 q0 σ HX hx hy ⟨o0, o1, ys, rfl, sX, gD, hys'⟩ fp0 fq0
    have t1 := same_new fp0 (HO.tup [x, y])
    have z1 : upd HX p0 (HO.tup [x, y]) p0 = some _ := upd_same
    generalize upd HX p0 (HO.tup [x, y]) = H1 at t1 z1 fq0 ⊢
    have t2 := same_new fq0 (HO.tup [.int (i : Nat), .ref p0])
    have z2 : upd H1 q0 (HO.tup [.int (i : Nat), .ref p0]) q0 = some _ := upd_same
    generalize upd H1 q0 (HO.tup [.int (i : Nat), .ref p0]) = H2 at t2 z2 ⊢
    have hi : i < us1.length := (List.getElem?_eq_some_iff.mp hx).1
    have hi1 : i < ps.length := by omega
    have hi2 : i < qs.length := by omega
    have s2 := sX.trans (t1.trans t2)
    refine ⟨q0, _, rfl, SqT.of z2, rfl, _, _, rfl, _, _, rfl, rfl, ?_⟩
    simp only [tAll, if_true]
    refine ⟨_, rfl, _, _, _, _, rfl, rfl, SqT.of (t2 _ _ z1), at0', _, rfl, _, _, _, _, rfl, rfl, SqT.of (t2 _ _ z1), at1', _, rfl, _, rfl, (by show 1 ≤ sizeLine; decide), fun k fk => ?_⟩
    have t3 := same_new fk (HO.lst [.int (i : Nat)])
    have z3 : upd H2 k (HO.lst [.int (i : Nat)]) k = some _ := upd_same
    generalize upd H2 k (HO.lst [.int (i : Nat)]) = H3 at t3 z3 ⊢
    have s3 := s2.trans t3
    refine ⟨l, k, _, _, rfl, rfl, s3 _ _ hla, z3, Nat.le_trans (show (intL a).length + 1 ≤ 1001 by simp only [intL, List.length_map]; omega) (by decide), fun m fm => ?_⟩
    have t4 := same_new fm (HO.lst (intL a ++ [.int (i : Nat)]))
    have z4 : upd H3 m (HO.lst (intL a ++ [.int (i : Nat)])) m = some _ := upd_same
    generalize upd H3 m (HO.lst (intL a ++ [.int (i : Nat)])) = H4 at t4 z4 ⊢
    refine ⟨(by show 3 ≤ sizeLine; decide), fun g fg => ?_⟩
    have t5 := same_new fg (HO.tup [x, y, .ref m])
    have z5 : upd H4 g (HO.tup [x, y, .ref m]) g = some _ := upd_same
    generalize upd H4 g (HO.tup [x, y, .ref m]) = H5 at t5 z5 ⊢
    have sX5 := (t1.trans t2).trans (t3.trans (t4.trans t5))
    have s5 := sX.trans sX5
    have gD5 := sX5 _ _ gD
    have hyl : ys.length ≤ 1000 := by
      have := Paired.length hys'
      rw [List.length_take] at this
      omega
    refine ⟨ys, gD5, Nat.lt_of_le_of_lt hyl (by decide), some (.int (i : Nat)), some (.ref p0), ys ++ [.ref g], rfl, fun b ob z => by rw [upd_ne (ne_of_none z fD)]; exact s5 _ _ z, upd_same, ?_⟩
    have hw : i < (wl ps qs a).length := by rw [wl_len hl]; exact hi1
    rw [List.take_succ_eq_append_getElem hw, wl_get hi1 hi2 hw]
    have up : ∀ b o, b ≠ D → HX b = some o → upd H5 D (HO.lst (ys ++ [.ref g])) b = some o := fun b o hb e => by rw [upd_ne hb]; exact sX5 _ _ e
    have kX : TSame HX (upd H5 D (HO.lst (ys ++ [.ref g]))) := fun b xs e => up b _ (by rintro rfl; rw [e] at gD; cases gD) e
    have k5 : TSame H5 (upd H5 D (HO.lst (ys ++ [.ref g]))) := .lst gD5
    have nDm : m ≠ D := fun z => by
      have := (t1.trans (t2.trans t3)) _ _ gD
      rw [← z, fm] at this
      cases this
    refine paired_snoc (paired_mono (fun z c ⟨g', l', u, v, e, h1, h2, h3, h4, h5⟩ => ⟨g', l', u, v, e, kX _ _ h1, h2, up l' _ h2.2 h3, h4.mono kX, h5.mono kX⟩) hys') ⟨g, m, x, y, rfl, k5 _ _ z5, ⟨s3.free fm, nDm⟩, ?_, ?_, ?_⟩
    · rw [upd_ne nDm]
      have := t5 _ _ z4
      simp only [intL, List.map_append, List.map_cons, List.map_nil] at this ⊢
      exact this
    · have h1 := m1.at i hi hi1
      rw [(List.getElem?_eq_some_iff.mp hx).2] at h1
      exact h1.mono ((TSame.of s5).trans k5)
    · have h1 := m2.at i (by omega) hi2
      rw [(List.getElem?_eq_some_iff.mp hy).2] at h1
      exact h1.mono ((TSame.of s5).trans k5)
  · rintro σ HX ⟨o0, o1, ys, rfl, sX, gD, hys⟩
    rw [List.take_of_length_le (by rw [wl_len hl]; exact Nat.le_refl _)] at hys
    refine ⟨_, rfl, D, ys, rfl, SqL.of gD, fun r fr => ?_⟩
    have t1 := same_new fr (HO.lst ys.reverse)
    refine q r _ _ (sX.trans t1) (sX.free fr) upd_same ?_
    show Paired _ ys.reverse (wl ps qs a).reverse
    exact paired_rev (paired_mono (fun z c ⟨g', l', u, v, e, h1, h2, h3, h4, h5⟩ => ⟨g', l', u, v, e, t1 _ _ h1, h2.1, t1 _ _ h3, h4.mono (.of t1), h5.mono (.of t1)⟩) hys)
end
section
variable {P : Program} {w : World} {K : PySem.W.Frag} {mg : Str → Option Value} {base : Heap}
def MtN (N : Addr → Prop) (H : Hp) (x : V) (c : Mt) : Prop := ∃ g l u v, x = .ref g ∧ H g = some (.tup [u, v, .ref l]) ∧ N l ∧ H l = some (.lst (intL c.2.2)) ∧ TermAt H u c.1 ∧ TermAt H v c.2.1
theorem MtN.mono {N : Addr → Prop} {H H' : Hp} (k : TSame H H') (kl : ∀ l xs, N l → H l = some (.lst xs) → H' l = some (.lst xs)) {us : List V} {cs : List Mt} (h : Paired (MtN N H) us cs) : Paired (MtN N H') us cs :=
  paired_mono (fun _ _ ⟨g, l, u, v, e, h1, h2, h3, h4, h5⟩ => ⟨g, l, u, v, e, k _ _ h1, h2, kl _ _ h2 h3, h4.mono k, h5.mono k⟩) h
def PhN (N : Addr → Prop) (H : Hp) (kvs : List (Key × V)) (ph : List (Str × List Int)) : Prop := Paired (fun kv z => kv.1 = Sum.inr z.1 ∧ ∃ l, kv.2 = .ref l ∧ N l ∧ H l = some (.lst (intL z.2))) kvs ph
theorem PhN.mono {N : Addr → Prop} {H H' : Hp} (kl : ∀ l xs, N l → H l = some (.lst xs) → H' l = some (.lst xs)) {kvs : List (Key × V)} {ph : List (Str × List Int)} (h : PhN N H kvs ph) : PhN N H' kvs ph :=
  paired_mono (fun _ _ ⟨e, l, h1, h2, h3⟩ => ⟨e, l, h1, h2, kl _ _ h2 h3⟩) h
theorem paired_unsnoc {α β : Type} {F : α → β → Prop} : ∀ {us : List α} {u : α} {ds : List β} {d : β}, Paired F (us ++ [u]) (ds ++ [d]) → Paired F us ds ∧ F u d
  | [], _, [], _, .cons h .nil => ⟨.nil, h⟩
  | [], _, _ :: [], _, .cons _ r => nomatch r
  | [], _, _ :: _ :: _, _, .cons _ r => nomatch r
  | _ :: [], _, [], _, .cons _ r => nomatch r
  | _ :: _ :: _, _, [], _, .cons _ r => nomatch r
  | _ :: _, _, _ :: _, _, .cons h r => let ⟨a, b⟩ := paired_unsnoc r; ⟨.cons h a, b⟩
theorem paired_app {α β : Type} {F : α → β → Prop} {us vs : List α} {ps qs : List β} (h : Paired F us ps) (h' : Paired F vs qs) : Paired F (us ++ vs) (ps ++ qs) := by
  induction h with
  | nil => exact h'
  | cons a _ ih => exact .cons a ih
theorem within_len (ps qs : List Tm) (a : List Int) (h : ps.length = qs.length) : (within ps qs a).map (·.1) = ps.reverse := by
  unfold within
  rw [List.map_reverse, List.map_map]
  congr 1
  apply List.ext_getElem
  · simp [h]
  · intro i h1 h2
    simp
theorem go_len : ∀ (a : List Int) (t u : Tm), go a t = some u → a.length + u.nodes ≤ t.nodes
  | [], t, u, h => by cases h; simp
  | i :: r, .thing w ps, u, h => by
    simp only [go] at h
    split at h
    · cases e : ps[i.toNat]? with
      | none => rw [e] at h; cases h
      | some p =>
        rw [e] at h
        have h1 := go_len r p u h
        have h2 := nodes_mem (List.mem_of_getElem? e)
        simp only [Tm.nodes, List.length_cons]
        omega
    · cases h
  | _ :: _, .num _, _, h => by cases h
  | _ :: _, .name _, _, h => by cases h
  | _ :: _, .blank _, _, h => by cases h
theorem look_of {f : Fl} {w : Str} {t : Tm} (hn : (f.map (·.1)).Nodup) (h : (w, t) ∈ f) : look f w = some t := by
  induction f with
  | nil => cases h
  | cons p r ih =>
    rw [List.map_cons, List.nodup_cons] at hn
    rw [look_cons]
    rcases List.mem_cons.mp h with z | z
    · rw [← z]; simp
    · rw [if_neg (fun e => hn.1 (by rw [e]; exact List.mem_map.mpr ⟨_, z, rfl⟩))]
      exact ih hn.2 z
theorem valV_ph {N : Addr → Prop} {H : Hp} : ∀ {kvs : List (Key × V)} {ph : List (Str × List Int)}, PhN N H kvs ph → ∀ x, (x ∈ ph.map (·.1)) → ∃ z l, z ∈ ph ∧ z.1 = x ∧ valV kvs (Sum.inr x) = some (.ref l) ∧ N l ∧ H l = some (.lst (intL z.2))
  | _, _, .nil, x, h => by cases h
  | _, _, .cons (a := kv) (b := z) ⟨e, l, h1, h2, h3⟩ r, x, h => by
    rw [valV_cons, e]
    by_cases c : z.1 = x
    · subst c
      exact ⟨z, l, by simp, rfl, by rw [if_pos rfl, h1], h2, h3⟩
    · rw [if_neg (fun y => c (Sum.inr.inj y))]
      rw [List.map_cons] at h
      rcases List.mem_cons.mp h with y | y
      · exact absurd y.symm c
      · obtain ⟨z', l', g1, g2, g3, g4, g5⟩ := valV_ph r x y
        exact ⟨z', l', by simp [g1], g2, g3, g4, g5⟩
theorem putK_new {kvs : List (Key × V)} {k : Key} {v : V} (h : k ∉ kvs.map (·.1)) : putK kvs k v = kvs ++ [(k, v)] := by
  unfold putK
  rw [if_neg]
  rw [List.any_eq_true]
  rintro ⟨x, hx, e⟩
  exact h (List.mem_map.mpr ⟨x, hx, of_decide_eq_true e⟩)
def spMatched : Sp := fun vs H Q _ => ∃ (v v' : V) (pat term : Tm), vs = [v, v'] ∧ TermAt H v pat ∧ TermAt H v' term ∧ pat.nodes ≤ 900 ∧ term.nodes ≤ 90 ∧ pat.bl.length < 64 ∧
  (∀ a l ps f H', Same H H' → H' a = some (.tup [.str "match", .ref l]) → H' l = some (.lst ps) → FillAt H' ps f → (f.Pairwise fun p q => p.1.cps.toList < q.1.cps.toList) → (∀ p ∈ f, p.1 ∈ pat.bl ∧ p.2 ≠ .blank p.1 ∧ ∃ b, go b term = some p.2) → pat.fill f = term → Q (.ref a) H') ∧
  (∀ a l b t u H', Same H H' → H' a = some (.tup [.str "differ", .ref l]) → H' l = some (.lst (intL b)) → go b pat = some t → go b term = some u → isB t = false → hdL t ≠ hdL u → Q (.ref a) H') ∧
  (∀ a l1 l2 b1 b2 x u1 u2 H', Same H H' → H' a = some (.tup [.str "two", .ref l1, .ref l2]) → H' l1 = some (.lst (intL b1)) → H' l2 = some (.lst (intL b2)) → go b1 pat = some (.blank x) → go b2 pat = some (.blank x) → go b1 term = some u1 → go b2 term = some u2 → u1 ≠ u2 → Q (.ref a) H')
theorem ok_matched {f : Addr} {fd : FuncData} (F : Fun K "matched" "matched" s_matched f fd) (T : Bi mg) (c_same : Cal P w K mg base 2 "same" ["one", "other"] spSame) (c_head : Cal P w K mg base 1 "head" ["term"] spHd) (c_steps_within : Cal P w K mg base 1 "steps_within" ["asked", "part", "path"] spWithin) (c_filling_of : Cal P w K mg base 1 "filling_of" ["terms"] spFof) :
    FnOk P w K mg base CX0 3 f fd ["pattern", "term"] spMatched := by
  refine F.ok sc_matched (fun vs H Q E h => ?_) (fun cdv A outer s H vs Q E hr h => ?_)
  · obtain ⟨_, _, _, _, rfl, _⟩ := h
    rfl
  obtain ⟨v, v', pat, term, rfl, hv, hv', hpn, htn, hbn, q1, q2, q3⟩ := h
  have hun := hr.un
  have hu : (A.deeper (PyProof.Rows.envOfC "matched" (defScope s_matched) s.heap.objs.size f cdv)).units + 1 < cLine := by omega
  refine ⟨_, (pss_cons (ps_set (i := 2) sc_matched.nd rfl (Or.inl rfl) pe_dnewK)
      (pss_cons (ps_set (i := 3) sc_matched.nd rfl (Or.inl rfl) pe_dnewK)
      (pss_cons (ps_set (i := 4) sc_matched.nd rfl (Or.inl rfl) (pe_lst (pa_cons (pe_tup (pa_cons (pv 0) (pa_cons (pv 1) (pa_cons (pe_lst pa_nil) pa_nil)))) pa_nil)))
      (pss_cons (ps_while PassesOwn.never (pt_truth (pv 4) (fun _ => rfl)) (pss_cons (ps_set (i := 5) sc_matched.nd rfl (Or.inl rfl) (pe_bm0 PySem.F.plainAttrs_list PySem.F.slot_list_pop PySem.F.type_list_pop mt_pop (pv 4)))
        (pss_cons (ps_set (i := 6) sc_matched.nd rfl (Or.inl rfl) (pe_ix ix_tup (pv 5) pe_int (fun _ _ => rfl)))
        (pss_cons (ps_set (i := 7) sc_matched.nd rfl (Or.inl rfl) (pe_ix ix_tup (pv 5) pe_int (fun _ _ => rfl)))
        (pss_cons (ps_set (i := 8) sc_matched.nd rfl (Or.inl rfl) (pe_ix ix_tup (pv 5) pe_int (fun _ _ => rfl)))
        (pss_one (ps_if (pt_cmpR op_eq (pe_ix ix_tup (pv 6) pe_int (fun _ _ => rfl)) pe_str (nomark _)) (pss_cons (ps_set (i := 9) sc_matched.nd rfl (Or.inl rfl) (pe_ix ix_tup (pv 6) pe_int (fun _ _ => rfl)))
          (pss_one (ps_if (pt_cmp (pc_dnotin hu (pv 9) (pv 2))) (pss_cons (ps_dput hu (pv 2) (pv 9) (pv 7) rfl)
            (pss_one (ps_dput hu (pv 3) (pv 9) (pv 8) rfl))) (pss_one (ps_if (pt_not (pt_val (pe_cal c_same (hr.mono (by decide)) (pa_cons (pe_dget hu (pv 2) (pv 9) (fun _ _ => rfl)) (pa_cons (pv 7) pa_nil))))) (pss_one (ps_ret (pe_tup (pa_cons pe_str (pa_cons (pe_dget hu (pv 3) (pv 9) (fun _ _ => rfl)) (pa_cons (pv 8) pa_nil)))))) pss_nil))))) (pss_one (ps_if (pt_cmpR op_neT (pe_cal c_head (hr.mono (by decide)) (pa_cons (pv 6) pa_nil)) (pe_cal c_head (hr.mono (by decide)) (pa_cons (pv 7) pa_nil)) (nomark _)) (pss_one (ps_ret (pe_tup (pa_cons pe_str (pa_cons (pv 8) pa_nil))))) (pss_one (ps_if (pt_cmpR op_eq (pe_ix ix_tup (pv 6) pe_int (fun _ _ => rfl)) pe_str (nomark _)) (pss_one (ps_expr (pe_bm PySem.F.plainAttrs_list PySem.F.slot_list_extend PySem.F.type_list_extend mt_extend (pv 4) (pa_cons (pe_cal c_steps_within (hr.mono (by decide)) (pa_cons (pv 6) (pa_cons (pv 7) (pa_cons (pv 8) pa_nil)))) pa_nil)))) pss_nil)))))))))))
      (pss_one (ps_ret (pe_tup (pa_cons pe_str (pa_cons (pe_cal c_filling_of (hr.mono (by decide)) (pa_cons (pv 2) pa_nil)) pa_nil))))))))), ?_⟩
  refine fun d1 fd1 => ?_
  have s1 := same_new fd1 (HO.dK [])
  have x1 : upd H d1 (HO.dK []) d1 = some _ := upd_same
  generalize upd H d1 (HO.dK []) = H1 at s1 x1 ⊢
  refine fun d2 fd2 => ?_
  have s2 := same_new fd2 (HO.dK [])
  have x2 : upd H1 d2 (HO.dK []) d2 = some _ := upd_same
  generalize upd H1 d2 (HO.dK []) = H2 at s2 x2 ⊢
  refine ⟨_, rfl, _, rfl, (by show 0 ≤ sizeLine; decide), fun l0 fl0 => ?_⟩
  have s3 := same_new fl0 (HO.lst [])
  have x3 : upd H2 l0 (HO.lst []) l0 = some _ := upd_same
  generalize upd H2 l0 (HO.lst []) = H3 at s3 x3 ⊢
  refine ⟨(by show 3 ≤ sizeLine; decide), fun g0 fg0 => ?_⟩
  have s4 := same_new fg0 (HO.tup [v, v', .ref l0])
  have x4 : upd H3 g0 (HO.tup [v, v', .ref l0]) g0 = some _ := upd_same
  generalize upd H3 g0 (HO.tup [v, v', .ref l0]) = H4 at s4 x4 ⊢
  refine ⟨(by show 1 ≤ sizeLine; decide), fun p fp => ?_⟩
  have s5 := same_new fp (HO.lst [.ref g0])
  have x5 : upd H4 p (HO.lst [.ref g0]) p = some _ := upd_same
  generalize upd H4 p (HO.lst [.ref g0]) = H5 at s5 x5 ⊢
  have s05 := s1.trans (s2.trans (s3.trans (s4.trans s5)))
  have f1 : H d1 = none := fd1
  have f2 : H d2 = none := s1.free fd2
  have f3 : H p = none := (s1.trans (s2.trans (s3.trans s4))).free fp
  have n12 : d1 ≠ d2 := ne_of_none x1 fd2
  have n1p : d1 ≠ p := ne_of_none ((s2.trans (s3.trans s4)) _ _ x1) fp
  have n2p : d2 ≠ p := ne_of_none ((s3.trans s4) _ _ x2) fp
  have n0p : l0 ≠ p := ne_of_none (s4 _ _ x3) fp
  refine ⟨fun m σ HA => ∃ (o5 o6 o7 o8 o9 : Option V) (us : List V) (cs : List Mt) (kt kp : List (Key × V)) (tm : Fl) (ph : List (Str × List Int)), σ = [some v, some v', some (.ref d1), some (.ref d2), some (.ref p), o5, o6, o7, o8, o9] ∧ Same H HA ∧ HA p = some (.lst us) ∧ Paired (MtN (fun l => l ≠ p) HA) us cs ∧
      HA d1 = some (.dK kt) ∧ KvsAt HA kt tm ∧ HA d2 = some (.dK kp) ∧ PhN (fun l => l ≠ p) HA kp ph ∧ MInv pat term cs tm ph ∧ nodesL (cs.map (·.1)) = m ∧ m ≤ 900,
    ⟨_, none, none, none, none, none, [.ref g0], [(pat, term, [])], [], [], [], [], rfl, s05, x5, .cons ⟨g0, l0, v, v', rfl, s5 _ _ x4, n0p, (s4.trans s5) _ _ x3, hv.mono (.of s05), hv'.mono (.of s05)⟩ .nil, (s2.trans (s3.trans (s4.trans s5))) _ _ x1, .nil, (s3.trans (s4.trans s5)) _ _ x2, .nil, MInv.start pat term, rfl, by simp [nodesL]; omega⟩, ?_⟩
  rintro m σ HA ⟨o5, o6, o7, o8, o9, us, cs, kt, kp, tm, ph, rfl, sA, gp, hcs, gd1, hkt, gd2, hkp, hinv, hm, hm9⟩
  have tw : ∀ z ∈ tm, z.1 ∈ pat.bl ∧ ∃ b, go b term = some z.2 := fun z hz => by
    obtain ⟨k, hk, e⟩ := List.mem_iff_getElem.mp hz
    have hl : tm.length = ph.length := by have := congrArg List.length hinv.dom; simpa using this.symm
    have hk' : k < (tm.zip ph).length := by rw [List.length_zip]; omega
    have := hinv.pl _ (List.getElem_mem hk')
    rw [List.getElem_zip] at this
    simp only [e] at this
    exact ⟨bl_go this.1 _ (by simp [Tm.bl]), _, this.2⟩
  have tml : tm.length < 64 := by
    have := nodup_len hinv.nd (m := pat.bl) fun x hx => by
      obtain ⟨z, hz, rfl⟩ := List.mem_map.mp hx
      exact (tw z hz).1
    rw [List.length_map] at this
    omega
  have ktl := hkt.len
  have kpl : kp.length = ph.length := Paired.length hkp
  have phl : ph.length = tm.length := by have := congrArg List.length hinv.dom; simpa using this
  refine ⟨_, rfl, _, .inl ⟨us, SqL.of gp, rfl⟩, ite2 (fun c => ⟨_, fun _ _ h => h, ?_⟩) (fun c => ?_)⟩
  · have hne : us ≠ [] := by intro z; rw [z] at c; exact absurd c (by decide)
    have hlen := Paired.length hcs
    obtain ⟨us0, x, rfl⟩ := snoc_of hne
    obtain ⟨cs0, ⟨t, u, b⟩, rfl⟩ := snoc_of (l := cs) (by intro z; rw [z] at hlen; simp at hlen)
    obtain ⟨hcs0, g, l, uv, vv, rfl, hg, hlp, hl, htu, huv⟩ := paired_unsnoc hcs
    rw [List.map_append, nodesL_append] at hm
    simp only [List.map_cons, List.map_nil, nodesL] at hm
    have hn1 := t.nodes_pos
    have hat := hinv.at' (t, u, b) (by simp)
    refine ⟨_, rfl, .inl ⟨rfl, _, SqL.of gp⟩, p, _, .ref g, rfl, rfl, gp, by simp, ?_⟩
    rw [List.dropLast_concat]
    have kB : TSame HA (upd HA p (HO.lst us0)) := .lst gp
    have lB : ∀ l xs, l ≠ p → HA l = some (.lst xs) → upd HA p (HO.lst us0) l = some (.lst xs) := fun l xs h e => by rw [upd_ne h]; exact e
    have gpB : upd HA p (HO.lst us0) p = some (.lst us0) := upd_same
    have gd1B : upd HA p (HO.lst us0) d1 = some (.dK kt) := by rw [upd_ne n1p]; exact gd1
    have gd2B : upd HA p (HO.lst us0) d2 = some (.dK kp) := by rw [upd_ne n2p]; exact gd2
    have sB : Same H (upd HA p (HO.lst us0)) := fun b ob z => by rw [upd_ne (ne_of_none z f3)]; exact sA _ _ z
    generalize upd HA p (HO.lst us0) = HB at kB lB gpB gd1B gd2B sB ⊢
    have hgB := kB _ _ hg
    have hlB := lB l _ hlp hl
    have htB := htu.mono kB
    have huB := huv.mono kB
    have hcsB := MtN.mono kB lB hcs0
    have hktB := hkt.mono kB
    have hkpB := PhN.mono lB hkp
    refine ⟨_, rfl, _, _, _, _, rfl, rfl, SqT.of hgB, at0', _, rfl, _, _, _, _, rfl, rfl, SqT.of hgB, at1', _, rfl, _, _, _, _, rfl, rfl, SqT.of hgB, at2', ?_⟩
    obtain ⟨a1, xs1, k1, rfl, e1, hB1, hT1⟩ := htB.kind
    refine ⟨_, rfl, _, _, _, _, rfl, rfl, SqT.of e1, at0', rfl, _, rfl, ite2 (fun c1 => ?_) (fun c1 => ?_)⟩
    · have c1' : isB t = true := hB1.mp (by simpa using c1)
      obtain ⟨x, rfl⟩ := (isB_iff t).mp c1'
      obtain ⟨a1', e0, e1'⟩ := termAt_blank.mp htB
      cases e0
      refine ⟨_, rfl, _, _, _, _, rfl, rfl, SqT.of e1', at1', ?_⟩
      have hdof := hktB.dof x
      refine ⟨_, rfl, _, rfl, d1, _, rfl, DGet.k (k := Sum.inr x) gd1B, _, rfl, ite2 (fun c2 => ?_) (fun c2 => ?_)⟩
      · have hnone : look tm x = none := by
          cases e : look tm x with
          | none => rfl
          | some t0 =>
            obtain ⟨v0, e2, _⟩ := hdof.2 t0 e
            rw [e2] at c2
            simp at c2
        have hx : x ∉ tm.map (·.1) := fun z => by
          obtain ⟨t0, e⟩ := look_in z
          rw [hnone] at e
          cases e
        have hxk : Sum.inr x ∉ kt.map (·.1) := by
          rw [hktB.keys]
          intro z
          obtain ⟨y, hy, e⟩ := List.mem_map.mp z
          exact hx (Sum.inr.inj e ▸ hy)
        have hxp : Sum.inr x ∉ kp.map (·.1) := by
          have : kp.map (·.1) = (ph.map (·.1)).map Sum.inr := by
            clear hinv phl kpl gd2 gd2B hkpB
            unfold PhN at hkp
            induction hkp with
            | nil => rfl
            | cons a _ ih => simp only [List.map_cons, ih, a.1]
          rw [this, hinv.dom]
          intro z
          obtain ⟨y, hy, e⟩ := List.mem_map.mp z
          exact hx (Sum.inr.inj e ▸ hy)
        refine ⟨_, rfl, _, rfl, _, rfl, d1, _, rfl, DPut.k (k := Sum.inr x) gd1B (Nat.lt_of_lt_of_le (show kt.length < 100 by omega) (by decide)), ?_⟩
        rw [putK_new hxk]
        have kC : TSame HB (upd HB d1 (HO.dK (kt ++ [(Sum.inr x, vv)]))) := fun b ys z => by rw [upd_ne (ne_of z gd1B (by intro z; cases z))]; exact z
        have lC : ∀ l xs, l ≠ p → HB l = some (.lst xs) → upd HB d1 (HO.dK (kt ++ [(Sum.inr x, vv)])) l = some (.lst xs) := fun l xs _ e => by rw [upd_ne (ne_of e gd1B (by intro z; cases z))]; exact e
        have gpC : upd HB d1 (HO.dK (kt ++ [(Sum.inr x, vv)])) p = some (.lst us0) := by rw [upd_ne n1p.symm]; exact gpB
        have gd1C : upd HB d1 (HO.dK (kt ++ [(Sum.inr x, vv)])) d1 = some (.dK (kt ++ [(Sum.inr x, vv)])) := upd_same
        have gd2C : upd HB d1 (HO.dK (kt ++ [(Sum.inr x, vv)])) d2 = some (.dK kp) := by rw [upd_ne n12.symm]; exact gd2B
        have sC : Same H (upd HB d1 (HO.dK (kt ++ [(Sum.inr x, vv)]))) := fun b ob z => by rw [upd_ne (ne_of_none z f1)]; exact sB _ _ z
        generalize upd HB d1 (HO.dK (kt ++ [(Sum.inr x, vv)])) = HC at kC lC gpC gd1C gd2C sC ⊢
        refine ⟨_, rfl, _, rfl, _, rfl, d2, _, rfl, DPut.k (k := Sum.inr x) gd2C (Nat.lt_of_lt_of_le (show kp.length < 100 by omega) (by decide)), ?_⟩
        rw [putK_new hxp]
        have kD : TSame HC (upd HC d2 (HO.dK (kp ++ [(Sum.inr x, .ref l)]))) := fun b ys z => by rw [upd_ne (ne_of z gd2C (by intro z; cases z))]; exact z
        have lD : ∀ l xs, l ≠ p → HC l = some (.lst xs) → upd HC d2 (HO.dK (kp ++ [(Sum.inr x, .ref l)])) l = some (.lst xs) := fun l xs _ e => by rw [upd_ne (ne_of e gd2C (by intro z; cases z))]; exact e
        have lD' : ∀ l' xs, l' ≠ p → HC l' = some (.lst xs) → upd HC d2 (HO.dK (kp ++ [(Sum.inr x, .ref l)])) l' = some (.lst xs) := fun l' xs _ e => by rw [upd_ne (ne_of e gd2C (by intro z; cases z))]; exact e
        have kBD := kC.trans kD
        exact ⟨nodesL (cs0.map (·.1)), by omega, _, _, _, _, _, us0, cs0, _, _, tm ++ [(x, u)], ph ++ [(x, b)], rfl, fun b ob z => by rw [upd_ne (ne_of_none z f2)]; exact sC _ _ z, by rw [upd_ne n2p.symm]; exact gpC,
          MtN.mono kBD (fun l' xs h e => lD' l' xs h (lC l' xs h e)) hcsB, by rw [upd_ne n12]; exact gd1C, paired_snoc (hktB.mono kBD) ⟨rfl, huB.mono kBD⟩, upd_same, paired_snoc (PhN.mono (fun l' xs h e => lD' l' xs h (lC l' xs h e)) hkpB) ⟨rfl, l, rfl, hlp, lD' l _ hlp (lC l _ hlp hlB)⟩, hinv.put hx, rfl, by omega⟩
      · obtain ⟨t0, hl0⟩ : ∃ t0, look tm x = some t0 := by
          cases e : look tm x with
          | none => rw [hdof.1 e] at c2; simp at c2
          | some t0 => exact ⟨t0, rfl⟩
        obtain ⟨v0, e2, hv0⟩ := hdof.2 t0 hl0
        have hm0 := look_mem hl0
        have hz0 : t0.nodes ≤ 30000 := by
          obtain ⟨b0, hb0⟩ := (tw _ hm0).2
          have : b0.length + t0.nodes ≤ term.nodes := go_len b0 term t0 hb0
          omega
        have hget : DGet HB d1 (.str x) (some v0) := by
          have := DGet.k (k := Sum.inr x) gd1B
          rw [e2] at this
          exact this
        refine ⟨_, rfl, _, rfl, d1, _, rfl, hget, _, rfl, _, _, t0, u, rfl, hv0, huB, hz0, fun bb HC sC hbb => ⟨_, rfl, ite2 (fun c3 => ?_) (fun c3 => ?_)⟩⟩
        · have hne : t0 ≠ u := fun z => by rw [hbb.mpr z] at c3; simp at c3
          obtain ⟨z, l', hz1, hz2, hz3, hz4, hz5⟩ := valV_ph (PhN.mono (fun l xs _ e => sC _ _ e) hkpB) x (by rw [hinv.dom]; exact List.mem_map.mpr ⟨_, hm0, rfl⟩)
          have hget2 : DGet HC d2 (.str x) (some (.ref l')) := by
            have := DGet.k (k := Sum.inr x) (sC _ _ gd2B)
            rw [hz3] at this
            exact this
          refine ⟨_, rfl, _, rfl, d2, _, rfl, hget2, _, rfl, (by show 3 ≤ sizeLine; decide), fun a fa => ?_⟩
          have t9 := same_new fa (HO.tup [.str "two", .ref l', .ref l])
          have hpl : ∃ y ∈ tm.zip ph, y.1 = (x, t0) ∧ y.2 = z := by
            obtain ⟨i, hi, ei⟩ := List.mem_iff_getElem.mp hz1
            have hi' : i < tm.length := by omega
            have hd : (ph.map (·.1))[i]'(by rw [List.length_map]; exact hi) = (tm.map (·.1))[i]'(by rw [List.length_map]; exact hi') := by
              have := congrArg (fun L : List Str => L[i]?) hinv.dom
              simp only [List.getElem?_map, List.getElem?_eq_getElem hi, List.getElem?_eq_getElem hi', Option.map_some, Option.some.injEq] at this
              simpa using this
            rw [List.getElem_map, List.getElem_map, ei, hz2] at hd
            have hlk := look_of hinv.nd (show (tm[i].1, tm[i].2) ∈ tm from List.getElem_mem hi')
            rw [← hd, hl0] at hlk
            refine ⟨(tm[i], ph[i]), List.mem_of_getElem? (List.getElem?_zip_eq_some.mpr ⟨List.getElem?_eq_getElem hi', List.getElem?_eq_getElem hi⟩), ?_, ei⟩
            exact Prod.ext hd.symm (Option.some.inj hlk).symm
          obtain ⟨y, hy, ey1, ey2⟩ := hpl
          have := hinv.pl y hy
          rw [ey1, ey2] at this
          exact q3 a l' l z.2 b x t0 u _ (sB.trans (sC.trans t9)) upd_same (t9 _ _ hz5) (t9 _ _ (sC _ _ hlB)) this.1 hat.1 this.2 hat.2 hne
        · have heq : t0 = u := hbb.mp (by simpa using c3)
          subst heq
          exact ⟨nodesL (cs0.map (·.1)), by omega, _, _, _, _, _, us0, cs0, kt, kp, tm, ph, rfl, sB.trans sC, sC _ _ gpB, MtN.mono (.of sC) (fun l xs _ e => sC _ _ e) hcsB, sC _ _ gd1B, hktB.mono (.of sC), sC _ _ gd2B, PhN.mono (fun l xs _ e => sC _ _ e) hkpB, hinv.kept hm0, rfl, by omega⟩
    · have c1' : isB t = false := Bool.eq_false_iff.mpr fun z => c1 (by simpa using hB1.mpr z)
      have hdd := hdL_dep t
      refine ⟨_, rfl, _, t, rfl, htB, fun y1 HC sC d1' => ⟨_, rfl, _, u, rfl, huB.mono (.of sC), fun y2 HD sD d2' => ⟨hdL t, hdL u, d1'.same sD, d2', (by show (A.deeper _).units + _ < cLine; omega), fun bb hbb => ⟨_, rfl, ite2 (fun c2 => ?_) (fun c2 => ?_)⟩⟩⟩⟩
      · have sBD := sC.trans sD
        refine ⟨_, rfl, (by show 2 ≤ sizeLine; decide), fun a fa => ?_⟩
        have t9 := same_new fa (HO.tup [.str "differ", .ref l])
        exact q2 a l b t u _ (sB.trans (sBD.trans t9)) upd_same (t9 _ _ (sBD _ _ hlB)) hat.1 hat.2 c1' (hbb.mp c2)
      · have heq : hdL t = hdL u := Classical.byContradiction fun z => c2 (hbb.mpr z)
        have sBD := sC.trans sD
        have e1D := sBD _ _ e1
        refine ⟨_, rfl, _, _, _, _, rfl, rfl, SqT.of e1D, at0', rfl, _, rfl, ite2 (fun c3 => ?_) (fun c3 => ?_)⟩
        · have c3' : isT t = true := hT1.mp (by simpa using c3)
          obtain ⟨w1, ps, qs, e1', e2', hl2⟩ : ∃ w ps qs, t = .thing w ps ∧ u = .thing w qs ∧ ps.length = qs.length := by
            rcases hdL_eq heq with z | z
            · subst z
              cases t with
              | num _ => cases c3'
              | name _ => cases c3'
              | blank _ => cases c3'
              | thing w ps => exact ⟨w, ps, ps, rfl, rfl, rfl⟩
            · exact z
          subst e1' e2'
          have hgl := go_len _ _ _ hat.1
          have hpn' := len_le_nodes ps
          simp only [Tm.nodes] at hm hgl
          refine ⟨_, rfl, .inl ⟨rfl, _, SqL.of (sBD _ _ gpB)⟩, _, rfl, _, rfl, _, rfl, _, _, l, w1, w1, ps, qs, b, rfl, htB.mono (.of sBD), huB.mono (.of sBD), hl2, sBD _ _ hlB, by omega, by omega, fun r xs HE sE fr gr hxs => ?_⟩
          have sBE := sBD.trans sE
          have gpE := sBE _ _ gpB
          have hxl := Paired.length hxs
          have hwl := congrArg List.length (within_len ps qs b hl2)
          rw [List.length_map, List.length_reverse] at hwl
          have hul := Paired.length hcsB
          have hcl := len_le_nodes (cs0.map (·.1))
          rw [List.length_map] at hcl
          refine ⟨p, r, us0, xs, rfl, rfl, gpE, gr, Nat.le_trans (show us0.length + xs.length ≤ 2000 by omega) (by decide), ?_⟩
          have kF : TSame HE (upd HE p (HO.lst (us0 ++ xs))) := .lst gpE
          have lF : ∀ l xs', l ≠ p → HE l = some (.lst xs') → upd HE p (HO.lst (us0 ++ xs)) l = some (.lst xs') := fun l xs' h e => by rw [upd_ne h]; exact e
          refine ⟨nodesL ((cs0 ++ within ps qs b).map (·.1)), ?_, _, _, _, _, _, us0 ++ xs, cs0 ++ within ps qs b, kt, kp, tm, ph, rfl, fun b ob z => by rw [upd_ne (ne_of_none z f3)]; exact sBE _ _ (sB _ _ z), upd_same, MtN.mono kF lF (paired_app (MtN.mono (.of sBE) (fun l xs _ e => sBE _ _ e) hcsB) (paired_mono (fun z c ⟨g', l', u', v', e, h1, h2, h3, h4, h5⟩ => ⟨g', l', u', v', e, h1, (fun y => by rw [y, sBD _ _ gpB] at h2; cases h2), h3, h4, h5⟩) hxs)), by rw [upd_ne n1p]; exact sBE _ _ gd1B, KvsAt.mono kF (hktB.mono (.of sBE)), by rw [upd_ne n2p]; exact sBE _ _ gd2B, PhN.mono lF (PhN.mono (fun l xs _ e => sBE _ _ e) hkpB), hinv.parts hl2, rfl, ?_⟩
          · rw [List.map_append, nodesL_append, within_len ps qs b hl2, nodesL_reverse]
            omega
          · rw [List.map_append, nodesL_append, within_len ps qs b hl2, nodesL_reverse]
            omega
        · have c3' : isT t = false := Bool.eq_false_iff.mpr fun z => c3 (by simpa using hT1.mpr z)
          have e0 : t = u := by
            rcases hdL_eq heq with z | ⟨_, _, _, z, _⟩
            · exact z
            · rw [z] at c3'; cases c3'
          subst e0
          exact ⟨nodesL (cs0.map (·.1)), by omega, _, _, _, _, _, us0, cs0, kt, kp, tm, ph, rfl, sB.trans sBD, sBD _ _ gpB, MtN.mono (.of sBD) (fun l xs _ e => sBD _ _ e) hcsB, sBD _ _ gd1B, hktB.mono (.of sBD), sBD _ _ gd2B, PhN.mono (fun l xs _ e => sBD _ _ e) hkpB, hinv.leaf (fun φ => by cases t with | num _ => rfl | name _ => rfl | blank _ => cases c1' | thing _ _ => cases c3'), rfl, by omega⟩
  · have e : us = [] := by
      cases us with
      | nil => rfl
      | cons a b => exact absurd rfl c
    subst e
    have hlen := Paired.length hcs
    have e : cs = [] := List.length_eq_zero_iff.mp hlen.symm
    subst e
    refine ⟨_, rfl, d1, kt, tm, rfl, gd1, hkt, hinv.nd, tml, fun z hz => ?_, fun l ps ss HB sB fl gl hperm hrise hfill => ?_⟩
    · obtain ⟨b, hb⟩ := (tw z hz).2
      have := go_len _ _ _ hb
      omega
    refine ⟨(by show 2 ≤ sizeLine; decide), fun a fa => ?_⟩
    have t9 := same_new fa (HO.tup [.str "match", .ref l])
    refine q1 a l ps (nrm tm ss) _ (sA.trans (sB.trans t9)) upd_same (t9 _ _ gl) (hfill.mono (.of t9)) (nrm_rise hrise) (fun z hz => ?_) ?_
    · obtain ⟨h1, h2, h3⟩ := nrm_mem hz
      have := tw _ (look_mem h2)
      exact ⟨this.1, h3, this.2⟩
    · rw [fill_sub]
      refine (hinv.sol _).mpr ⟨fun c hc => (by cases hc), fun z hz => ?_⟩
      have hin : z.1 ∈ ss := hperm.mem_iff.mpr (List.mem_map.mpr ⟨z, hz, rfl⟩)
      show (look (nrm tm ss) z.1).getD (.blank z.1) = z.2
      rw [look_nrm hin, look_of hinv.nd hz]
      rfl
end
end K12
set_option Elab.async false
set_option linter.all false
set_option maxRecDepth 100000
namespace BF
open PySem PySem.Spec PyProof.Rows L2
/-! ### written-out displays, their readings kept closed -/
section
variable {X : Cx} {e e1 e2 : Expr} {es : List Expr} {t : TA} {te te1 te2 : TE} {pos : Pos}
end
end BF
set_option Elab.async false
set_option linter.all false
set_option maxRecDepth 100000
set_option maxHeartbeats 4000000
namespace K12
open PySem L2 BF
/-! ### all_parts, taken, replaced, filled -/
section
variable {P : Program} {w : World} {K : PySem.W.Frag} {mg : Str → Option Value} {base : Heap}
theorem terms_rev {H : Hp} {vs : List V} {ts : List Tm} (h : TermsAt H vs ts) : TermsAt H vs.reverse ts.reverse := by
  induction ts generalizing vs with
  | nil => have := h.len; rw [List.length_eq_zero_iff.mp this]; exact .nil
  | cons t r ih =>
    simp only [TermsAt, dtL, DatsAt] at h
    obtain ⟨v, us, rfl, h1, h2⟩ := h
    rw [List.reverse_cons, List.reverse_cons]
    exact (ih h2).app (.cons h1 .nil)
def spAll : Sp := fun vs H Q _ => ∃ (v : V) (t : Tm), vs = [v] ∧ TermAt H v t ∧ t.nodes ≤ 900 ∧ ∀ l us H', Same H H' → H l = none → H' l = some (.lst us) → TermsAt H' us t.lp → Q (.ref l) H'
theorem ok_all_parts {f : Addr} {fd : FuncData} (F : Fun K "all_parts" "all_parts" s_all_parts f fd) (T : Bi mg) : FnOk P w K mg base CX0 1 f fd ["term"] spAll := by
  refine F.ok sc_all_parts (fun vs H Q E h => ?_) (fun cdv A outer s H vs Q E hr h => ?_)
  · obtain ⟨_, _, rfl, _⟩ := h
    rfl
  obtain ⟨v, t, rfl, ht, hn, q⟩ := h
  refine ⟨_, (pss_cons (ps_set (i := 1) sc_all_parts.nd rfl (Or.inl rfl) (pe_lst pa_nil))
      (pss_cons (ps_set (i := 2) sc_all_parts.nd rfl (Or.inl rfl) (pe_lst (pa_cons (pv 0) pa_nil)))
      (pss_cons (ps_while PassesOwn.never (pt_truth (pv 2) (fun _ => rfl)) (pss_cons (ps_set (i := 3) sc_all_parts.nd rfl (Or.inl rfl) (pe_bm0 PySem.F.plainAttrs_list PySem.F.slot_list_pop PySem.F.type_list_pop mt_pop (pv 2)))
        (pss_cons (ps_expr (pe_bm PySem.F.plainAttrs_list PySem.F.slot_list_append PySem.F.type_list_append mt_append (pv 1) (pa_cons (pv 3) pa_nil)))
        (pss_one (ps_if (pt_cmpR op_eq (pe_ix ix_tup (pv 3) pe_int (fun _ _ => rfl)) pe_str (nomark _)) (pss_one (ps_expr (pe_bm PySem.F.plainAttrs_list PySem.F.slot_list_extend PySem.F.type_list_extend mt_extend (pv 2) (pa_cons (pe_listrevT T.b_list T.b_reversed (pe_ix ix_tup (pv 3) pe_int (fun _ _ => rfl))) pa_nil)))) pss_nil)))))
      (pss_one (ps_ret (pv 1)))))), ?_⟩
  refine ⟨(by show 0 ≤ sizeLine; decide), fun p1 hp1 => ?_⟩
  have s1 := same_new hp1 (HO.lst [])
  have x1 : upd H p1 (HO.lst []) p1 = some _ := upd_same
  generalize upd H p1 (HO.lst []) = H1 at s1 x1 ⊢
  refine ⟨_, rfl, (by show 1 ≤ sizeLine; decide), fun p2 hp2 => ?_⟩
  have s2 := same_new hp2 (HO.lst [v])
  have x2 : upd H1 p2 (HO.lst [v]) p2 = some _ := upd_same
  have n12 : p1 ≠ p2 := ne_of_none x1 hp2
  have f2 : H p2 = none := s1.free hp2
  generalize upd H1 p2 (HO.lst [v]) = H2 at s2 x2 ⊢
  refine ⟨fun m σ H3 => ∃ (o : Option V) (rs us : List V) (done ts : List Tm), σ = [some v, some (.ref p1), some (.ref p2), o] ∧ Same H H3 ∧ H3 p1 = some (.lst rs) ∧ TermsAt H3 rs done ∧ H3 p2 = some (.lst us) ∧ TermsAt H3 us ts ∧
      nodesL ts = m ∧ done ++ lpL ts.reverse = t.lp ∧ done.length + m ≤ t.nodes,
    ⟨_, none, [], [v], [], [t], rfl, s1.trans s2, s2 _ _ x1, .nil, x2, .cons (ht.mono (.of (s1.trans s2))) .nil, rfl, by simp [lpL], by simp [nodesL]⟩, ?_⟩
  rintro m σ H3 ⟨o, rs, us, done, ts, rfl, s3, g1, hrs, g2, hus, hm, hout, hsz⟩
  refine ⟨_, rfl, _, .inl ⟨us, SqL.of g2, rfl⟩, ite2 (fun c => ⟨_, fun _ _ h => h, ?_⟩) (fun c => ?_)⟩
  · -- a turn
    have hne : us ≠ [] := by intro z; rw [z] at c; exact absurd c (by decide)
    have hlen := hus.len
    obtain ⟨us0, u, rfl⟩ := snoc_of hne
    obtain ⟨ts0, t1, rfl⟩ := snoc_of (l := ts) (by intro z; rw [z] at hlen; simp at hlen)
    obtain ⟨h0, hu1⟩ := hus.snoc
    rw [nodesL_append] at hm
    simp only [nodesL] at hm
    rw [List.reverse_append] at hout
    simp only [List.reverse_cons, List.reverse_nil, List.nil_append, List.singleton_append, lpL] at hout
    have hl0 := len_le_nodes ts0
    have hu0 := h0.len
    have hr0 := hrs.len
    have hn1 := t1.nodes_pos
    refine ⟨_, rfl, .inl ⟨rfl, _, SqL.of g2⟩, p2, _, u, rfl, rfl, g2, by simp, ?_⟩
    rw [List.dropLast_concat]
    have k4 : TSame H3 (upd H3 p2 (HO.lst us0)) := .lst g2
    have x4 : upd H3 p2 (HO.lst us0) p2 = some _ := upd_same
    have y4 : upd H3 p2 (HO.lst us0) p1 = some (.lst rs) := by rw [upd_ne n12]; exact g1
    have s4 : Same H (upd H3 p2 (HO.lst us0)) := fun b ob z => by rw [upd_ne (ne_of_none z f2)]; exact s3 _ _ z
    generalize upd H3 p2 (HO.lst us0) = H4 at k4 x4 y4 s4 ⊢
    refine ⟨_, rfl, .inl ⟨rfl, _, SqL.of y4⟩, _, rfl, p1, _, _, rfl, rfl, y4, big (by omega), ?_⟩
    have k5 : TSame H4 (upd H4 p1 (HO.lst (rs ++ [u]))) := .lst y4
    have x5 : upd H4 p1 (HO.lst (rs ++ [u])) p1 = some _ := upd_same
    have y5 : upd H4 p1 (HO.lst (rs ++ [u])) p2 = some (.lst us0) := by rw [upd_ne n12.symm]; exact x4
    have s5 : Same H (upd H4 p1 (HO.lst (rs ++ [u]))) := fun b ob z => by rw [upd_ne (ne_of_none z hp1)]; exact s4 _ _ z
    generalize upd H4 p1 (HO.lst (rs ++ [u])) = H5 at k5 x5 y5 s5 ⊢
    have h5 := (h0.mono k4).mono k5
    have ht1 := (hu1.mono k4).mono k5
    have hd5 : TermsAt H5 (rs ++ [u]) (done ++ [t1]) := ((hrs.mono k4).mono k5).app (.cons ht1 .nil)
    cases t1 with
    | num n =>
      obtain ⟨a, rfl, e1⟩ := termAt_num.mp ht1
      refine ⟨_, rfl, _, _, _, _, rfl, rfl, SqT.of e1, rfl, rfl, _, rfl, ite_f (by decide +kernel) ?_⟩
      exact ⟨nodesL ts0, by omega, _, _, us0, _, ts0, rfl, s5, x5, hd5, y5, h5, rfl, by simpa [Tm.lp] using hout, by rw [List.length_append]; simp only [List.length_cons, List.length_nil]; omega⟩
    | name n =>
      obtain ⟨a, rfl, e1⟩ := termAt_name.mp ht1
      refine ⟨_, rfl, _, _, _, _, rfl, rfl, SqT.of e1, rfl, rfl, _, rfl, ite_f (by decide +kernel) ?_⟩
      exact ⟨nodesL ts0, by omega, _, _, us0, _, ts0, rfl, s5, x5, hd5, y5, h5, rfl, by simpa [Tm.lp] using hout, by rw [List.length_append]; simp only [List.length_cons, List.length_nil]; omega⟩
    | blank n =>
      obtain ⟨a, rfl, e1⟩ := termAt_blank.mp ht1
      refine ⟨_, rfl, _, _, _, _, rfl, rfl, SqT.of e1, rfl, rfl, _, rfl, ite_f (by decide +kernel) ?_⟩
      exact ⟨nodesL ts0, by omega, _, _, us0, _, ts0, rfl, s5, x5, hd5, y5, h5, rfl, by simpa [Tm.lp] using hout, by rw [List.length_append]; simp only [List.length_cons, List.length_nil]; omega⟩
    | thing n qs =>
      obtain ⟨a, b, pv, rfl, e1, e2, e3⟩ := termAt_thing.mp ht1
      have hpl := e3.len
      have hpn := len_le_nodes qs
      simp only [Tm.nodes] at hm
      refine ⟨_, rfl, _, _, _, _, rfl, rfl, SqT.of e1, rfl, rfl, _, rfl, ite_t (by decide +kernel) ?_⟩
      refine ⟨_, rfl, .inl ⟨rfl, _, SqL.of y5⟩, _, rfl, _, _, _, _, rfl, rfl, SqT.of e1, rfl, b, pv, rfl, SqT.of e2, fun l hl => ?_⟩
      have s6 := same_new hl (HO.lst pv.reverse)
      have x6 : upd H5 l (HO.lst pv.reverse) l = some _ := upd_same
      generalize upd H5 l (HO.lst pv.reverse) = H6 at s6 x6 ⊢
      refine ⟨p2, l, us0, pv.reverse, rfl, rfl, s6 _ _ y5, x6, small (by rw [List.length_reverse]; omega), ?_⟩
      have k7 : TSame H6 (upd H6 p2 (HO.lst (us0 ++ pv.reverse))) := .lst (s6 _ _ y5)
      refine ⟨nodesL ts0 + nodesL qs, by omega, _, _, us0 ++ pv.reverse, _, ts0 ++ qs.reverse, rfl, fun b' ob z => by rw [upd_ne (ne_of_none z f2)]; exact s6 _ _ (s5 _ _ z), by rw [upd_ne n12]; exact s6 _ _ x5, TermsAt.mono k7 (hd5.mono (.of s6)), upd_same,
        TermsAt.mono k7 ((h5.mono (.of s6)).app (terms_rev (e3.mono (.of s6)))), by rw [nodesL_append, nodesL_reverse], ?_, by rw [List.length_append]; simp only [List.length_cons, List.length_nil]; omega⟩
      rw [List.reverse_append, List.reverse_reverse, lpL_append, ← hout]
      simp [Tm.lp]
  · have e : us = [] := by
      cases us with
      | nil => rfl
      | cons a b => exact absurd rfl c
    subst e
    have hlen := hus.len
    have e : ts = [] := List.length_eq_zero_iff.mp hlen.symm
    subst e
    have e2 : done = t.lp := by simpa [lpL] using hout
    refine ⟨_, rfl, ?_⟩
    exact q p1 rs H3 s3 hp1 g1 (by rw [← e2]; exact hrs)
def spTaken : Sp := fun vs H Q _ => ∃ (p : Addr) (us : List V) (n : Nat), vs = [.ref p, .int n] ∧ H p = some (.lst us) ∧ n ≤ us.length ∧ us.length ≤ 1000 ∧
  ∀ l H', SameX p H H' → H l = none → H' p = some (.lst (us.take (us.length - n))) → H' l = some (.lst (us.drop (us.length - n)).reverse) → Q (.ref l) H'
theorem ok_taken {f : Addr} {fd : FuncData} (F : Fun K "taken" "taken" s_taken f fd) (T : Bi mg) : FnOk P w K mg base CX0 1 f fd ["made", "count"] spTaken := by
  refine F.ok sc_taken (fun vs H Q E h => ?_) (fun cdv A outer s H vs Q E hr h => ?_)
  · obtain ⟨_, _, _, rfl, _⟩ := h
    rfl
  obtain ⟨p, us, n, rfl, hp, hn, hsz, q⟩ := h
  refine ⟨_, (pss_cons (ps_set (i := 2) sc_taken.nd rfl (Or.inl rfl) (pe_lst pa_nil))
      (pss_cons (ps_while PassesOwn.never (pt_cmpR op_lt (pe_blt call_len_seq T.b_len bt_len (pa_cons (pv 2) pa_nil)) (pv 1) (nomark _)) (pss_one (ps_expr (pe_bm PySem.F.plainAttrs_list PySem.F.slot_list_append PySem.F.type_list_append mt_append (pv 2) (pa_cons (pe_bm0 PySem.F.plainAttrs_list PySem.F.slot_list_pop PySem.F.type_list_pop mt_pop (pv 0)) pa_nil)))))
      (pss_one (ps_ret (pv 2))))), ?_⟩
  refine ⟨(by show 0 ≤ sizeLine; decide), fun l hl => ?_⟩
  have npl : p ≠ l := ne_of_none hp hl
  refine ⟨fun m σ H3 => ∃ j : Nat, j ≤ n ∧ m = n - j ∧ σ = [some (.ref p), some (.int n), some (.ref l)] ∧ SameX p H H3 ∧ H3 p = some (.lst (us.take (us.length - j))) ∧ H3 l = some (.lst (us.drop (us.length - j)).reverse),
    ⟨_, 0, Nat.zero_le _, rfl, rfl, fun b o _ z => same_new hl _ _ _ z, by rw [upd_ne npl]; simpa using hp, by rw [upd_same]; simp⟩, ?_⟩
  rintro m σ H3 ⟨j, hj, rfl, rfl, sx, g1, g2⟩
  have hjl : ((us.drop (us.length - j)).reverse).length = j := by rw [List.length_reverse, List.length_drop]; omega
  refine ⟨_, rfl, l, _, rfl, .inl (SqL.of g2), _, rfl, _, _, rfl, rfl, _, rfl, ite2 (fun c => ⟨_, fun _ _ h => h, ?_⟩) (fun c => ?_)⟩
  · have c' : j < n := by
      have := of_decide_eq_true c
      rw [hjl] at this
      omega
    obtain ⟨y, hy⟩ : ∃ y, us[us.length - j - 1]? = some y := ⟨_, List.getElem?_eq_getElem (by omega)⟩
    have hlast : (us.take (us.length - j))[(us.take (us.length - j)).length - 1]? = some y := by
      have e : (us.take (us.length - j)).length - 1 = us.length - j - 1 := by rw [List.length_take]; omega
      rw [e, List.getElem?_take_of_lt (by omega)]
      exact hy
    have hdl : (us.take (us.length - j)).dropLast = us.take (us.length - (j + 1)) := by
      rw [List.dropLast_eq_take, List.take_take, List.length_take]
      congr 1
      omega
    refine ⟨_, rfl, .inl ⟨rfl, _, SqL.of g2⟩, _, rfl, .inl ⟨rfl, _, SqL.of g1⟩, p, _, y, rfl, rfl, g1, hlast, ?_⟩
    rw [hdl]
    have x4 : upd H3 p (HO.lst (us.take (us.length - (j + 1)))) p = some _ := upd_same
    have y4 : upd H3 p (HO.lst (us.take (us.length - (j + 1)))) l = some (.lst (us.drop (us.length - j)).reverse) := by rw [upd_ne npl.symm]; exact g2
    have s4 : SameX p H (upd H3 p (HO.lst (us.take (us.length - (j + 1))))) := fun b o hb z => by rw [upd_ne hb]; exact sx b o hb z
    generalize upd H3 p (HO.lst (us.take (us.length - (j + 1)))) = H4 at x4 y4 s4 ⊢
    refine ⟨l, _, y, rfl, rfl, y4, big (by rw [hjl]; omega), n - (j + 1), by omega, j + 1, by omega, rfl, rfl, fun b o hb z => ?_, by rw [upd_ne npl]; exact x4, ?_⟩
    · rw [upd_ne (ne_of_none z hl)]
      exact s4 b o hb z
    · rw [upd_same]
      have e : us.drop (us.length - (j + 1)) = y :: us.drop (us.length - j) := by
        have h1 : us.length - (j + 1) < us.length := by omega
        rw [List.drop_eq_getElem_cons h1]
        have h2 : us.length - (j + 1) + 1 = us.length - j := by omega
        rw [h2]
        congr 1
        have h3 : us.length - j - 1 = us.length - (j + 1) := by omega
        rw [h3, List.getElem?_eq_getElem h1] at hy
        exact Option.some.inj hy
      rw [e, List.reverse_cons]
  · have c' : ¬ j < n := by
      intro z
      refine c (decide_eq_true ?_)
      rw [hjl]
      omega
    have e : j = n := by omega
    subst e
    exact ⟨_, rfl, q l H3 sx hl g1 g2⟩
def spRep : Sp := fun vs H Q _ => ∃ (v : V) (t : Tm) (d : Addr) (kvs : List (Key × V)) (f : Fl), vs = [v, .ref d] ∧ TermAt H v t ∧ t.nodes ≤ 200 ∧ H d = some (.dK kvs) ∧ DOf H kvs f ∧ ∀ v' H', Same H H' → TermAt H' v' (t.fill f) → Q v' H'
theorem ok_replaced {f0 : Addr} {fd : FuncData} (F : Fun K "replaced" "replaced" s_replaced f0 fd) (T : Bi mg) (c_all_parts : Cal P w K mg base 1 "all_parts" ["term"] spAll) (c_taken : Cal P w K mg base 1 "taken" ["made", "count"] spTaken) :
    FnOk P w K mg base CX0 2 f0 fd ["term", "terms"] spRep := by
  refine F.ok sc_replaced (fun vs H Q E h => ?_) (fun cdv A outer s H vs Q E hr h => ?_)
  · obtain ⟨_, _, _, _, _, rfl, _⟩ := h
    rfl
  obtain ⟨v, t, d, kvs, f, rfl, ht, hn, hd, hD, q⟩ := h
  have hu : (A.deeper (PyProof.Rows.envOfC "replaced" (defScope s_replaced) s.heap.objs.size f0 cdv)).units + 1 < cLine := by have := hr.un; omega
  refine ⟨_, (pss_cons (ps_set (i := 2) sc_replaced.nd rfl (Or.inl rfl) (pe_lst pa_nil))
      (pss_cons (ps_for PassesOwn.never rfl (pi_revL rfl T.b_reversed (pa_cons (pe_cal c_all_parts (hr.mono (by decide)) (pa_cons (pv 0) pa_nil)) pa_nil)) (pg_name (i := 3) sc_replaced.nd rfl (Or.inl rfl)) (pss_one (ps_if (pt_cmpR op_eq (pe_ix ix_tup (pv 3) pe_int (fun _ _ => rfl)) pe_str (nomark _)) (pss_cons (ps_set (i := 4) sc_replaced.nd rfl (Or.inl rfl) (pe_cal c_taken (hr.mono (by decide)) (pa_cons (pv 2) (pa_cons (pe_blt call_len_seq T.b_len bt_len (pa_cons (pe_ix ix_tup (pv 3) pe_int (fun _ _ => rfl)) pa_nil)) pa_nil))))
          (pss_one (ps_expr (pe_bm PySem.F.plainAttrs_list PySem.F.slot_list_append PySem.F.type_list_append mt_append (pv 2) (pa_cons (pe_tup (pa_cons pe_str (pa_cons (pe_ix ix_tup (pv 3) pe_int (fun _ _ => rfl)) (pa_cons (pe_bty call_tuple_of T.b_tuple bt_tuple (pa_cons (pv 4) pa_nil)) pa_nil)))) pa_nil))))) (pss_one (ps_if (pt_cmpR op_eq (pe_ix ix_tup (pv 3) pe_int (fun _ _ => rfl)) pe_str (nomark _)) (pss_one (ps_expr (pe_bm PySem.F.plainAttrs_list PySem.F.slot_list_append PySem.F.type_list_append mt_append (pv 2) (pa_cons (pe_dget2 hu (pv 1) (pe_ix ix_tup (pv 3) pe_int (fun _ _ => rfl)) (pv 3) ⟨rfl, rfl, rfl, rfl⟩) pa_nil)))) (pss_one (ps_expr (pe_bm PySem.F.plainAttrs_list PySem.F.slot_list_append PySem.F.type_list_append mt_append (pv 2) (pa_cons (pv 3) pa_nil)))))))))
      (pss_one (ps_ret (pe_ix ix_list (pv 2) pe_int (fun _ _ => rfl)))))), ?_⟩
  refine ⟨(by show 0 ≤ sizeLine; decide), fun p hp => ?_⟩
  have s1 := same_new hp (HO.lst [])
  have x1 : upd H p (HO.lst []) p = some _ := upd_same
  generalize upd H p (HO.lst []) = H1 at s1 x1 ⊢
  refine ⟨_, rfl, v, t, rfl, ht.mono (.of s1), by omega, fun l us H2 s2 fl hl hus => ?_⟩
  have npl : p ≠ l := ne_of_none x1 fl
  have hfl : H l = none := s1.free fl
  have hul := hus.len
  have hll := lp_len t
  have hlen : us.length = t.nodes := by omega
  refine ⟨l, us, rfl, SqL.of hl, for_revL (K := K) (a := l) (xs := us) (fun i σ H3 => ∃ (o3 o4 : Option V) (ms : List V) (made : List Tm), σ = [some v, some (.ref d), some (.ref p), o3, o4] ∧ Same H H3 ∧ H3 l = some (.lst us) ∧ TermsAt H3 us t.lp ∧ H3 p = some (.lst ms) ∧ TermsAt H3 ms made ∧
      made = frun f [] (t.lp.reverse.take i) ∧ Fit made.length (t.lp.reverse.drop i) ∧ made.length ≤ i)
    ⟨none, none, [], [], rfl, s1.trans s2, hl, hus, s2 _ _ x1, .nil, by simp [frun], by simpa using fit_all t, Nat.le_refl _⟩ (fun i σ H3 _ ⟨_, _, _, _, _, _, g, _⟩ => SqL.of g) ?_ ?_⟩
  · rintro i x σ H3 hx ⟨o3, o4, ms, made, rfl, s3, gl, gus, gp, gms, hmade, hfit, hml⟩
    have hi : i < us.length := by have := (List.getElem?_eq_some_iff.mp hx).1; simpa using this
    have hir : i < t.lp.reverse.length := by rw [List.length_reverse]; omega
    have hxt : TermAt H3 x (t.lp.reverse[i]) := by
      have h1 := (terms_rev gus).at i (by rw [List.length_reverse]; exact hi) hir
      have h2 : us.reverse[i]'(by rw [List.length_reverse]; exact hi) = x := (List.getElem?_eq_some_iff.mp hx).2
      rw [h2] at h1
      exact h1
    have hrun : frun f [] (t.lp.reverse.take (i + 1)) = fturn f made (t.lp.reverse[i]) := by
      rw [List.take_succ_eq_append_getElem hir, frun_append, ← hmade]
      rfl
    rw [List.drop_eq_getElem_cons hir] at hfit
    have gd : H3 d = some (.dK kvs) := s3 _ _ hd
    have gD : DOf H3 kvs f := hD.mono (.of s3)
    have gml := gms.len
    generalize hpt : t.lp.reverse[i] = pt at hxt hrun hfit
    cases pt with
    | num n =>
      obtain ⟨a, rfl, e1⟩ := termAt_num.mp hxt
      refine ⟨_, rfl, _, _, _, _, rfl, rfl, SqT.of e1, rfl, rfl, _, rfl, ite_f (by decide +kernel) ?_⟩
      refine ⟨_, rfl, _, _, _, _, rfl, rfl, SqT.of e1, rfl, rfl, _, rfl, ite_f (by decide +kernel) ?_⟩
      refine ⟨_, rfl, .inl ⟨rfl, _, SqL.of gp⟩, _, rfl, p, _, _, rfl, rfl, gp, big (by omega), ?_⟩
      have k4 : TSame H3 (upd H3 p (HO.lst (ms ++ [.ref a]))) := .lst gp
      refine ⟨_, _, _, made ++ [.num n], rfl, fun b ob z => by rw [upd_ne (ne_of_none z hp)]; exact s3 _ _ z, by rw [upd_ne npl.symm]; exact gl, gus.mono k4, upd_same, TermsAt.mono k4 (gms.app (.cons hxt .nil)), by rw [hrun]; rfl, by simpa [Fit] using hfit, by simp; omega⟩
    | name n =>
      obtain ⟨a, rfl, e1⟩ := termAt_name.mp hxt
      refine ⟨_, rfl, _, _, _, _, rfl, rfl, SqT.of e1, rfl, rfl, _, rfl, ite_f (by decide +kernel) ?_⟩
      refine ⟨_, rfl, _, _, _, _, rfl, rfl, SqT.of e1, rfl, rfl, _, rfl, ite_f (by decide +kernel) ?_⟩
      refine ⟨_, rfl, .inl ⟨rfl, _, SqL.of gp⟩, _, rfl, p, _, _, rfl, rfl, gp, big (by omega), ?_⟩
      have k4 : TSame H3 (upd H3 p (HO.lst (ms ++ [.ref a]))) := .lst gp
      refine ⟨_, _, _, made ++ [.name n], rfl, fun b ob z => by rw [upd_ne (ne_of_none z hp)]; exact s3 _ _ z, by rw [upd_ne npl.symm]; exact gl, gus.mono k4, upd_same, TermsAt.mono k4 (gms.app (.cons hxt .nil)), by rw [hrun]; rfl, by simpa [Fit] using hfit, by simp; omega⟩
    | blank n =>
      obtain ⟨a, rfl, e1⟩ := termAt_blank.mp hxt
      refine ⟨_, rfl, _, _, _, _, rfl, rfl, SqT.of e1, rfl, rfl, _, rfl, ite_f (by decide +kernel) ?_⟩
      refine ⟨_, rfl, _, _, _, _, rfl, rfl, SqT.of e1, rfl, rfl, _, rfl, ite_t (by decide +kernel) ?_⟩
      obtain ⟨u, hu', htu⟩ : ∃ u, (valV kvs (Sum.inr n)).getD (.ref a) = u ∧ TermAt H3 u ((look f n).getD (.blank n)) := by
        refine ⟨_, rfl, ?_⟩
        cases e : look f n with
        | none => rw [(gD n).1 e]; exact hxt
        | some t' =>
          obtain ⟨v', h1, h2⟩ := (gD n).2 t' e
          rw [h1]
          exact h2
      refine ⟨_, rfl, .inl ⟨rfl, _, SqL.of gp⟩, _, rfl, d, rfl, .inl ⟨kvs, .inl gd⟩, _, rfl, _, _, _, _, rfl, rfl, SqT.of e1, rfl, _, rfl, _, DGet.k (k := Sum.inr n) gd, ?_⟩
      rw [hu']
      refine ⟨p, _, _, rfl, rfl, gp, big (by omega), ?_⟩
      have k4 : TSame H3 (upd H3 p (HO.lst (ms ++ [u]))) := .lst gp
      refine ⟨_, _, _, made ++ [(look f n).getD (.blank n)], rfl, fun b ob z => by rw [upd_ne (ne_of_none z hp)]; exact s3 _ _ z, by rw [upd_ne npl.symm]; exact gl, gus.mono k4, upd_same, TermsAt.mono k4 (gms.app (.cons htu .nil)), by rw [hrun]; rfl, by simpa [Fit] using hfit, by simp; omega⟩
    | thing n qs =>
      obtain ⟨a, b, pv, rfl, e1, e2, e3⟩ := termAt_thing.mp hxt
      have hpl := e3.len
      simp only [Fit] at hfit
      obtain ⟨hf1, hf2⟩ := hfit
      refine ⟨_, rfl, _, _, _, _, rfl, rfl, SqT.of e1, rfl, rfl, _, rfl, ite_t (by decide +kernel) ?_⟩
      refine ⟨_, rfl, _, rfl, _, _, _, _, rfl, rfl, SqT.of e1, rfl, b, pv, rfl, .inr (SqT.of e2), p, ms, pv.length, rfl, gp, by omega, by omega, fun l2 H4 sx fl2 h4p h4l => ?_⟩
      have e4 : ms.length - pv.length = made.length - qs.length := by omega
      rw [e4] at h4p h4l
      have k4 : TSame H3 H4 := fun b' ys z => sx b' _ (ne_of z gp (by intro z; cases z)) z
      have s4 : Same H H4 := fun b' ob z => sx b' ob (ne_of_none z hp) (s3 _ _ z)
      have g4l : H4 l = some (.lst us) := sx _ _ npl.symm gl
      have t4 : TermsAt H4 ms made := gms.mono k4
      have tk4 := t4.takeN (made.length - qs.length)
      have dr4 := terms_rev (t4.dropN (made.length - qs.length))
      refine ⟨_, rfl, .inl ⟨rfl, _, SqL.of h4p⟩, _, rfl, _, _, _, _, rfl, rfl, SqT.of (k4 _ _ e1), rfl, _, rfl, l2, _, rfl, .inl ⟨SqL.of h4l, fun b2 hb2 => ?_⟩⟩
      have s5 := same_new hb2 (HO.tup (ms.drop (made.length - qs.length)).reverse)
      have x5 : upd H4 b2 (HO.tup (ms.drop (made.length - qs.length)).reverse) b2 = some _ := upd_same
      generalize upd H4 b2 (HO.tup (ms.drop (made.length - qs.length)).reverse) = H5 at s5 x5 ⊢
      refine ⟨(by show 3 ≤ sizeLine; decide), fun g hg => ?_⟩
      have s6 := same_new hg (HO.tup [.str "thing", .str n, .ref b2])
      have x6 : upd H5 g (HO.tup [.str "thing", .str n, .ref b2]) g = some _ := upd_same
      generalize upd H5 g (HO.tup [.str "thing", .str n, .ref b2]) = H6 at s6 x6 ⊢
      have up := s5.trans s6
      have g6p := up _ _ h4p
      refine ⟨p, _, _, rfl, rfl, g6p, big (by rw [List.length_take]; omega), ?_⟩
      have k7 : TSame H6 (upd H6 p (HO.lst (ms.take (made.length - qs.length) ++ [.ref g]))) := .lst g6p
      refine ⟨_, _, _, made.take (made.length - qs.length) ++ [.thing n (made.drop (made.length - qs.length)).reverse], rfl, fun b' ob z => by rw [upd_ne (ne_of_none z hp)]; exact up _ _ (s4 _ _ z), by rw [upd_ne npl.symm]; exact up _ _ g4l, ((gus.mono k4).mono (.of up)).mono k7, upd_same,
        TermsAt.mono k7 ((tk4.mono (.of up)).app (.cons (termAt_thing.mpr ⟨g, b2, _, rfl, x6, s6 _ _ x5, dr4.mono (.of up)⟩) .nil)), by rw [hrun]; rfl, ?_, by simp only [List.length_append, List.length_take, List.length_cons, List.length_nil]; omega⟩
      have e5 : (made.take (made.length - qs.length) ++ [Tm.thing n (made.drop (made.length - qs.length)).reverse]).length = made.length - qs.length + 1 := by
        simp only [List.length_append, List.length_take, List.length_cons, List.length_nil]; omega
      rw [e5]
      exact hf2
  · rintro σ H3 ⟨o3, o4, ms, made, rfl, s3, gl, gus, gp, gms, hmade, hfit, hml⟩
    have e : made = [t.fill f] := by
      rw [hmade, List.take_of_length_le (by rw [List.length_reverse]; omega), frun_lp]
      rfl
    subst e
    have gml := gms.len
    match ms, gml, gms, gp with
    | [u], _, gms, gp =>
      refine ⟨_, rfl, p, _, _, u, rfl, rfl, SqL.of gp, rfl, ?_⟩
      exact q u H3 s3 (gms.at 0 (by simp) (by simp))
end
/-! ### blanks_of, by all_parts -/
section
variable {P : Program} {w : World} {K : PySem.W.Frag} {mg : Str → Option Value} {base : Heap}
def spBlanks : Sp := fun vs H Q _ => ∃ (v : V) (t : Tm), vs = [v] ∧ TermAt H v t ∧ t.nodes ≤ 900 ∧ ∀ l H', Same H H' → H' l = some (.lst (t.firsts.map V.str)) → Q (.ref l) H'
def wd (acc : List Str) : List (Key × V) := acc.map fun x => (Sum.inr x, V.bl true)
theorem wd_any (acc : List Str) (x : Str) : ((wd acc).any fun kv => decide (kv.1 = Sum.inr x)) = true ↔ x ∈ acc := by
  simp only [wd, List.any_map, List.any_eq_true, Function.comp, decide_eq_true_eq, Sum.inr.injEq]
  constructor
  · rintro ⟨y, h1, rfl⟩; exact h1
  · intro h; exact ⟨x, h, rfl⟩
theorem wd_put (acc : List Str) (x : Str) : putK (wd acc) (Sum.inr x) (V.bl true) = wd (if x ∈ acc then acc else acc ++ [x]) := by
  unfold putK
  by_cases h : x ∈ acc
  · rw [if_pos ((wd_any acc x).mpr h), if_pos h]
    unfold wd
    rw [List.map_map]
    refine List.map_congr_left fun y _ => ?_
    simp only [Function.comp]
    split <;> rfl
  · rw [if_neg (fun z => h ((wd_any acc x).mp z)), if_neg h]
    simp [wd]
theorem ok_blanks_of {f : Addr} {fd : FuncData} (F : Fun K "blanks_of" "blanks_of" s_blanks_of f fd) (T : Bi mg) (c_all_parts : Cal P w K mg base 1 "all_parts" ["term"] spAll) : FnOk P w K mg base CX0 2 f fd ["term"] spBlanks := by
  refine F.ok sc_blanks_of (fun vs H Q E h => ?_) (fun cdv A outer s H vs Q E hr h => ?_)
  · obtain ⟨_, _, rfl, _⟩ := h
    rfl
  obtain ⟨v, t, rfl, ht, hn, q⟩ := h
  have hu : (A.deeper (PyProof.Rows.envOfC "blanks_of" (defScope s_blanks_of) s.heap.objs.size f cdv)).units + 1 < cLine := by have := hr.un; omega
  refine ⟨_, (pss_cons (ps_set (i := 1) sc_blanks_of.nd rfl (Or.inl rfl) pe_dnewK)
      (pss_cons (ps_for PassesOwn.never rfl (pi_list (pe_cal c_all_parts (hr.mono (by decide)) (pa_cons (pv 0) pa_nil))) (pg_name (i := 2) sc_blanks_of.nd rfl (Or.inl rfl)) (pss_one (ps_if (pt_cmpR op_eq (pe_ix ix_tup (pv 2) pe_int (fun _ _ => rfl)) pe_str (nomark _)) (pss_one (ps_dput hu (pv 1) (pe_ix ix_tup (pv 2) pe_int (fun _ _ => rfl)) pe_bl rfl)) pss_nil)))
      (pss_one (ps_ret (pe_lsd T.b_list (pa_cons (pv 1) pa_nil)))))), ?_⟩
  refine fun p1 hp1 => ?_
  have s1 := same_new hp1 (HO.dK [])
  have x1 : upd H p1 (HO.dK []) p1 = some _ := upd_same
  generalize upd H p1 (HO.dK []) = H1 at s1 x1 ⊢
  refine ⟨_, rfl, v, t, rfl, ht.mono (.of s1), hn, fun l us H2 s2 fl hl hus => ?_⟩
  have n1l : p1 ≠ l := ne_of_none x1 fl
  have hul := hus.len
  have hll := lp_len t
  refine ⟨l, rfl, ⟨_, SqL.of hl⟩, for_list (K := K) (a := l) (xs := us) (fun i σ H3 => ∃ (o : Option V) (acc : List Str), σ = [some v, some (.ref p1), o] ∧ Same H H3 ∧ TSame H2 H3 ∧ H3 l = some (.lst us) ∧ H3 p1 = some (.dK (wd acc)) ∧ acc = addAll [] ((t.lp.take i).flatMap Tm.b1) ∧ acc.length ≤ i)
    ⟨none, [], rfl, s1.trans s2, .refl _, hl, s2 _ _ x1, rfl, Nat.le_refl _⟩ (fun i σ H3 _ ⟨_, _, _, _, _, g, _⟩ => SqL.of g) ?_ ?_⟩
  · rintro i x σ H3 hx ⟨o, acc, rfl, s3, k3, gl, g1, hacc, hal⟩
    have hi : i < us.length := (List.getElem?_eq_some_iff.mp hx).1
    have hi' : i < t.lp.length := by omega
    have hxt : TermAt H3 x (t.lp[i]) := by
      have h1 := (hus.mono k3).at i hi hi'
      rw [(List.getElem?_eq_some_iff.mp hx).2] at h1
      exact h1
    have hstep : addAll [] ((t.lp.take (i + 1)).flatMap Tm.b1) = addAll acc (t.lp[i]).b1 := by
      rw [List.take_succ_eq_append_getElem hi', List.flatMap_append, addAll_append, ← hacc]
      simp
    generalize t.lp[i] = pt at hxt hstep
    cases pt with
    | num n =>
      obtain ⟨a, rfl, e1⟩ := termAt_num.mp hxt
      refine ⟨_, rfl, _, _, _, _, rfl, rfl, SqT.of e1, rfl, rfl, _, rfl, ite_f (by decide +kernel) ?_⟩
      exact ⟨_, acc, rfl, s3, k3, gl, g1, by rw [hstep]; rfl, by omega⟩
    | name n =>
      obtain ⟨a, rfl, e1⟩ := termAt_name.mp hxt
      refine ⟨_, rfl, _, _, _, _, rfl, rfl, SqT.of e1, rfl, rfl, _, rfl, ite_f (by decide +kernel) ?_⟩
      exact ⟨_, acc, rfl, s3, k3, gl, g1, by rw [hstep]; rfl, by omega⟩
    | thing n qs =>
      obtain ⟨a, b, pv, rfl, e1, e2, e3⟩ := termAt_thing.mp hxt
      refine ⟨_, rfl, _, _, _, _, rfl, rfl, SqT.of e1, rfl, rfl, _, rfl, ite_f (by decide +kernel) ?_⟩
      exact ⟨_, acc, rfl, s3, k3, gl, g1, by rw [hstep]; rfl, by omega⟩
    | blank n =>
      obtain ⟨a, rfl, e1⟩ := termAt_blank.mp hxt
      refine ⟨_, rfl, _, _, _, _, rfl, rfl, SqT.of e1, rfl, rfl, _, rfl, ite_t (by decide +kernel) ?_⟩
      refine ⟨_, rfl, _, rfl, _, _, _, _, rfl, rfl, SqT.of e1, rfl, p1, _, rfl, DPut.k (k := Sum.inr n) g1 ?_, ?_⟩
      · simp only [wd, List.length_map]; exact Nat.lt_of_lt_of_le (show acc.length < 1000 by omega) (by decide)
      rw [wd_put]
      have k5 : TSame H3 (upd H3 p1 (HO.dK (wd (if n ∈ acc then acc else acc ++ [n])))) := fun b ys z => by rw [upd_ne (ne_of z g1 (by intro z; cases z))]; exact z
      refine ⟨_, if n ∈ acc then acc else acc ++ [n], rfl, fun b ob z => by rw [upd_ne (ne_of_none z hp1)]; exact s3 _ _ z, k3.trans k5, by rw [upd_ne n1l.symm]; exact gl, upd_same, ?_, ?_⟩
      · rw [hstep]
        simp only [Tm.b1, addAll]
      · split
        · omega
        · rw [List.length_append]; simp only [List.length_cons, List.length_nil]; omega
  · rintro σ H3 ⟨o, acc, rfl, s3, k3, gl, g1, hacc, hal⟩
    have e2 : acc = t.firsts := by
      rw [hacc, List.take_of_length_le (by omega), lp_bl]
      rfl
    refine ⟨_, rfl, p1, _, rfl, g1, fun l hl => ?_⟩
    refine q l _ (s3.trans (same_new hl _)) ?_
    rw [upd_same, ← e2]
    simp only [wd, List.map_map]
    rfl
end
/-! ### the law's own steps -/
section
variable {P : Program} {w : World} {K : PySem.W.Frag} {mg : Str → Option Value} {base : Heap}
def spSteps : Sp := fun vs H Q _ => ∃ (v : V) (t : Tm), vs = [v] ∧ TermAt H v t ∧ t.nodes ≤ 900 ∧ ∀ l us H', Same H H' → H l = none → H' l = some (.lst us) → TermsAt H' us t.rp.reverse → Q (.ref l) H'
theorem ok_steps {f : Addr} {fd : FuncData} (F : Fun K "_law_steps" "_law_steps" s_law_steps f fd) (T : Bi mg) : FnOk P w K mg base CX0 1 f fd ["_law_term"] spSteps := by
  refine F.ok sc_law_steps (fun vs H Q E h => ?_) (fun cdv A outer s H vs Q E hr h => ?_)
  · obtain ⟨_, _, rfl, _⟩ := h
    rfl
  obtain ⟨v, t, rfl, ht, hn, q⟩ := h
  refine ⟨_, (pss_cons (ps_set (i := 1) sc_law_steps.nd rfl (Or.inl rfl) (pe_lst pa_nil))
      (pss_cons (ps_set (i := 2) sc_law_steps.nd rfl (Or.inl rfl) (pe_lst (pa_cons (pv 0) pa_nil)))
      (pss_cons (ps_while PassesOwn.never (pt_cmpR (op_neNil hr.units0) (pv 2) (pe_lst pa_nil) (nomark _)) (pss_cons (ps_set (i := 3) sc_law_steps.nd rfl (Or.inl rfl) (pe_bm0 PySem.F.plainAttrs_list PySem.F.slot_list_pop PySem.F.type_list_pop mt_pop (pv 2)))
        (pss_cons (ps_expr (pe_bm PySem.F.plainAttrs_list PySem.F.slot_list_append PySem.F.type_list_append mt_append (pv 1) (pa_cons (pv 3) pa_nil)))
        (pss_one (ps_if (pt_cmpR op_eq (pe_ix ix_tup (pv 3) pe_int (fun _ _ => rfl)) pe_str (nomark _)) (pss_one (ps_expr (pe_bm PySem.F.plainAttrs_list PySem.F.slot_list_extend PySem.F.type_list_extend mt_extend (pv 2) (pa_cons (pe_bty call_list_of T.b_list bt_list (pa_cons (pe_ix ix_tup (pv 3) pe_int (fun _ _ => rfl)) pa_nil)) pa_nil)))) pss_nil)))))
      (pss_one (ps_ret (pe_listrevL T.b_list T.b_reversed (pv 1))))))), ?_⟩
  refine ⟨(by show 0 ≤ sizeLine; decide), fun p1 hp1 => ?_⟩
  have s1 := same_new hp1 (HO.lst [])
  have x1 : upd H p1 (HO.lst []) p1 = some _ := upd_same
  generalize upd H p1 (HO.lst []) = H1 at s1 x1 ⊢
  refine ⟨_, rfl, (by show 1 ≤ sizeLine; decide), fun p2 hp2 => ?_⟩
  have s2 := same_new hp2 (HO.lst [v])
  have x2 : upd H1 p2 (HO.lst [v]) p2 = some _ := upd_same
  have n12 : p1 ≠ p2 := ne_of_none x1 hp2
  have f2 : H p2 = none := s1.free hp2
  generalize upd H1 p2 (HO.lst [v]) = H2 at s2 x2 ⊢
  refine ⟨fun m σ H3 => ∃ (o : Option V) (rs us : List V) (done ts : List Tm), σ = [some v, some (.ref p1), some (.ref p2), o] ∧ Same H H3 ∧ H3 p1 = some (.lst rs) ∧ TermsAt H3 rs done ∧ H3 p2 = some (.lst us) ∧ TermsAt H3 us ts ∧
      nodesL ts = m ∧ done ++ rpL ts = t.rp ∧ done.length + m ≤ t.nodes,
    ⟨_, none, [], [v], [], [t], rfl, s1.trans s2, s2 _ _ x1, .nil, x2, .cons (ht.mono (.of (s1.trans s2))) .nil, rfl, by simp [rpL], by simp [nodesL]⟩, ?_⟩
  rintro m σ H3 ⟨o, rs, us, done, ts, rfl, s3, g1, hrs, g2, hus, hm, hout, hsz⟩
  refine ⟨_, rfl, (by show 0 ≤ sizeLine; decide), fun e he => ?_⟩
  have sE := same_new he (HO.lst [])
  have xE : upd H3 e (HO.lst []) e = some _ := upd_same
  generalize upd H3 e (HO.lst []) = HE at sE xE ⊢
  have g1 := sE _ _ g1
  have g2 := sE _ _ g2
  have s3 := s3.trans sE
  have hus := hus.mono (.of sE)
  have hrs := hrs.mono (.of sE)
  refine ⟨p2, e, us, rfl, rfl, g2, xE, _, rfl, ite2 (fun c => ⟨_, fun _ _ h => h, ?_⟩) (fun c => ?_)⟩
  · -- a turn
    have hne : us ≠ [] := by intro z; rw [z] at c; exact absurd c (by decide)
    have hlen := hus.len
    obtain ⟨us0, u, rfl⟩ := snoc_of hne
    obtain ⟨ts0, t1, rfl⟩ := snoc_of (l := ts) (by intro z; rw [z] at hlen; simp at hlen)
    obtain ⟨h0, hu1⟩ := hus.snoc
    rw [nodesL_append] at hm
    simp only [nodesL] at hm
    rw [rpL_append] at hout
    simp only [rpL, List.nil_append] at hout
    have hl0 := len_le_nodes ts0
    have hu0 := h0.len
    have hr0 := hrs.len
    have hn1 := t1.nodes_pos
    refine ⟨_, rfl, .inl ⟨rfl, _, SqL.of g2⟩, p2, _, u, rfl, rfl, g2, by simp, ?_⟩
    rw [List.dropLast_concat]
    have k4 : TSame HE (upd HE p2 (HO.lst us0)) := .lst g2
    have x4 : upd HE p2 (HO.lst us0) p2 = some _ := upd_same
    have y4 : upd HE p2 (HO.lst us0) p1 = some (.lst rs) := by rw [upd_ne n12]; exact g1
    have s4 : Same H (upd HE p2 (HO.lst us0)) := fun b ob z => by rw [upd_ne (ne_of_none z f2)]; exact s3 _ _ z
    generalize upd HE p2 (HO.lst us0) = H4 at k4 x4 y4 s4 ⊢
    refine ⟨_, rfl, .inl ⟨rfl, _, SqL.of y4⟩, _, rfl, p1, _, _, rfl, rfl, y4, big (by omega), ?_⟩
    have k5 : TSame H4 (upd H4 p1 (HO.lst (rs ++ [u]))) := .lst y4
    have x5 : upd H4 p1 (HO.lst (rs ++ [u])) p1 = some _ := upd_same
    have y5 : upd H4 p1 (HO.lst (rs ++ [u])) p2 = some (.lst us0) := by rw [upd_ne n12.symm]; exact x4
    have s5 : Same H (upd H4 p1 (HO.lst (rs ++ [u]))) := fun b ob z => by rw [upd_ne (ne_of_none z hp1)]; exact s4 _ _ z
    generalize upd H4 p1 (HO.lst (rs ++ [u])) = H5 at k5 x5 y5 s5 ⊢
    have h5 := (h0.mono k4).mono k5
    have ht1 := (hu1.mono k4).mono k5
    have hd5 : TermsAt H5 (rs ++ [u]) (done ++ [t1]) := ((hrs.mono k4).mono k5).app (.cons ht1 .nil)
    cases t1 with
    | num n =>
      obtain ⟨a, rfl, e1⟩ := termAt_num.mp ht1
      refine ⟨_, rfl, _, _, _, _, rfl, rfl, SqT.of e1, rfl, rfl, _, rfl, ite_f (by decide +kernel) ?_⟩
      exact ⟨nodesL ts0, by omega, _, _, us0, _, ts0, rfl, s5, x5, hd5, y5, h5, rfl, by simpa [Tm.rp] using hout, by rw [List.length_append]; simp only [List.length_cons, List.length_nil]; omega⟩
    | name n =>
      obtain ⟨a, rfl, e1⟩ := termAt_name.mp ht1
      refine ⟨_, rfl, _, _, _, _, rfl, rfl, SqT.of e1, rfl, rfl, _, rfl, ite_f (by decide +kernel) ?_⟩
      exact ⟨nodesL ts0, by omega, _, _, us0, _, ts0, rfl, s5, x5, hd5, y5, h5, rfl, by simpa [Tm.rp] using hout, by rw [List.length_append]; simp only [List.length_cons, List.length_nil]; omega⟩
    | blank n =>
      obtain ⟨a, rfl, e1⟩ := termAt_blank.mp ht1
      refine ⟨_, rfl, _, _, _, _, rfl, rfl, SqT.of e1, rfl, rfl, _, rfl, ite_f (by decide +kernel) ?_⟩
      exact ⟨nodesL ts0, by omega, _, _, us0, _, ts0, rfl, s5, x5, hd5, y5, h5, rfl, by simpa [Tm.rp] using hout, by rw [List.length_append]; simp only [List.length_cons, List.length_nil]; omega⟩
    | thing n qs =>
      obtain ⟨a, b, pv, rfl, e1, e2, e3⟩ := termAt_thing.mp ht1
      have hpl := e3.len
      have hpn := len_le_nodes qs
      simp only [Tm.nodes] at hm
      refine ⟨_, rfl, _, _, _, _, rfl, rfl, SqT.of e1, rfl, rfl, _, rfl, ite_t (by decide +kernel) ?_⟩
      refine ⟨_, rfl, .inl ⟨rfl, _, SqL.of y5⟩, _, rfl, _, _, _, _, rfl, rfl, SqT.of e1, rfl, b, pv, rfl, .inr (SqT.of e2), fun l hl => ?_⟩
      have s6 := same_new hl (HO.lst pv)
      have x6 : upd H5 l (HO.lst pv) l = some _ := upd_same
      generalize upd H5 l (HO.lst pv) = H6 at s6 x6 ⊢
      refine ⟨p2, l, us0, pv, rfl, rfl, s6 _ _ y5, x6, small (by omega), ?_⟩
      have k7 : TSame H6 (upd H6 p2 (HO.lst (us0 ++ pv))) := .lst (s6 _ _ y5)
      refine ⟨nodesL ts0 + nodesL qs, by omega, _, _, us0 ++ pv, _, ts0 ++ qs, rfl, fun b' ob z => by rw [upd_ne (ne_of_none z f2)]; exact s6 _ _ (s5 _ _ z), by rw [upd_ne n12]; exact s6 _ _ x5, TermsAt.mono k7 (hd5.mono (.of s6)), upd_same,
        TermsAt.mono k7 ((h5.mono (.of s6)).app (e3.mono (.of s6))), by rw [nodesL_append], ?_, by rw [List.length_append]; simp only [List.length_cons, List.length_nil]; omega⟩
      rw [rpL_append, ← hout]
      simp [Tm.rp]
  · have e : us = [] := by
      cases us with
      | nil => rfl
      | cons a b => exact absurd rfl c
    subst e
    have hlen := hus.len
    have e : ts = [] := List.length_eq_zero_iff.mp hlen.symm
    subst e
    have e2 : done = t.rp := by simpa [rpL] using hout
    refine ⟨_, rfl, p1, rs, rfl, SqL.of g1, fun l hl => ?_⟩
    refine q l _ _ (s3.trans (same_new hl _)) (s3.free hl) upd_same ?_
    rw [← e2]
    exact (terms_rev hrs).mono (.new hl)
end
/-! ### the law's own blanks -/
section
variable {P : Program} {w : World} {K : PySem.W.Frag} {mg : Str → Option Value} {base : Heap}
theorem inV_words (x : Str) (acc : List Str) : inV (.str x) (acc.map V.str) = decide (x ∈ acc) := by
  induction acc with
  | nil => rfl
  | cons y r ih =>
    have e : inV (.str x) ((y :: r).map V.str) = (eqV (.str y) (.str x) || inV (.str x) (r.map V.str)) := rfl
    rw [e, ih]
    by_cases z : y = x
    · subst z; simp [eqV]
    · have z' : ¬ x = y := fun q => z q.symm
      simp [eqV, z, z']
theorem flat_words (acc : List Str) : (acc.map V.str).all flatV = true := by
  simp [List.all_map, List.all_eq_true, flatV]
theorem ok_blanks {f : Addr} {fd : FuncData} (F : Fun K "_law_blanks" "_law_blanks" s_law_blanks f fd) (T : Bi mg) (c__law_steps : Cal P w K mg base 1 "_law_steps" ["_law_term"] spSteps) : FnOk P w K mg base CX0 2 f fd ["_law_term"] spBlanks := by
  refine F.ok sc_law_blanks (fun vs H Q E h => ?_) (fun cdv A outer s H vs Q E hr h => ?_)
  · obtain ⟨_, _, rfl, _⟩ := h
    rfl
  obtain ⟨v, t, rfl, ht, hn, q⟩ := h
  refine ⟨_, (pss_cons (ps_set (i := 1) sc_law_blanks.nd rfl (Or.inl rfl) (pe_lst pa_nil))
      (pss_cons (ps_for PassesOwn.never rfl (pi_list (pe_cal c__law_steps (hr.mono (by decide)) (pa_cons (pv 0) pa_nil))) (pg_name (i := 2) sc_law_blanks.nd rfl (Or.inl rfl)) (pss_one (ps_if (pw_and (pt_cmpR op_eq (pe_ix ix_tup (pv 2) pe_int (fun _ _ => rfl)) pe_str (nomark _)) (pw_and1 (pt_cmpR op_notIn_seq (pe_ix ix_tup (pv 2) pe_int (fun _ _ => rfl)) (pv 1) (by with_unfolding_all rfl)))).pt (pss_one (ps_expr (pe_bm PySem.F.plainAttrs_list PySem.F.slot_list_append PySem.F.type_list_append mt_append (pv 1) (pa_cons (pe_ix ix_tup (pv 2) pe_int (fun _ _ => rfl)) pa_nil)))) pss_nil)))
      (pss_one (ps_ret (pv 1))))), ?_⟩
  refine ⟨(by show 0 ≤ sizeLine; decide), fun p hp => ?_⟩
  have s1 := same_new hp (HO.lst [])
  have x1 : upd H p (HO.lst []) p = some _ := upd_same
  generalize upd H p (HO.lst []) = H1 at s1 x1 ⊢
  refine ⟨_, rfl, v, t, rfl, ht.mono (.of s1), hn, fun l us H2 s2 _ g2 hus => ⟨l, rfl, ⟨_, SqL.of g2⟩, ?_⟩⟩
  have npl : p ≠ l := by
    rintro rfl
    have z := s2 _ _ x1
    rw [g2] at z
    cases z
    have := hus.len
    rw [List.length_reverse, len_rp] at this
    have := t.nodes_pos
    simp at *
    omega
  have hlu := hus.len
  rw [List.length_reverse, len_rp] at hlu
  refine for_list (K := K) (a := l) (xs := us) (fun i σ H3 => ∃ (o : Option V) (acc : List Str), σ = [some v, some (.ref p), o] ∧ Same H H3 ∧ H3 l = some (.lst us) ∧ TermsAt H3 us t.rp.reverse ∧ H3 p = some (.lst (acc.map V.str)) ∧
      acc.length ≤ i ∧ addAll [] ((t.rp.reverse.take i).flatMap Tm.b1) = acc)
    ⟨none, [], rfl, s1.trans s2, g2, hus, s2 _ _ x1, Nat.zero_le _, rfl⟩ (fun i σ H3 _ ⟨_, _, _, _, g, _⟩ => SqL.of g) ?_ ?_
  · rintro i y σ H3 hi ⟨o, acc, rfl, s3, g3, h3, gp, hal, hacc⟩
    obtain ⟨hi1, hi2⟩ := List.getElem?_eq_some_iff.mp hi
    have hti : i < t.rp.reverse.length := by rw [List.length_reverse, len_rp]; omega
    have hy := h3.at i hi1 hti
    rw [hi2] at hy
    have etk : (t.rp.reverse.take (i + 1)).flatMap Tm.b1 = (t.rp.reverse.take i).flatMap Tm.b1 ++ (t.rp.reverse[i]).b1 := by
      rw [List.take_succ_eq_append_getElem hti, List.flatMap_append]
      simp
    generalize t.rp.reverse[i] = u at hy etk
    cases u with
    | num n =>
      obtain ⟨a, rfl, e1⟩ := termAt_num.mp hy
      refine ⟨_, rfl, _, _, _, _, rfl, rfl, SqT.of e1, rfl, rfl, _, rfl, ite_f (by decide +kernel) ?_⟩
      exact ⟨_, acc, rfl, s3, g3, h3, gp, by omega, by rw [etk, ← hacc]; simp [Tm.b1]⟩
    | name n =>
      obtain ⟨a, rfl, e1⟩ := termAt_name.mp hy
      refine ⟨_, rfl, _, _, _, _, rfl, rfl, SqT.of e1, rfl, rfl, _, rfl, ite_f (by decide +kernel) ?_⟩
      exact ⟨_, acc, rfl, s3, g3, h3, gp, by omega, by rw [etk, ← hacc]; simp [Tm.b1]⟩
    | thing n qs =>
      obtain ⟨a, b, pv, rfl, e1, e2, e3⟩ := termAt_thing.mp hy
      refine ⟨_, rfl, _, _, _, _, rfl, rfl, SqT.of e1, rfl, rfl, _, rfl, ite_f (by decide +kernel) ?_⟩
      exact ⟨_, acc, rfl, s3, g3, h3, gp, by omega, by rw [etk, ← hacc]; simp [Tm.b1]⟩
    | blank n =>
      obtain ⟨a, rfl, e1⟩ := termAt_blank.mp hy
      have en : addAll [] ((t.rp.reverse.take (i + 1)).flatMap Tm.b1) = if n ∈ acc then acc else acc ++ [n] := by
        rw [etk, addAll_append, hacc]
        simp only [Tm.b1, addAll]
      refine ⟨_, rfl, _, _, _, _, rfl, rfl, SqT.of e1, rfl, rfl, _, rfl, ite_t (by decide +kernel) ?_⟩
      refine ⟨_, rfl, _, _, _, _, rfl, rfl, SqT.of e1, rfl, _, rfl, p, _, rfl, .inl (SqL.of gp), rfl, flat_words acc, _, rfl, ite2 (fun c => ?_) (fun c => ?_)⟩
      · have c' : n ∉ acc := by
          intro z
          rw [inV_words] at c
          simp [z] at c
        refine ⟨_, rfl, .inl ⟨rfl, _, SqL.of gp⟩, _, rfl, _, _, _, _, rfl, rfl, SqT.of e1, rfl, p, _, _, rfl, rfl, gp, big (by rw [List.length_map]; omega), ?_⟩
        have k4 : TSame H3 (upd H3 p (HO.lst (acc.map V.str ++ [.str n]))) := .lst gp
        refine ⟨_, acc ++ [n], rfl, fun b ob z => by rw [upd_ne (ne_of_none z hp)]; exact s3 _ _ z, by rw [upd_ne npl.symm]; exact g3, h3.mono k4, by rw [upd_same, List.map_append]; rfl, by rw [List.length_append]; simp only [List.length_cons, List.length_nil]; omega, by rw [en, if_neg c']⟩
      · have c' : n ∈ acc := by
          rw [inV_words] at c
          simpa using c
        exact ⟨_, acc, rfl, s3, g3, h3, gp, by omega, by rw [en, if_pos c']⟩
  · rintro σ H3 ⟨o, acc, rfl, s3, g3, h3, gp, hal, hacc⟩
    rw [hlu, ← len_rp, ← List.length_reverse, List.take_length, b1_rp] at hacc
    refine ⟨_, rfl, q p H3 s3 ?_⟩
    rw [gp, ← hacc]
    rfl
end
/-! ### the law's own filling -/
section
variable {P : Program} {w : World} {K : PySem.W.Frag} {mg : Str → Option Value} {base : Heap}
def spFill : Sp := fun vs H Q _ => ∃ (v : V) (t : Tm) (l : Addr) (ps : List V) (f : Fl), vs = [v, .ref l] ∧ TermAt H v t ∧ t.nodes ≤ 900 ∧ H l = some (.lst ps) ∧ FillAt H ps f ∧ (f.map (·.1)).Nodup ∧ ∀ v' H', Same H H' → TermAt H' v' (t.fill f) → Q v' H'
theorem ok_fill {f0 : Addr} {fd : FuncData} (F : Fun K "_law_fill" "_law_fill" s_law_fill f0 fd) (T : Bi mg) (c__law_steps : Cal P w K mg base 1 "_law_steps" ["_law_term"] spSteps) : FnOk P w K mg base CX0 2 f0 fd ["_law_term", "_law_pairs"] spFill := by
  refine F.ok sc_law_fill (fun vs H Q E h => ?_) (fun cdv A outer s H vs Q E hr h => ?_)
  · obtain ⟨_, _, _, _, _, rfl, _⟩ := h
    rfl
  obtain ⟨v, t, l, ps, f, rfl, ht, hn, hl, hf, hnd, q⟩ := h
  have hfl := hf.len
  refine ⟨_, (pss_cons (ps_set (i := 2) sc_law_fill.nd rfl (Or.inl rfl) (pe_lst pa_nil))
      (pss_cons (ps_for PassesOwn.never rfl (pi_list (pe_cal c__law_steps (hr.mono (by decide)) (pa_cons (pv 0) pa_nil))) (pg_name (i := 3) sc_law_fill.nd rfl (Or.inl rfl)) (pss_cons (ps_set (i := 4) sc_law_fill.nd rfl (Or.inl rfl) (pv 3))
        (pss_cons (ps_if (pt_cmpR op_eq (pe_ix ix_tup (pv 3) pe_int (fun _ _ => rfl)) pe_str (nomark _)) (pss_cons (ps_set (i := 5) sc_law_fill.nd rfl (Or.inl rfl) (pe_op op_sub (pe_blt call_len_seq T.b_len bt_len (pa_cons (pv 2) pa_nil)) (pe_blt call_len_seq T.b_len bt_len (pa_cons (pe_ix ix_tup (pv 3) pe_int (fun _ _ => rfl)) pa_nil))))
          (pss_cons (ps_set (i := 4) sc_law_fill.nd rfl (Or.inl rfl) (pe_tup (pa_cons pe_str (pa_cons (pe_ix ix_tup (pv 3) pe_int (fun _ _ => rfl)) (pa_cons (pe_bty call_tuple_of T.b_tuple bt_tuple (pa_cons (pe_slice sl_list (pv 2) (po_some (pv 5)) po_none) pa_nil)) pa_nil)))))
          (pss_one (ps_set (i := 2) sc_law_fill.nd rfl (Or.inl rfl) (pe_slice sl_list (pv 2) po_none (po_some (pv 5))))))) (pss_one (ps_if (pt_cmpR op_eq (pe_ix ix_tup (pv 3) pe_int (fun _ _ => rfl)) pe_str (nomark _)) (pss_one (ps_for PassesOwn.never rfl (pi_list (pv 1)) (pg_name (i := 6) sc_law_fill.nd rfl (Or.inl rfl)) (pss_one (ps_if (pt_cmpR op_eq (pe_ix ix_tup (pv 6) pe_int (fun _ _ => rfl)) (pe_ix ix_tup (pv 3) pe_int (fun _ _ => rfl)) (nomark _)) (pss_one (ps_set (i := 4) sc_law_fill.nd rfl (Or.inl rfl) (pe_ix ix_tup (pv 6) pe_int (fun _ _ => rfl)))) pss_nil)))) pss_nil)))
        (pss_one (ps_expr (pe_bm PySem.F.plainAttrs_list PySem.F.slot_list_append PySem.F.type_list_append mt_append (pv 2) (pa_cons (pv 4) pa_nil)))))))
      (pss_one (ps_ret (pe_ix ix_list (pv 2) pe_int (fun _ _ => rfl)))))), ?_⟩
  refine ⟨(by show 0 ≤ sizeLine; decide), fun p0 hp0 => ?_⟩
  have s1 := same_new hp0 (HO.lst [])
  have x1 : upd H p0 (HO.lst []) p0 = some _ := upd_same
  generalize upd H p0 (HO.lst []) = H1 at s1 x1 ⊢
  refine ⟨_, rfl, v, t, rfl, ht.mono (.of s1), hn, fun ls us H2 s2 fls hls hus => ?_⟩
  have s02 := s1.trans s2
  have hul := hus.len
  rw [List.length_reverse, len_rp] at hul
  refine ⟨ls, rfl, ⟨_, SqL.of hls⟩, for_list (K := K) (a := ls) (xs := us) (fun i σ H3 => ∃ (o3 o4 o5 o6 : Option V) (p : Addr) (ms : List V) (made : List Tm), σ = [some v, some (.ref l), some (.ref p), o3, o4, o5, o6] ∧ Same H H3 ∧ H3 ls = some (.lst us) ∧ TSame H2 H3 ∧ p ≠ ls ∧ H p = none ∧ H3 p = some (.lst ms) ∧ TermsAt H3 ms made ∧
      made = grun f [] (t.rp.reverse.take i) ∧ Fit made.length (t.rp.reverse.drop i) ∧ made.length ≤ i)
    ⟨none, none, none, none, p0, [], [], rfl, s02, hls, .refl _, ne_of_none x1 fls, hp0, s2 _ _ x1, .nil, by simp [grun], by simpa using fit_rall t, Nat.le_refl _⟩ (fun i σ H3 _ ⟨_, _, _, _, _, _, _, _, _, g, _⟩ => SqL.of g) ?_ ?_⟩
  · rintro i x σ H3 hx ⟨o3, o4, o5, o6, p, ms, made, rfl, s3, gl, k3, npl, fp, gp, gms, hmade, hfit, hml⟩
    have hi : i < us.length := (List.getElem?_eq_some_iff.mp hx).1
    have hir : i < t.rp.reverse.length := by rw [List.length_reverse, len_rp]; omega
    have hxt : TermAt H3 x (t.rp.reverse[i]) := by
      have h1 := (hus.mono k3).at i hi hir
      rw [(List.getElem?_eq_some_iff.mp hx).2] at h1
      exact h1
    have hrun : grun f [] (t.rp.reverse.take (i + 1)) = gturn f made (t.rp.reverse[i]) := by
      rw [List.take_succ_eq_append_getElem hir, grun_append, ← hmade]
      rfl
    rw [List.drop_eq_getElem_cons hir] at hfit
    have gml := gms.len
    generalize hpt : t.rp.reverse[i] = pt at hxt hrun hfit
    refine ⟨_, rfl, ?_⟩
    show Ends.nx _ _ _
    with_reducible show tSeq _ _ _ _ _
    refine tSeq_cut (fun σ H4 => ∃ (o5 o6 : Option V) (p : Addr) (ms : List V) (made : List Tm) (mv : V) (tm : Tm), σ = [some v, some (.ref l), some (.ref p), some x, some mv, o5, o6] ∧ Same H H4 ∧ H4 ls = some (.lst us) ∧ TSame H2 H4 ∧ p ≠ ls ∧ H p = none ∧ H4 p = some (.lst ms) ∧ TermsAt H4 ms made ∧ TermAt H4 mv tm ∧
      gturn f (grun f [] (t.rp.reverse.take i)) pt = made ++ [tm] ∧ Fit (made.length + 1) (t.rp.reverse.drop (i + 1)) ∧ made.length ≤ i) ?_ (fun key => ?_)
    rotate_left
    · rw [hmade] at hrun
      cases pt with
      | num n =>
        obtain ⟨a, rfl, e1⟩ := termAt_num.mp hxt
        refine ⟨_, rfl, _, _, _, _, rfl, rfl, SqT.of e1, rfl, rfl, _, rfl, ite_f (by decide +kernel) ?_⟩
        refine ⟨_, rfl, _, _, _, _, rfl, rfl, SqT.of e1, rfl, rfl, _, rfl, ite_f (by decide +kernel) ?_⟩
        exact key _ _ ⟨_, _, p, ms, made, _, .num n, rfl, s3, gl, k3, npl, fp, gp, gms, hxt, by rw [← hmade]; rfl, by simpa [Fit] using hfit, hml⟩
      | name n =>
        obtain ⟨a, rfl, e1⟩ := termAt_name.mp hxt
        refine ⟨_, rfl, _, _, _, _, rfl, rfl, SqT.of e1, rfl, rfl, _, rfl, ite_f (by decide +kernel) ?_⟩
        refine ⟨_, rfl, _, _, _, _, rfl, rfl, SqT.of e1, rfl, rfl, _, rfl, ite_f (by decide +kernel) ?_⟩
        exact key _ _ ⟨_, _, p, ms, made, _, .name n, rfl, s3, gl, k3, npl, fp, gp, gms, hxt, by rw [← hmade]; rfl, by simpa [Fit] using hfit, hml⟩
      | blank n =>
        obtain ⟨a, rfl, e1⟩ := termAt_blank.mp hxt
        refine ⟨_, rfl, _, _, _, _, rfl, rfl, SqT.of e1, rfl, rfl, _, rfl, ite_f (by decide +kernel) ?_⟩
        refine ⟨_, rfl, _, _, _, _, rfl, rfl, SqT.of e1, rfl, rfl, _, rfl, ite_t (by decide +kernel) ?_⟩
        refine ⟨_, rfl, l, rfl, ⟨_, SqL.of (s3 _ _ hl)⟩, for_list (K := K) (a := l) (xs := ps) (fun j σ H4 => H3 = H4 ∧ ∃ (o6 : Option V) (mv : V), σ = [some v, some (.ref l), some (.ref p), some (.ref a), some mv, o5, o6] ∧ TermAt H3 mv ((look (f.take j) n).getD (.blank n)))
          ⟨rfl, _, _, rfl, by simpa [look] using hxt⟩ (fun j σ H4 _ ⟨e, _⟩ => by rw [← e]; exact SqL.of (s3 _ _ hl)) ?_ ?_⟩
        · rintro j y σ H4 hy ⟨rfl, o6, mv, rfl, hmv⟩
          have hj : j < ps.length := (List.getElem?_eq_some_iff.mp hy).1
          have hj' : j < f.length := by omega
          obtain ⟨a2, v2, ea, ha0, hv0⟩ := hf.get j hj hj'
          have ey : y = .ref a2 := by rw [← ea]; exact ((List.getElem?_eq_some_iff.mp hy).2).symm
          subst ey
          have ha := s3 _ _ ha0
          refine ⟨_, rfl, _, _, _, _, rfl, rfl, SqT.of ha, rfl, _, rfl, _, _, _, _, rfl, rfl, SqT.of e1, rfl, rfl, _, rfl, ite2 (fun c => ?_) (fun c => ?_)⟩
          · have c' : f[j].1 = n := V.str.inj (of_decide_eq_true c)
            refine ⟨_, rfl, _, _, _, _, rfl, rfl, SqT.of ha, rfl, rfl, _, _, rfl, ?_⟩
            have e2 : look (f.take (j + 1)) n = some f[j].2 := by
              rw [List.take_succ_eq_append_getElem hj', look_append]
              have : look (f.take j) n = none := look_out fun z => by
                obtain ⟨q, hq, eq⟩ := List.mem_map.mp z
                obtain ⟨k, hk, ek⟩ := List.getElem_of_mem hq
                rw [List.length_take] at hk
                rw [List.getElem_take] at ek
                have := List.pairwise_iff_getElem.mp hnd k j (by rw [List.length_map]; omega) (by rw [List.length_map]; omega) (by omega)
                rw [List.getElem_map, List.getElem_map, ek, eq, c'] at this
                exact this rfl
              rw [this, Option.none_or, look_cons, if_pos c']
            rw [e2]
            exact hv0.mono (.of s3)
          · have c' : ¬ f[j].1 = n := fun z => c (decide_eq_true (congrArg V.str z))
            refine ⟨rfl, _, mv, rfl, ?_⟩
            rw [List.take_succ_eq_append_getElem hj', look_append, look_cons, if_neg c']
            have : look ([] : Fl) n = none := rfl
            rw [this, Option.or_none]
            exact hmv
        · rintro σ H4 ⟨rfl, o6, mv, rfl, hmv⟩
          rw [List.take_of_length_le (by omega)] at hmv
          exact key _ _ ⟨_, _, p, ms, made, mv, _, rfl, s3, gl, k3, npl, fp, gp, gms, hmv, by rw [← hmade]; rfl, by simpa [Fit] using hfit, hml⟩
      | thing n qs =>
        obtain ⟨a, b, pv, rfl, e1, e2, e3⟩ := termAt_thing.mp hxt
        have hpl := e3.len
        simp only [Fit] at hfit
        obtain ⟨hf1, hf2⟩ := hfit
        have j0 : 0 ≤ (ms.length : Int) - (pv.length : Int) := by omega
        have j1 : (ms.length : Int) - (pv.length : Int) ≤ ms.length := by omega
        have ej : ((ms.length : Int) - (pv.length : Int)).toNat = made.length - qs.length := by omega
        refine ⟨_, rfl, _, _, _, _, rfl, rfl, SqT.of e1, rfl, rfl, _, rfl, ite_t (by decide +kernel) ?_⟩
        refine ⟨_, rfl, p, ms, rfl, .inl (SqL.of gp), _, rfl, _, _, _, _, rfl, rfl, SqT.of e1, rfl, b, pv, rfl, .inr (SqT.of e2), _, _, rfl, rfl, ?_⟩
        refine ⟨_, rfl, _, _, _, _, rfl, rfl, SqT.of e1, rfl, _, rfl, _, rfl, _, rfl, p, ms, rfl, SqL.of gp, fun l2 hl2 => ?_⟩
        rw [cut_from ms _ j0 j1, ej]
        have s4 := same_new hl2 (HO.lst (ms.drop (made.length - qs.length)))
        have x4 : upd H3 l2 (HO.lst (ms.drop (made.length - qs.length))) l2 = some _ := upd_same
        generalize upd H3 l2 (HO.lst (ms.drop (made.length - qs.length))) = H4 at s4 x4 ⊢
        refine ⟨l2, _, rfl, .inl ⟨SqL.of x4, fun b2 hb2 => ?_⟩⟩
        have s5 := same_new hb2 (HO.tup (ms.drop (made.length - qs.length)))
        have x5 : upd H4 b2 (HO.tup (ms.drop (made.length - qs.length))) b2 = some _ := upd_same
        generalize upd H4 b2 (HO.tup (ms.drop (made.length - qs.length))) = H5 at s5 x5 ⊢
        refine ⟨(by show 3 ≤ sizeLine; decide), fun g hg => ?_⟩
        have s6 := same_new hg (HO.tup [.str "thing", .str n, .ref b2])
        have x6 : upd H5 g (HO.tup [.str "thing", .str n, .ref b2]) g = some _ := upd_same
        generalize upd H5 g (HO.tup [.str "thing", .str n, .ref b2]) = H6 at s6 x6 ⊢
        have s36 := s4.trans (s5.trans s6)
        refine ⟨_, rfl, _, rfl, _, rfl, p, ms, rfl, SqL.of (s36 _ _ gp), fun p7 hp7 => ?_⟩
        rw [cut_to ms _ j0 j1, ej]
        have s7 := same_new hp7 (HO.lst (ms.take (made.length - qs.length)))
        have x7 : upd H6 p7 (HO.lst (ms.take (made.length - qs.length))) p7 = some _ := upd_same
        have np7 : p7 ≠ ls := Ne.symm (ne_of_none (s36 _ _ gl) hp7)
        have fp7 : H p7 = none := (s3.trans s36).free hp7
        generalize upd H6 p7 (HO.lst (ms.take (made.length - qs.length))) = H7 at s7 x7 ⊢
        have s37 := s36.trans s7
        refine key _ _ ⟨_, _, p7, _, made.take (made.length - qs.length), _, .thing n (made.drop (made.length - qs.length)), rfl, s3.trans s37, s37 _ _ gl, k3.trans (.of s37), np7, fp7, x7, (gms.mono (.of s37)).takeN _, ?_, by rw [← hmade]; rfl, ?_, ?_⟩
        · exact termAt_thing.mpr ⟨g, b2, _, rfl, s7 _ _ x6, s7 _ _ (s6 _ _ x5), (gms.mono (.of s37)).dropN _⟩
        · have e5 : (made.take (made.length - qs.length)).length = made.length - qs.length := by rw [List.length_take]; omega
          rw [e5]
          exact hf2
        · rw [List.length_take]; omega
    rintro σ H4 ⟨o5, o6, p, ms, made2, mv, tm, rfl, s4, gl4, k4, npl4, fp4, gp4, gms4, hmv, hgt, hfit4, hml4⟩
    have hl4 := gms4.len
    refine ⟨_, rfl, .inl ⟨rfl, _, SqL.of gp4⟩, _, rfl, p, _, _, rfl, rfl, gp4, big (by omega), ?_⟩
    have k5 : TSame H4 (upd H4 p (HO.lst (ms ++ [mv]))) := .lst gp4
    refine ⟨_, _, _, _, p, _, made2 ++ [tm], rfl, fun b ob z => by rw [upd_ne (ne_of_none z fp4)]; exact s4 _ _ z, by rw [upd_ne (Ne.symm npl4)]; exact gl4, k4.trans k5, npl4, fp4, upd_same, TermsAt.mono k5 (gms4.app (.cons hmv .nil)), ?_, by simpa using hfit4, by simp; omega⟩
    rw [hrun, ← hgt, hmade]
  · rintro σ H3 ⟨o3, o4, o5, o6, p, ms, made, rfl, s3, gl, k3, npl, fp, gp, gms, hmade, hfit, hml⟩
    have e : made = [t.fill f] := by
      rw [hmade, List.take_of_length_le (by rw [List.length_reverse, len_rp]; omega), grun_rp]
      rfl
    subst e
    have gml := gms.len
    match ms, gml, gms, gp with
    | [u], _, gms, gp =>
      refine ⟨_, rfl, p, _, _, u, rfl, rfl, SqL.of gp, rfl, ?_⟩
      exact q u H3 s3 (gms.at 0 (by simp) (by simp))
end
end K12
set_option Elab.async false
set_option linter.all false
set_option maxRecDepth 100000
namespace BF
open PySem PySem.Spec PyProof.Rows L2
open Sem (wp)
/-! ### sorted(a list of texts); an index into a text or a list -/
theorem call_sorted_list {X : Cx} (hc : X.calm = true) : CallR X (.builtin "sorted") (fun xs H Q => ∃ (l : Addr) (ws : List Str), xs = [.ref l] ∧ H l = some (.lst (ws.map V.str)) ∧ ws.length < 64 ∧
    ∀ (l' : Addr) (ss : List Str), H l' = none → ss.Perm ws → (ss.Pairwise fun a b => ¬ b.cps.toList < a.cps.toList) → Q (.ref l') (upd H l' (.lst (ss.map V.str)))) := by
  intro pins s σ H xs us Q I r h
  obtain ⟨l, ws, rfl, hl, hlen, q⟩ := h
  obtain ⟨u, rfl, ru⟩ := r.one
  cases ru
  obtain ⟨its, rv, hL⟩ := lstOk I.hok hl
  have hS := strs_are rv
  have hil := rv.length
  rw [List.length_map] at hil
  have hn := line63
  refine sorted_strs hL hS (by omega) fun out ss a1 a2 a3 => ?_
  obtain ⟨e, he⟩ := sortedAll_at s.heap its out
  have hsl : (ss.map V.str).length ≤ sizeLine := Nat.le_trans (show _ ≤ 64 by rw [List.length_map, a2.length_eq]; omega) (by decide)
  exact ⟨.ref (s.heap.objs.size + 1), upd H (s.heap.objs.size + 1) (.lst (ss.map V.str)), I.laid (a := s.heap.objs.size + 1) (t' := s.toks) (fun b o eb => sortedAll_old eb) (Nat.le_succ _) ⟨hsl, _, e, strs_vals a1, he⟩, rfl, q _ ss (I.hok.fresh (Nat.le_succ _)) a2 (sorted_pair ss a3)⟩
theorem ix_or {X : Cx} {r r' : R2} (h : IxR X r) (h' : IxR X r') : IxR X (fun x y H Q => r x y H Q ∨ r' x y H Q) := by
  intro value slice pins s σ H x y v u Q I rx ry hq hs
  rcases hq with hq | hq
  · exact h value slice pins s σ H x y v u Q I rx ry hq hs
  · exact h' value slice pins s σ H x y v u Q I rx ry hq hs
theorem ix_menu {X : Cx} : IxR X (fun x y H Q => rIxL X.K x y H Q ∨ rIxS x y H Q) := ix_or ix_list ix_str
theorem sorted_uniq : ∀ {a b : List Str}, a.Perm b → (a.Pairwise fun x y => ¬ y.cps.toList < x.cps.toList) → (b.Pairwise fun x y => ¬ y.cps.toList < x.cps.toList) → a = b
  | [], b, h, _, _ => by rw [List.nil_perm.mp h]
  | x :: r, [], h, _, _ => absurd (List.perm_nil.mp h) (by simp)
  | x :: r, y :: s, h, ha, hb => by
    have e : x = y := by
      have h1 : x ∈ y :: s := h.mem_iff.mp (by simp)
      have h2 : y ∈ x :: r := h.mem_iff.mpr (by simp)
      rcases List.mem_cons.mp h1 with z | z
      · exact z
      rcases List.mem_cons.mp h2 with z' | z'
      · exact z'.symm
      have h3 := List.rel_of_pairwise_cons ha z'
      have h4 := List.rel_of_pairwise_cons hb z
      have h5 : x.cps.toList = y.cps.toList := List.le_antisymm (List.not_lt.mp h3) (List.not_lt.mp h4)
      cases x with | mk cx => cases y with | mk cy => simpa using h5
    subst e
    rw [sorted_uniq ((List.perm_cons x).mp h) (List.pairwise_cons.mp ha).2 (List.pairwise_cons.mp hb).2]
end BF
namespace BF
open PySem
/-! ### what makes the two alike makes every line alike -/
/-! ### a ring: nothing makes its lines alike -/
/-! ### blanks that are filled one after the other -/
end BF
namespace BF
open PySem
/-! ### how great filled terms can be -/
end BF
namespace BF
open PySem
/-! ### blanks called anew, two never by the same word -/
def ren (ρ : Str → Str) : Str → Tm := fun w => .blank (ρ w)
def InjOn (ρ : Str → Str) (l : List Str) : Prop := ∀ a ∈ l, ∀ b ∈ l, ρ a = ρ b → a = b
theorem sub_inj {φ ψ : Str → Tm} (t : Tm) : t.sub φ = t.sub ψ → ∀ w ∈ t.bl, φ w = ψ w := by
  refine Tm.ind (P := fun t => t.sub φ = t.sub ψ → ∀ w ∈ t.bl, φ w = ψ w) (fun _ _ w h => by simp [Tm.bl] at h) (fun _ _ w h => by simp [Tm.bl] at h) (fun x h w hw => ?_) (fun v ps ih h w hw => ?_) t
  · simp only [Tm.bl, List.mem_singleton] at hw
    subst hw
    exact h
  · simp only [Tm.bl] at hw
    obtain ⟨p, hp, hw⟩ := mem_blL.mp hw
    simp only [Tm.sub, subL_map, Tm.thing.injEq, true_and] at h
    refine ih p hp ?_ w hw
    exact List.map_inj_left.mp h p hp
abbrev Wp := List (Str × Str)
def lookW (f : Wp) (w : Str) : Option Str := (f.find? fun p => decide (p.1 = w)).map (·.2)
theorem lookW_cons (p : Str × Str) (r : Wp) (w : Str) : lookW (p :: r) w = if p.1 = w then some p.2 else lookW r w := by
  unfold lookW
  rw [List.find?_cons]
  by_cases e : p.1 = w <;> simp [e]
theorem lookW_nil (w : Str) : lookW [] w = none := rfl
theorem lookW_append (a b : Wp) (w : Str) : lookW (a ++ b) w = (lookW a w).or (lookW b w) := by
  induction a with
  | nil => simp [lookW_nil]
  | cons p r ih =>
    rw [List.cons_append, lookW_cons, lookW_cons, ih]
    split <;> simp
theorem lookW_mem {f : Wp} {w v : Str} (h : lookW f w = some v) : (w, v) ∈ f := by
  induction f with
  | nil => cases h
  | cons p r ih =>
    rw [lookW_cons] at h
    split at h
    · rename_i c
      cases h
      rw [← c]
      simp
    · simp [ih h]
/-- what the law's look at two terms has come to -/
structure VInv (t u : Tm) (td : List Ln) (fo ba : Wp) : Prop where
  sol : ∀ ρ : Str → Str, InjOn ρ t.bl → (t.sub (ren ρ) = u ↔ (∀ p ∈ td, p.1.sub (ren ρ) = p.2) ∧ ∀ z ∈ fo, ρ z.1 = z.2)
  inv : ∀ a b, lookW fo a = some b ↔ lookW ba b = some a
  key : ∀ w ∈ t.bl, lookW fo w ≠ none ∨ ∃ p ∈ td, w ∈ p.1.bl
  sub : (∀ z ∈ fo, z.1 ∈ t.bl ∧ lookW fo z.1 = some z.2) ∧ ∀ p ∈ td, ∀ w ∈ p.1.bl, w ∈ t.bl
theorem VInv.start (t u : Tm) : VInv t u [(t, u)] [] [] where
  sol := fun ρ _ => by simp
  inv := fun a b => by simp [lookW_nil]
  key := fun w hw => .inr ⟨(t, u), by simp, hw⟩
  sub := ⟨fun z hz => by simp at hz, fun p hp w hw => by cases List.mem_singleton.mp hp; exact hw⟩
variable {t u : Tm} {td : List Ln} {fo ba : Wp}
/-- a blank with its mate that are known already -/
theorem VInv.old {a b : Str} (h : VInv t u (td ++ [(.blank a, .blank b)]) fo ba) (hf : lookW fo a = some b) : VInv t u td fo ba where
  sol := fun ρ hρ => by
    rw [h.sol ρ hρ]
    refine ⟨fun ⟨h1, h2⟩ => ⟨fun p hp => h1 p (by simp [hp]), h2⟩, fun ⟨h1, h2⟩ => ⟨fun p hp => ?_, h2⟩⟩
    rcases List.mem_append.mp hp with y | y
    · exact h1 p y
    · cases List.mem_singleton.mp y
      show Tm.blank (ρ a) = .blank b
      rw [h2 (a, b) (lookW_mem hf)]
  inv := h.inv
  key := fun w hw => by
    rcases h.key w hw with y | ⟨p, hp, hp'⟩
    · exact .inl y
    · rcases List.mem_append.mp hp with z | z
      · exact .inr ⟨p, z, hp'⟩
      · cases List.mem_singleton.mp z
        simp only [Tm.bl, List.mem_singleton] at hp'
        subst hp'
        exact .inl (by rw [hf]; simp)
  sub := ⟨h.sub.1, fun p hp => h.sub.2 p (by simp [hp])⟩
/-- a new blank with its mate -/
theorem VInv.new {a b : Str} (h : VInv t u (td ++ [(.blank a, .blank b)]) fo ba) (hf : lookW fo a = none) (hb : lookW ba b = none) : VInv t u td (fo ++ [(a, b)]) (ba ++ [(b, a)]) where
  sol := fun ρ hρ => by
    rw [h.sol ρ hρ]
    refine ⟨fun ⟨h1, h2⟩ => ⟨fun p hp => h1 p (by simp [hp]), fun z hz => ?_⟩, fun ⟨h1, h2⟩ => ⟨fun p hp => ?_, fun z hz => h2 z (by simp [hz])⟩⟩
    · rcases List.mem_append.mp hz with y | y
      · exact h2 z y
      · cases List.mem_singleton.mp y
        have := h1 (.blank a, .blank b) (by simp)
        exact Tm.blank.inj this
    · rcases List.mem_append.mp hp with y | y
      · exact h1 p y
      · cases List.mem_singleton.mp y
        show Tm.blank (ρ a) = .blank b
        rw [h2 (a, b) (by simp)]
  inv := fun c d => by
    rw [lookW_append, lookW_append, lookW_cons, lookW_cons, lookW_nil, lookW_nil]
    by_cases e1 : a = c
    · subst e1
      rw [hf]
      simp only [Option.none_or, if_true, Option.some.injEq]
      by_cases e2 : b = d
      · subst e2
        rw [hb]
        simp
      · simp only [e2, if_false, Option.or_none, false_iff]
        intro z
        have := (h.inv a d).mpr z
        rw [hf] at this
        cases this
    · simp only [e1, if_false, Option.or_none]
      rw [h.inv]
      by_cases e2 : b = d
      · subst e2
        rw [hb]
        simp [e1]
      · simp [e2]
  key := fun w hw => by
    rcases h.key w hw with y | ⟨p, hp, hp'⟩
    · refine .inl ?_
      rw [lookW_append]
      cases e : lookW fo w with
      | none => exact absurd e y
      | some v => simp
    · rcases List.mem_append.mp hp with z | z
      · exact .inr ⟨p, z, hp'⟩
      · cases List.mem_singleton.mp z
        simp only [Tm.bl, List.mem_singleton] at hp'
        subst hp'
        exact .inl (by rw [lookW_append, hf, lookW_cons]; simp)
  sub := ⟨fun z hz => by
    rcases List.mem_append.mp hz with y | y
    · obtain ⟨h1, h2⟩ := h.sub.1 z y
      exact ⟨h1, by rw [lookW_append, h2]; rfl⟩
    · cases List.mem_singleton.mp y
      exact ⟨h.sub.2 (.blank a, .blank b) (by simp) a (by simp [Tm.bl]), by rw [lookW_append, hf, lookW_cons]; simp⟩, fun p hp => h.sub.2 p (by simp [hp])⟩
theorem VInv.leaf {s : Tm} (h : VInv t u (td ++ [(s, s)]) fo ba) (hs : s.bl = []) : VInv t u td fo ba where
  sol := fun ρ hρ => by
    rw [h.sol ρ hρ]
    refine ⟨fun ⟨h1, h2⟩ => ⟨fun p hp => h1 p (by simp [hp]), h2⟩, fun ⟨h1, h2⟩ => ⟨fun p hp => ?_, h2⟩⟩
    rcases List.mem_append.mp hp with y | y
    · exact h1 p y
    · cases List.mem_singleton.mp y
      have := sub_congr (φ := ren ρ) (ψ := Tm.blank) s fun w hw => by rw [hs] at hw; cases hw
      exact this.trans (sub_blank s)
  inv := h.inv
  key := fun w hw => by
    rcases h.key w hw with y | ⟨p, hp, hp'⟩
    · exact .inl y
    · rcases List.mem_append.mp hp with z | z
      · exact .inr ⟨p, z, hp'⟩
      · cases List.mem_singleton.mp z
        simp only [hs] at hp'
        cases hp'
  sub := ⟨h.sub.1, fun p hp => h.sub.2 p (by simp [hp])⟩
theorem VInv.parts {w : Str} {ps qs : List Tm} (h : VInv t u (td ++ [(.thing w ps, .thing w qs)]) fo ba) (hl : ps.length = qs.length) : VInv t u (td ++ ps.zip qs) fo ba where
  sol := fun ρ hρ => by
    rw [h.sol ρ hρ]
    refine ⟨fun ⟨h1, h2⟩ => ⟨fun p hp => ?_, h2⟩, fun ⟨h1, h2⟩ => ⟨fun p hp => ?_, h2⟩⟩
    · rcases List.mem_append.mp hp with y | y
      · exact h1 p (by simp [y])
      · exact (thing_sub.mp (h1 (.thing w ps, .thing w qs) (by simp))).2.2 p y
    · rcases List.mem_append.mp hp with y | y
      · exact h1 p (by simp [y])
      · cases List.mem_singleton.mp y
        exact thing_sub.mpr ⟨rfl, hl, fun z hz => h1 z (by simp [hz])⟩
  inv := h.inv
  key := fun x hx => by
    rcases h.key x hx with y | ⟨p, hp, hp'⟩
    · exact .inl y
    · rcases List.mem_append.mp hp with z | z
      · exact .inr ⟨p, by simp [z], hp'⟩
      · cases List.mem_singleton.mp z
        simp only [Tm.bl] at hp'
        obtain ⟨q, hq, hx'⟩ := mem_blL.mp hp'
        obtain ⟨k, hk, e⟩ := List.mem_iff_getElem.mp hq
        refine .inr ⟨(q, qs[k]'(by omega)), List.mem_append_right _ (List.mem_of_getElem? (List.getElem?_zip_eq_some.mpr ⟨by rw [← e]; exact List.getElem?_eq_getElem hk, List.getElem?_eq_getElem (by omega)⟩)), hx'⟩
  sub := ⟨h.sub.1, fun p hp x hx => by
    rcases List.mem_append.mp hp with y | y
    · exact h.sub.2 p (by simp [y]) x hx
    · exact h.sub.2 (.thing w ps, .thing w qs) (by simp) x (by simp only [Tm.bl]; exact mem_blL.mpr ⟨p.1, (List.of_mem_zip y).1, hx⟩)⟩
def Vrt (t u : Tm) (ρ : Str → Str) : Prop := InjOn ρ t.bl ∧ t.sub (ren ρ) = u
/-- nothing is left: the words that were found do it -/
theorem VInv.done (h : VInv t u [] fo ba) : Vrt t u fun w => (lookW fo w).getD w := by
  have hi : InjOn (fun w => (lookW fo w).getD w) t.bl := fun a ha b hb e => by
    have k1 : lookW fo a ≠ none := by
      rcases h.key a ha with y | ⟨p, hp, _⟩
      · exact y
      · cases hp
    have k2 : lookW fo b ≠ none := by
      rcases h.key b hb with y | ⟨p, hp, _⟩
      · exact y
      · cases hp
    cases e1 : lookW fo a with
    | none => exact absurd e1 k1
    | some c =>
      cases e2 : lookW fo b with
      | none => exact absurd e2 k2
      | some d =>
        simp only [e1, e2, Option.getD_some] at e
        subst e
        have := ((h.inv a c).mp e1).symm.trans ((h.inv b c).mp e2)
        exact Option.some.inj this
  refine ⟨hi, (h.sol _ hi).mpr ⟨fun p hp => (by cases hp), fun z hz => ?_⟩⟩
  show (lookW fo z.1).getD z.1 = z.2
  rw [(h.sub.1 z hz).2]
  rfl
/-- no words do it -/
theorem VInv.no1 {a b c : Str} (h : VInv t u (td ++ [(.blank a, .blank b)]) fo ba) (hf : lookW fo a = some c) (hc : c ≠ b) : ∀ ρ, ¬ Vrt t u ρ := fun ρ ⟨h1, h2⟩ => by
  obtain ⟨h3, h4⟩ := (h.sol ρ h1).mp h2
  have e1 := h4 (a, c) (lookW_mem hf)
  have e2 := Tm.blank.inj (h3 (.blank a, .blank b) (by simp))
  exact hc (e1.symm.trans e2)
theorem VInv.no2 {a b c : Str} (h : VInv t u (td ++ [(.blank a, .blank b)]) fo ba) (hb : lookW ba b = some c) (hc : c ≠ a) : ∀ ρ, ¬ Vrt t u ρ := fun ρ ⟨h1, h2⟩ => by
  obtain ⟨h3, h4⟩ := (h.sol ρ h1).mp h2
  have hf := (h.inv c b).mpr hb
  have hm := lookW_mem hf
  have e1 := h4 (c, b) hm
  have e2 := Tm.blank.inj (h3 (.blank a, .blank b) (by simp))
  exact hc (h1 c (h.sub.1 _ hm).1 a (h.sub.2 (.blank a, .blank b) (by simp) a (by simp [Tm.bl])) (e1.trans e2.symm))
theorem VInv.no {s s' : Tm} (h : VInv t u (td ++ [(s, s')]) fo ba) (hs : ∀ ρ, s.sub (ren ρ) ≠ s') : ∀ ρ, ¬ Vrt t u ρ := fun ρ ⟨h1, h2⟩ => hs ρ (((h.sol ρ h1).mp h2).1 (s, s') (by simp))
end BF
set_option Elab.async false
set_option linter.all false
set_option maxRecDepth 100000
set_option maxHeartbeats 4000000
namespace K12
open PySem L2 BF
section
variable {P : Program} {w : World} {K : PySem.W.Frag} {mg : Str → Option Value} {base : Heap}
abbrev WsAt (H : Hp) (ps : List V) (ws : Wp) : Prop := Paired (fun x z => ∃ a, x = .ref a ∧ H a = some (.tup [.str z.1, .str z.2])) ps ws
theorem WsAt.mono {H H' : Hp} {ps : List V} {ws : Wp} (k : TSame H H') (h : WsAt H ps ws) : WsAt H' ps ws := paired_mono (fun _ _ ⟨a, e, h1⟩ => ⟨a, e, k _ _ h1⟩) h
def wf (nm : Wp) : Fl := nm.map fun z => (z.1, .blank z.2)
theorem wf_keys (nm : Wp) : (wf nm).map (·.1) = nm.map (·.1) := by simp [wf, List.map_map, Function.comp_def]
def spRenamed : Sp := fun vs H Q _ => ∃ (v : V) (t : Tm) (l : Addr) (ps : List V) (nm : Wp), vs = [v, .ref l] ∧ TermAt H v t ∧ t.nodes ≤ 200 ∧ H l = some (.lst ps) ∧ WsAt H ps nm ∧ (nm.map (·.1)).Nodup ∧ nm.length ≤ 900 ∧ ∀ v' H', Same H H' → TermAt H' v' (t.fill (wf nm)) → Q v' H'
theorem ok_renamed {f0 : Addr} {fd : FuncData} (F : Fun K "renamed" "renamed" s_renamed f0 fd) (T : Bi mg) (TD : mg "dict" = none) (c_replaced : Cal P w K mg base 2 "replaced" ["term", "terms"] spRep) : FnOk P w K mg base CX0 3 f0 fd ["term", "names"] spRenamed := by
  refine F.ok sc_renamed (fun vs H Q E h => ?_) (fun cdv A outer s H vs Q E hr h => ?_)
  · obtain ⟨_, _, _, _, _, rfl, _⟩ := h
    rfl
  obtain ⟨v, t, l, ps, nm, rfl, ht, hn, hl, hf, hnd, hsz, q⟩ := h
  have hlen := Paired.length hf
  refine ⟨_, (pss_one (ps_ret (pe_cal c_replaced (hr.mono (by decide)) (pa_cons (pv 0) (pa_cons (pe_bty (call_dict_pairs rfl) TD bt_dict (pa_cons (pe_comp (Nc := ["pair"]) (k := 1) (js := []) ⟨rfl, rfl, rfl, rfl, rfl, rfl⟩ (pi_list (pv 1)) (fun _ _ _ _ => pg_name (i := 0) (show (["pair"] : List Str).Nodup by decide +kernel) rfl (Or.inl rfl)) (fun _ _ _ _ => pts_nil) (fun _ _ _ _ => (pe_tup (pa_cons (pe_ix ix_tup (pv 0) pe_int (fun _ _ => rfl)) (pa_cons (pe_tup (pa_cons pe_str (pa_cons (pe_ix ix_tup (pv 0) pe_int (fun _ _ => rfl)) pa_nil))) pa_nil))))) pa_nil)) pa_nil))))), ?_⟩
  refine ⟨_, rfl, _, rfl, l, rfl, ⟨_, SqL.of hl⟩, fun D fD _ _ _ _ => comp_listN (K := K) (a := l) (xs := ps) (fun n σ HA => ∃ (o : Option V) (qs : List V), σ = [o] ∧ Same H HA ∧ HA D = some (.lst qs) ∧ FillAt HA qs (wf (nm.take n)) ∧ qs.length ≤ n)
    ⟨none, [], rfl, same_new fD _, upd_same, .nil, Nat.le_refl _⟩ (fun n σ HA _ ⟨_, _, _, sA, _⟩ => sA.seq (SqL.of hl)) ?_ ?_⟩
  · rintro n x σ HA hx ⟨o, qs, rfl, sA, gA, hqs, hql⟩
    have hnl := (List.getElem?_eq_some_iff.mp hx).1
    have hnm : n < nm.length := by omega
    obtain ⟨z, hz, a, rfl, ha⟩ := pair_get hf hx
    rw [List.getElem?_eq_getElem hnm] at hz
    cases hz
    have ha' := sA _ _ ha
    refine ⟨_, rfl, _, _, _, _, rfl, rfl, SqT.of ha', at0', _, rfl, _, _, _, _, rfl, rfl, SqT.of ha', at1', (by show 2 ≤ sizeLine; decide), fun g fg => ?_⟩
    have s1 := same_new fg (HO.tup [.str "blank", .str nm[n].2])
    have x1 : upd HA g (HO.tup [.str "blank", .str nm[n].2]) g = some _ := upd_same
    generalize upd HA g (HO.tup [.str "blank", .str nm[n].2]) = H1 at s1 x1 ⊢
    refine ⟨(by show 2 ≤ sizeLine; decide), fun g2 fg2 => ?_⟩
    have s2 := same_new fg2 (HO.tup [.str nm[n].1, .ref g])
    have x2 : upd H1 g2 (HO.tup [.str nm[n].1, .ref g]) g2 = some _ := upd_same
    generalize upd H1 g2 (HO.tup [.str nm[n].1, .ref g]) = H2 at s2 x2 ⊢
    have s12 := s1.trans s2
    refine ⟨qs, s12 _ _ gA, big (by omega), _, qs ++ [.ref g2], rfl, fun b ob z => by rw [upd_ne (ne_of_none z fD)]; exact s12 _ _ (sA _ _ z), upd_same, ?_, by simp; omega⟩
    have k3 : TSame H2 (upd H2 D (HO.lst (qs ++ [.ref g2]))) := .lst (s12 _ _ gA)
    rw [List.take_succ_eq_append_getElem hnm, wf, List.map_append]
    exact FillAt.mono k3 ((hqs.mono (.of s12)).app ⟨g2, .ref g, rfl, x2, termAt_blank.mpr ⟨g, rfl, s2 _ _ x1⟩⟩)
  rintro σ HA ⟨o, qs, rfl, sA, gA, hqs, hql⟩
  rw [List.take_of_length_le (by omega)] at hqs
  obtain ⟨kvs, g1, g2⟩ := fill_dict hqs (by rw [wf_keys]; exact hnd)
  refine ⟨D, qs, kvs, rfl, gA, g1, big (by omega), fun d hd => ?_⟩
  refine ⟨v, t, d, _, wf nm, rfl, (ht.mono (.of sA)).mono (.new hd), hn, upd_same, g2.mono (.new hd), fun v' H' s' ht' => ?_⟩
  exact q v' H' (sA.trans ((same_new hd _).trans s')) ht'
theorem hd_sub {t : Tm} {φ : Str → Tm} (h : isB t = false) : hdL (t.sub φ) = hdL t := by
  cases t <;> simp [Tm.sub, hdL, isB, subL_len] at h ⊢
theorem no_differ {t u t1 u1 : Tm} {b : List Int} (h1 : go b t = some t1) (h2 : go b u = some u1) (nb : isB t1 = false) (nh : hdL t1 ≠ hdL u1) : ∀ ρ, ¬ Vrt t u ρ := fun ρ ⟨_, e⟩ => by
  have := go_sub (φ := ren ρ) h1
  rw [e, h2] at this
  cases this
  exact nh (hd_sub nb).symm
theorem no_two {t u u1 u2 : Tm} {x : Str} {b1 b2 : List Int} (h1 : go b1 t = some (.blank x)) (h2 : go b2 t = some (.blank x)) (h3 : go b1 u = some u1) (h4 : go b2 u = some u2) (hne : u1 ≠ u2) : ∀ ρ, ¬ Vrt t u ρ := fun ρ ⟨_, e⟩ => by
  have e1 := go_sub (φ := ren ρ) h1
  have e2 := go_sub (φ := ren ρ) h2
  rw [e, h3] at e1
  rw [e, h4] at e2
  exact hne ((Option.some.inj e1).trans (Option.some.inj e2).symm)
def rof (f : Fl) (w : Str) : Str := match fsub f w with | .blank b => b | _ => w
theorem rof_of {f : Fl} {w b : Str} (h : fsub f w = .blank b) : rof f w = b := by unfold rof; rw [h]
theorem no_blank {t u : Tm} {f : Fl} (hf : t.fill f = u) {x : Str} (hx : x ∈ t.bl) (h : isB (fsub f x) = false) : ∀ ρ, ¬ Vrt t u ρ := fun ρ ⟨_, e⟩ => by
  rw [← hf, fill_sub] at e
  have := sub_inj t e x hx
  rw [← this] at h
  cases h
theorem no_twice {t u : Tm} {f : Fl} (hf : t.fill f = u) {x y : Str} (hx : x ∈ t.bl) (hy : y ∈ t.bl) (hne : x ≠ y) {b : Str} (h1 : fsub f x = .blank b) (h2 : fsub f y = .blank b) : ∀ ρ, ¬ Vrt t u ρ := fun ρ ⟨hi, e⟩ => by
  rw [← hf, fill_sub] at e
  have e1 := sub_inj t e x hx
  have e2 := sub_inj t e y hy
  rw [h1] at e1
  rw [h2] at e2
  exact hne (hi x hx y hy ((Tm.blank.inj e1).trans (Tm.blank.inj e2).symm))
def spSbn : Sp := fun vs H Q _ => ∃ (v v' : V) (t u : Tm), vs = [v, v'] ∧ TermAt H v t ∧ TermAt H v' u ∧ t.nodes ≤ 63 ∧ u.nodes ≤ 90 ∧
  (∀ H', Same H H' → (∀ ρ, ¬ Vrt t u ρ) → Q .non H') ∧
  ∀ (l : Addr) (ps : List V) (ss : List Str) (ρ : Str → Str) (H' : Hp), Same H H' → H' l = some (.lst ps) → WsAt H' ps (ss.map fun x => (x, ρ x)) → ss.Perm t.firsts → (ss.Pairwise fun a b => ¬ b.cps.toList < a.cps.toList) → Vrt t u ρ → Q (.ref l) H'
theorem firsts_nodup (t : Tm) : t.firsts.Nodup := by
  unfold Tm.firsts
  have : ∀ (l acc : List Str), acc.Nodup → (addAll acc l).Nodup := by
    intro l
    induction l with
    | nil => intro acc h; exact h
    | cons x r ih =>
      intro acc h
      simp only [addAll]
      split
      · exact ih acc h
      · rename_i hx
        refine ih _ ?_
        rw [List.nodup_append]
        refine ⟨h, by simp, fun a ha b hb => ?_⟩
        rw [List.mem_singleton.mp hb]
        rintro rfl
        exact hx ha
  exact this _ _ List.nodup_nil
theorem firsts_len (t : Tm) : t.firsts.length ≤ t.bl.length := nodup_len (firsts_nodup t) fun x hx => mem_firsts.mp hx
theorem ok_same_but_names {f0 : Addr} {fd : FuncData} (F : Fun K "same_but_names" "same_but_names" s_same_but_names f0 fd) (T : Bi mg) (TD : mg "dict" = none) (TS : mg "sorted" = none) (c_matched : Cal P w K mg base 3 "matched" ["pattern", "term"] spMatched) (c_blanks_of : Cal P w K mg base 2 "blanks_of" ["term"] spBlanks) :
    FnOk P w K mg base CX0 4 f0 fd ["one", "other"] spSbn := by
  refine F.ok sc_same_but_names (fun vs H Q E h => ?_) (fun cdv A outer s H vs Q E hr h => ?_)
  · obtain ⟨_, _, _, _, rfl, _⟩ := h
    rfl
  obtain ⟨v, v', t, u, rfl, hv, hv', hn, hn', q0, q1⟩ := h
  have hun := hr.un
  have hu : (A.deeper (PyProof.Rows.envOfC "same_but_names" (defScope s_same_but_names) s.heap.objs.size f0 cdv)).units + 1 < cLine := by omega
  have hbl := len_bl t
  have hfl := firsts_len t
  refine ⟨_, (pss_cons (ps_set (i := 2) sc_same_but_names.nd rfl (Or.inl rfl) (pe_cal c_matched (hr.mono (by decide)) (pa_cons (pv 0) (pa_cons (pv 1) pa_nil))))
      (pss_cons (ps_if (pt_cmpR op_ne (pe_ix ix_tup (pv 2) pe_int (fun _ _ => rfl)) pe_str (nomark _)) (pss_one (ps_ret pe_non)) pss_nil)
      (pss_cons (ps_set (i := 3) sc_same_but_names.nd rfl (Or.inl rfl) (pe_bty (call_dict_pairs rfl) TD bt_dict (pa_cons (pe_ix ix_tup (pv 2) pe_int (fun _ _ => rfl)) pa_nil)))
      (pss_cons (ps_set (i := 4) sc_same_but_names.nd rfl (Or.inl rfl) (pe_lst pa_nil))
      (pss_cons (ps_set (i := 5) sc_same_but_names.nd rfl (Or.inl rfl) pe_dnewK)
      (pss_cons (ps_for PassesOwn.never rfl (pi_list (pe_blt (call_sorted_list rfl) TS bt_sorted (pa_cons (pe_cal c_blanks_of (hr.mono (by decide)) (pa_cons (pv 0) pa_nil)) pa_nil))) (pg_name (i := 6) sc_same_but_names.nd rfl (Or.inl rfl)) (pss_cons (ps_set (i := 7) sc_same_but_names.nd rfl (Or.inl rfl) (pe_dget2 hu (pv 3) (pv 6) (pe_tup (pa_cons pe_str (pa_cons (pv 6) pa_nil))) ⟨rfl, rfl, rfl, rfl⟩))
        (pss_cons (ps_if (pw_or (pt_cmpR op_ne (pe_ix ix_tup (pv 7) pe_int (fun _ _ => rfl)) pe_str (nomark _)) (pw_or1 (pt_cmp (pc_din hu (pe_ix ix_tup (pv 7) pe_int (fun _ _ => rfl)) (pv 5))))).pt (pss_one (ps_ret pe_non)) pss_nil)
        (pss_cons (ps_dput hu (pv 5) (pe_ix ix_tup (pv 7) pe_int (fun _ _ => rfl)) pe_bl rfl)
        (pss_one (ps_expr (pe_bm PySem.F.plainAttrs_list PySem.F.slot_list_append PySem.F.type_list_append mt_append (pv 4) (pa_cons (pe_tup (pa_cons (pv 6) (pa_cons (pe_ix ix_tup (pv 7) pe_int (fun _ _ => rfl)) pa_nil))) pa_nil))))))))
      (pss_one (ps_ret (pv 4))))))))), ?_⟩
  refine ⟨_, rfl, _, rfl, v, v', t, u, rfl, hv, hv', by omega, by omega, by omega, ?_, ?_, ?_⟩
  rotate_left
  · intro g l b t1 u1 H1 s1 hg hl g1 g2 nb nh
    exact ⟨_, rfl, _, _, _, _, rfl, rfl, SqT.of hg, at0', rfl, _, rfl, ite_t (by decide +kernel) (q0 _ s1 (no_differ g1 g2 nb nh))⟩
  · intro g l1 l2 b1 b2 x u1 u2 H1 s1 hg hl1 hl2 g1 g2 g3 g4 hne
    exact ⟨_, rfl, _, _, _, _, rfl, rfl, SqT.of hg, at0', rfl, _, rfl, ite_t (by decide +kernel) (q0 _ s1 (no_two g1 g2 g3 g4 hne))⟩
  intro g l ps f H1 s1 hg hl hf hrise hmem hfill
  have hfl2 : f.length ≤ 63 := by
    have hnd : (f.map (·.1)).Nodup := by
      rw [List.nodup_iff_pairwise_ne, List.pairwise_map]
      exact hrise.imp fun h e => by rw [e] at h; exact absurd h (List.lt_irrefl _)
    have := nodup_len hnd (m := t.bl) fun x hx => by
      obtain ⟨p, hp, rfl⟩ := List.mem_map.mp hx
      exact (hmem p hp).1
    rw [List.length_map] at this
    omega
  have hnd : (f.map (·.1)).Nodup := by
    rw [List.nodup_iff_pairwise_ne, List.pairwise_map]
    exact hrise.imp fun h e => by rw [e] at h; exact absurd h (List.lt_irrefl _)
  obtain ⟨kvs, g1, g2⟩ := fill_dict hf hnd
  have hpl := hf.len
  refine ⟨_, rfl, _, _, _, _, rfl, rfl, SqT.of hg, at0', rfl, _, rfl, ite_f (by decide +kernel) ?_⟩
  refine ⟨_, rfl, _, _, _, _, rfl, rfl, SqT.of hg, at1', l, ps, kvs, rfl, hl, g1, big (by omega), fun d fd1 => ?_⟩
  have s2 := same_new fd1 (HO.dK (putAll [] kvs))
  have x2 : upd H1 d (HO.dK (putAll [] kvs)) d = some _ := upd_same
  have g2' := g2.mono (.new fd1 (o := HO.dK (putAll [] kvs)))
  generalize upd H1 d (HO.dK (putAll [] kvs)) = H2 at s2 x2 g2' ⊢
  refine ⟨(by show 0 ≤ sizeLine; decide), fun n fn => ?_⟩
  have s3 := same_new fn (HO.lst [])
  have x3 : upd H2 n (HO.lst []) n = some _ := upd_same
  generalize upd H2 n (HO.lst []) = H3 at s3 x3 ⊢
  refine fun k fk => ?_
  have s4 := same_new fk (HO.dK [])
  have x4 : upd H3 k (HO.dK []) k = some _ := upd_same
  generalize upd H3 k (HO.dK []) = H4 at s4 x4 ⊢
  have s04 := s1.trans (s2.trans (s3.trans s4))
  refine ⟨_, rfl, v, t, rfl, hv.mono (.of s04), by omega, fun lb H5 s5 hlb => ⟨lb, t.firsts, rfl, hlb, by omega, fun ls ss fls hperm hsort => ?_⟩⟩
  have hsl : ss.length = t.firsts.length := hperm.length_eq
  have s6 := same_new fls (HO.lst (ss.map V.str))
  have x6 : upd H5 ls (HO.lst (ss.map V.str)) ls = some _ := upd_same
  generalize upd H5 ls (HO.lst (ss.map V.str)) = H6 at s6 x6 ⊢
  have s46 := s5.trans s6
  have fn0 : H n = none := (s1.trans s2).free fn
  have fk0 : H k = none := (s1.trans (s2.trans s3)).free fk
  have nnk : n ≠ k := ne_of_none x3 fk
  have xn := s46 _ _ (s4 _ _ x3)
  have xk := s46 _ _ x4
  have nls : n ≠ ls := ne_of_none (s5 _ _ (s4 _ _ x3)) fls
  have ssn : ss.Nodup := hperm.nodup_iff.mpr (firsts_nodup t)
  have hbl' : ∀ x ∈ ss, x ∈ t.bl := fun x hx => mem_firsts.mp (hperm.mem_iff.mp hx)
  refine ⟨ls, rfl, ⟨_, SqL.of x6⟩, for_list (K := K) (a := ls) (xs := ss.map V.str) (fun i σ HX => ∃ (o6 o7 : Option V) (ns : List V) (kk : List (Key × V)), σ = [some v, some v', some (.ref g), some (.ref d), some (.ref n), some (.ref k), o6, o7] ∧ Same H HX ∧ HX d = some (.dK (putAll [] kvs)) ∧ DOf HX (putAll [] kvs) f ∧ HX ls = some (.lst (ss.map V.str)) ∧
      HX n = some (.lst ns) ∧ WsAt HX ns ((ss.take i).map fun x => (x, rof f x)) ∧ HX k = some (.dK kk) ∧ kk.length ≤ i ∧ (∀ x ∈ ss.take i, fsub f x = .blank (rof f x)) ∧ (∀ b : Str, valV kk (Sum.inr b) ≠ none ↔ ∃ x ∈ ss.take i, rof f x = b) ∧ InjOn (rof f) (ss.take i))
    ⟨none, none, [], [], rfl, s04.trans s46, (s3.trans (s4.trans s46)) _ _ x2, g2'.mono (.of (s3.trans (s4.trans s46))), x6, xn, .nil, xk, Nat.le_refl _, fun x hx => (by simp at hx), fun b => ⟨fun z => absurd (valV_nil _) z, fun ⟨x, hx, _⟩ => (by simp at hx)⟩, fun a ha => (by simp at ha)⟩ (fun i σ HX _ ⟨_, _, _, _, _, _, _, _, gl, _⟩ => SqL.of gl) ?_ ?_⟩
  · rintro i y σ HX hy ⟨o6, o7, ns, kk, rfl, sX, gd, hdof, gl, gn, hns, gk, hkl, hsub, htk, hinj⟩
    have hi : i < ss.length := by have := (List.getElem?_eq_some_iff.mp hy).1; simpa using this
    have ey : y = .str ss[i] := by
      rw [List.getElem?_map, List.getElem?_eq_getElem hi] at hy
      exact (Option.some.inj hy).symm
    subst ey
    have hxb := hbl' _ (List.getElem_mem hi)
    -- the term that the filling has for the word
    refine ⟨_, rfl, d, rfl, .inl ⟨_, .inl gd⟩, _, rfl, _, rfl, (by show 2 ≤ sizeLine; decide), fun e fe => ?_⟩
    have t1 := same_new fe (HO.tup [.str "blank", .str ss[i]])
    have z1 : upd HX e (HO.tup [.str "blank", .str ss[i]]) e = some _ := upd_same
    generalize upd HX e (HO.tup [.str "blank", .str ss[i]]) = HY at t1 z1 ⊢
    have gdY := t1 _ _ gd
    obtain ⟨ov, hov, hterm⟩ : ∃ ov : Option V, DGet HY d (.str ss[i]) ov ∧ TermAt HY (ov.getD (.ref e)) (fsub f ss[i]) := by
      have hd' := (hdof.mono (.of t1)) ss[i]
      refine ⟨_, DGet.k (k := Sum.inr ss[i]) gdY, ?_⟩
      unfold fsub
      cases hlk : look f ss[i] with
      | none => rw [hd'.1 hlk]; exact termAt_blank.mpr ⟨e, rfl, z1⟩
      | some t0 =>
        obtain ⟨v0, e0, h0⟩ := hd'.2 t0 hlk
        rw [e0]
        exact h0
    refine ⟨ov, hov, ?_⟩
    generalize ov.getD (.ref e) = vt at hterm ⊢
    have sY := sX.trans t1
    obtain ⟨a1, xs1, k1, rfl, f1, hB1, _⟩ := hterm.kind
    refine ⟨_, rfl, _, _, _, _, rfl, rfl, SqT.of f1, at0', rfl, _, rfl, ite2 (fun c => iteT (q0 _ sY (no_blank hfill hxb ?_))) (fun c => ?_)⟩
    · exact Bool.eq_false_iff.mpr fun z => by rw [hB1.mpr z] at c; simp at c
    have c' : isB (fsub f ss[i]) = true := hB1.mp (by simpa using c)
    obtain ⟨b, eb⟩ := (isB_iff _).mp c'
    rw [eb] at hterm
    obtain ⟨a1', e0, f1'⟩ := termAt_blank.mp hterm
    cases e0
    have gkY := t1 _ _ gk
    refine ⟨_, rfl, _, _, _, _, rfl, rfl, SqT.of f1', at1', _, rfl, k, _, rfl, DGet.k (k := Sum.inr b) gkY, _, rfl, ite2 (fun c2 => q0 _ sY ?_) (fun c2 => ?_)⟩
    · have : valV kk (Sum.inr b) ≠ none := fun z => by rw [z] at c2; simp at c2
      obtain ⟨x, hx, hxb2⟩ := (htk b).mp this
      have hxs : x ∈ ss := List.mem_of_mem_take hx
      refine no_twice hfill (hbl' x hxs) hxb (fun z => ?_) (hxb2 ▸ hsub x hx) eb
      subst z
      obtain ⟨j, hj, ej⟩ := List.mem_iff_getElem.mp hx
      rw [List.length_take] at hj
      rw [List.getElem_take] at ej
      exact (List.pairwise_iff_getElem.mp ssn j i (by omega) hi (by omega)) ej
    · have hnone : valV kk (Sum.inr b) = none := by
        cases hz : valV kk (Sum.inr b) with
        | none => rfl
        | some z => rw [hz] at c2; simp at c2
      have hro : rof f ss[i] = b := rof_of eb
      refine ⟨_, rfl, _, rfl, _, _, _, _, rfl, rfl, SqT.of f1', at1', k, _, rfl, DPut.k (k := Sum.inr b) gkY (big (by omega)), ?_⟩
      have k2 : TSame HY (upd HY k (HO.dK (putK kk (Sum.inr b) (.bl true)))) := fun b' ys z => by rw [upd_ne (ne_of z gkY (by intro z; cases z))]; exact z
      have l2 : ∀ l' xs, HY l' = some (.lst xs) → upd HY k (HO.dK (putK kk (Sum.inr b) (.bl true))) l' = some (.lst xs) := fun l' xs z => by rw [upd_ne (ne_of z gkY (by intro z; cases z))]; exact z
      have gk2 : upd HY k (HO.dK (putK kk (Sum.inr b) (.bl true))) k = some _ := upd_same
      have ndk : d ≠ k := ne_of_none ((s3) _ _ x2) fk
      have gd2 : upd HY k (HO.dK (putK kk (Sum.inr b) (.bl true))) d = some (.dK (putAll [] kvs)) := by rw [upd_ne ndk]; exact gdY
      have sZ : Same H (upd HY k (HO.dK (putK kk (Sum.inr b) (.bl true)))) := fun b' ob z => by rw [upd_ne (ne_of_none z fk0)]; exact sY _ _ z
      generalize upd HY k (HO.dK (putK kk (Sum.inr b) (.bl true))) = HZ at k2 l2 gk2 gd2 sZ ⊢
      have kXZ := (TSame.of t1).trans k2
      have gnZ := l2 _ _ (t1 _ _ gn)
      have f1Z := k2 _ _ f1'
      refine ⟨_, rfl, .inl ⟨rfl, _, SqL.of gnZ⟩, _, rfl, _, rfl, _, _, _, _, rfl, rfl, SqT.of f1Z, at1', (by show 2 ≤ sizeLine; decide), fun p fp => ?_⟩
      have t5 := same_new fp (HO.tup [.str ss[i], .str b])
      have z5 : upd HZ p (HO.tup [.str ss[i], .str b]) p = some _ := upd_same
      generalize upd HZ p (HO.tup [.str ss[i], .str b]) = HW at t5 z5 ⊢
      have gnW := t5 _ _ gnZ
      have hnl := Paired.length hns
      rw [List.length_map, List.length_take] at hnl
      refine ⟨n, _, _, rfl, rfl, gnW, big (by omega), ?_⟩
      have k6 : TSame HW (upd HW n (HO.lst (ns ++ [.ref p]))) := .lst gnW
      have kX6 := (kXZ.trans (.of t5)).trans k6
      have etk : ss.take (i + 1) = ss.take i ++ [ss[i]] := List.take_succ_eq_append_getElem hi
      refine ⟨_, _, ns ++ [.ref p], _, rfl, fun b' ob z => by rw [upd_ne (ne_of_none z fn0)]; exact t5 _ _ (sZ _ _ z), by rw [upd_ne (ne_of (t5 _ _ gd2) gnW (by intro z; cases z))]; exact t5 _ _ gd2, hdof.mono kX6, by rw [upd_ne nls.symm]; exact t5 _ _ (l2 _ _ (t1 _ _ gl)), upd_same, ?_, by rw [upd_ne nnk.symm]; exact t5 _ _ gk2, ?_, ?_, ?_, ?_⟩
      · rw [etk, List.map_append]
        exact paired_snoc (WsAt.mono kX6 hns) ⟨p, rfl, by show _ = some (HO.tup [.str ss[i], .str (rof f ss[i])]); rw [hro]; exact k6 _ _ z5⟩
      · have := length_putK kk (Sum.inr b) (V.bl true)
        omega
      · intro x hx
        rw [etk] at hx
        rcases List.mem_append.mp hx with z | z
        · exact hsub x z
        · rw [List.mem_singleton.mp z, hro]; exact eb
      · intro b'
        rw [valV_put, etk]
        by_cases e1 : b' = b
        · subst e1
          rw [if_pos rfl]
          exact ⟨fun _ => ⟨ss[i], List.mem_append_right _ (List.mem_singleton.mpr rfl), hro⟩, fun _ z => by cases z⟩
        · rw [if_neg (fun z => e1 (Sum.inr.inj z)), htk b']
          constructor
          · rintro ⟨x, hx, ex⟩
            exact ⟨x, List.mem_append_left _ hx, ex⟩
          · rintro ⟨x, hx, ex⟩
            rcases List.mem_append.mp hx with z | z
            · exact ⟨x, z, ex⟩
            · rw [List.mem_singleton.mp z, hro] at ex
              exact absurd ex.symm e1
      · rw [etk]
        have old : ∀ x ∈ ss.take i, rof f x ≠ b := fun x hx z => ((htk b).mpr ⟨x, hx, z⟩) hnone
        intro x hx y hy e
        rcases List.mem_append.mp hx with z | z <;> rcases List.mem_append.mp hy with z' | z'
        · exact hinj x z y z' e
        · rw [List.mem_singleton.mp z', hro] at e
          exact absurd e (old x z)
        · rw [List.mem_singleton.mp z, hro] at e
          exact absurd e.symm (old y z')
        · rw [List.mem_singleton.mp z, List.mem_singleton.mp z']
  · rintro σ HX ⟨o6, o7, ns, kk, rfl, sX, gd, hdof, gl, gn, hns, gk, hkl, hsub, htk, hinj⟩
    rw [List.length_map, List.take_of_length_le (Nat.le_refl _)] at hns hsub htk hinj
    have hin : ∀ x ∈ t.bl, x ∈ ss := fun x hx => hperm.mem_iff.mpr (mem_firsts.mpr hx)
    refine ⟨_, rfl, q1 n ns ss (rof f) HX sX gn hns hperm hsort ⟨fun x hx y hy e => hinj x (hin x hx) y (hin y hy) e, ?_⟩⟩
    rw [← hfill, fill_sub]
    exact sub_congr t fun x hx => (hsub x (hin x hx)).symm
end
end K12
set_option Elab.async false
set_option linter.all false
set_option maxRecDepth 100000
set_option maxHeartbeats 4000000
namespace K12
open PySem L2 BF
section
variable {P : Program} {w : World} {K : PySem.W.Frag} {mg : Str → Option Value} {base : Heap}
theorem vat2 {x y z : V} {xs : List V} : atI (x :: y :: z :: xs) (2 : Int) = some z := atI_nat (j := 2) rfl
def kd : Tm → Str
  | .num _ => "number"
  | .name _ => "name"
  | .blank _ => "blank"
  | .thing _ _ => "thing"
theorem kd_at {H : Hp} {v : V} {t : Tm} (h : TermAt H v t) : ∃ a xs, v = .ref a ∧ H a = some (.tup (.str (kd t) :: xs)) := by
  cases t with
  | num n => obtain ⟨a, e, h⟩ := termAt_num.mp h; exact ⟨a, _, e, h⟩
  | name n => obtain ⟨a, e, h⟩ := termAt_name.mp h; exact ⟨a, _, e, h⟩
  | blank n => obtain ⟨a, e, h⟩ := termAt_blank.mp h; exact ⟨a, _, e, h⟩
  | thing n ps => obtain ⟨a, b, us, e, h, _⟩ := termAt_thing.mp h; exact ⟨a, _, e, h⟩
theorem kd_ren (ρ : Str → Str) (t : Tm) : kd (t.sub (ren ρ)) = kd t := by cases t <;> rfl
def WpOf (kvs : List (Key × V)) (f : Wp) : Prop := ∀ x : Str, valV kvs (Sum.inr x) = (lookW f x).map V.str
theorem WpOf.put {kvs : List (Key × V)} {f g : Wp} {a b : Str} (h : WpOf kvs f) (h1 : lookW g a = some b) (h2 : ∀ x, x ≠ a → lookW g x = lookW f x) : WpOf (putK kvs (Sum.inr a) (.str b)) g := fun x => by
  rw [valV_put]
  by_cases e : x = a
  · subst e
    rw [if_pos rfl, h1]
    rfl
  · rw [if_neg (fun z => e (Sum.inr.inj z)), h2 x e]
    exact h x
theorem lookW_snoc (f : Wp) (a b x : Str) : lookW (f ++ [(a, b)]) x = (lookW f x).or (if a = x then some b else none) := by
  rw [lookW_append, lookW_cons, lookW_nil]
def spVariant : Sp := fun vs H Q _ => ∃ (v v' : V) (t u : Tm), vs = [v, v'] ∧ TermAt H v t ∧ TermAt H v' u ∧ t.nodes ≤ 30000 ∧
  (∀ H', Same H H' → (∀ ρ, ¬ Vrt t u ρ) → Q .non H') ∧
  ∀ (d : Addr) (kvs : List (Key × V)) (fo : Wp) (H' : Hp), Same H H' → H' d = some (.dK kvs) → WpOf kvs fo → (∀ x ∈ t.bl, lookW fo x ≠ none) → Vrt t u (fun x => (lookW fo x).getD x) → Q (.ref d) H'
theorem ok_variant {f0 : Addr} {fd : FuncData} (F : Fun K "_law_variant" "_law_variant" s_law_variant f0 fd) (T : Bi mg) : FnOk P w K mg base CX0 1 f0 fd ["_law_one", "_law_other"] spVariant := by
  refine F.ok sc_law_variant (fun vs H Q E h => ?_) (fun cdv A outer s H vs Q E hr h => ?_)
  · obtain ⟨_, _, _, _, rfl, _⟩ := h
    rfl
  obtain ⟨v, v', t, u, rfl, hv, hv', hn, q0, q1⟩ := h
  have hun := hr.un
  have hu : (A.deeper (PyProof.Rows.envOfC "_law_variant" (defScope s_law_variant) s.heap.objs.size f0 cdv)).units + 1 < cLine := by omega
  refine ⟨_, (pss_cons (ps_set (i := 2) sc_law_variant.nd rfl (Or.inl rfl) pe_dnewK)
      (pss_cons (ps_set (i := 3) sc_law_variant.nd rfl (Or.inl rfl) pe_dnewK)
      (pss_cons (ps_set (i := 4) sc_law_variant.nd rfl (Or.inl rfl) (pe_lst (pa_cons (pe_tup (pa_cons (pv 0) (pa_cons (pv 1) pa_nil))) pa_nil)))
      (pss_cons (ps_while PassesOwn.never (pt_cmpR (op_neNil hr.units0) (pv 4) (pe_lst pa_nil) (nomark _)) (pss_cons (ps_set (i := 5) sc_law_variant.nd rfl (Or.inl rfl) (pe_bm0 PySem.F.plainAttrs_list PySem.F.slot_list_pop PySem.F.type_list_pop mt_pop (pv 4)))
        (pss_cons (ps_set (i := 6) sc_law_variant.nd rfl (Or.inl rfl) (pe_ix ix_tup (pv 5) pe_int (fun _ _ => rfl)))
        (pss_cons (ps_set (i := 7) sc_law_variant.nd rfl (Or.inl rfl) (pe_ix ix_tup (pv 5) pe_int (fun _ _ => rfl)))
        (pss_cons (ps_if (pt_cmpR op_ne (pe_ix ix_tup (pv 6) pe_int (fun _ _ => rfl)) (pe_ix ix_tup (pv 7) pe_int (fun _ _ => rfl)) (nomark _)) (pss_one (ps_ret pe_non)) pss_nil)
        (pss_one (ps_if (pt_cmpR op_eq (pe_ix ix_tup (pv 6) pe_int (fun _ _ => rfl)) pe_str (nomark _)) (pss_cons (ps_set (i := 8) sc_law_variant.nd rfl (Or.inl rfl) (pe_dget2 hu (pv 2) (pe_ix ix_tup (pv 6) pe_int (fun _ _ => rfl)) (pe_ix ix_tup (pv 7) pe_int (fun _ _ => rfl)) ⟨rfl, rfl, rfl, rfl⟩))
          (pss_cons (ps_if (pw_or (pt_cmpR op_ne (pv 8) (pe_ix ix_tup (pv 7) pe_int (fun _ _ => rfl)) (nomark _)) (pw_or1 (pt_cmpR op_ne (pe_dget2 hu (pv 3) (pv 8) (pe_ix ix_tup (pv 6) pe_int (fun _ _ => rfl)) ⟨rfl, rfl, rfl, rfl⟩) (pe_ix ix_tup (pv 6) pe_int (fun _ _ => rfl)) (nomark _)))).pt (pss_one (ps_ret pe_non)) pss_nil)
          (pss_cons (ps_dput hu (pv 2) (pe_ix ix_tup (pv 6) pe_int (fun _ _ => rfl)) (pv 8) rfl)
          (pss_one (ps_dput hu (pv 3) (pv 8) (pe_ix ix_tup (pv 6) pe_int (fun _ _ => rfl)) rfl))))) (pss_one (ps_if (pt_cmpR op_eq (pe_ix ix_tup (pv 6) pe_int (fun _ _ => rfl)) pe_str (nomark _)) (pss_cons (ps_if (pw_or (pt_cmpR op_ne (pe_ix ix_tup (pv 6) pe_int (fun _ _ => rfl)) (pe_ix ix_tup (pv 7) pe_int (fun _ _ => rfl)) (nomark _)) (pw_or1 (pt_cmpR op_ne (pe_blt call_len_seq T.b_len bt_len (pa_cons (pe_ix ix_tup (pv 6) pe_int (fun _ _ => rfl)) pa_nil)) (pe_blt call_len_seq T.b_len bt_len (pa_cons (pe_ix ix_tup (pv 7) pe_int (fun _ _ => rfl)) pa_nil)) (nomark _)))).pt (pss_one (ps_ret pe_non)) pss_nil)
            (pss_one (ps_for PassesOwn.never rfl (pi_range1 rfl T.b_range (pa_cons (pe_blt call_len_seq T.b_len bt_len (pa_cons (pe_ix ix_tup (pv 6) pe_int (fun _ _ => rfl)) pa_nil)) pa_nil)) (pg_name (i := 9) sc_law_variant.nd rfl (Or.inl rfl)) (pss_one (ps_expr (pe_bm PySem.F.plainAttrs_list PySem.F.slot_list_append PySem.F.type_list_append mt_append (pv 4) (pa_cons (pe_tup (pa_cons (pe_ix ix_tup (pe_ix ix_tup (pv 6) pe_int (fun _ _ => rfl)) (pv 9) (fun _ _ => rfl)) (pa_cons (pe_ix ix_tup (pe_ix ix_tup (pv 7) pe_int (fun _ _ => rfl)) (pv 9) (fun _ _ => rfl)) pa_nil))) pa_nil))))))) (pss_one (ps_if (pt_cmpR op_neTm (pv 6) (pv 7) (nomark _)) (pss_one (ps_ret pe_non)) pss_nil)))))))))))
      (pss_one (ps_ret (pv 2))))))), ?_⟩
  refine fun d1 fd1 => ?_
  have s1 := same_new fd1 (HO.dK [])
  have x1 : upd H d1 (HO.dK []) d1 = some _ := upd_same
  generalize upd H d1 (HO.dK []) = H1 at s1 x1 ⊢
  refine fun d2 fd2 => ?_
  have s2 := same_new fd2 (HO.dK [])
  have x2 : upd H1 d2 (HO.dK []) d2 = some _ := upd_same
  generalize upd H1 d2 (HO.dK []) = H2 at s2 x2 ⊢
  refine ⟨_, rfl, _, rfl, (by show 2 ≤ sizeLine; decide), fun g0 fg0 => ?_⟩
  have s3 := same_new fg0 (HO.tup [v, v'])
  have x3 : upd H2 g0 (HO.tup [v, v']) g0 = some _ := upd_same
  generalize upd H2 g0 (HO.tup [v, v']) = H3 at s3 x3 ⊢
  refine ⟨(by show 1 ≤ sizeLine; decide), fun p fp => ?_⟩
  have s4 := same_new fp (HO.lst [.ref g0])
  have x4 : upd H3 p (HO.lst [.ref g0]) p = some _ := upd_same
  generalize upd H3 p (HO.lst [.ref g0]) = H4 at s4 x4 ⊢
  have s04 := s1.trans (s2.trans (s3.trans s4))
  have f1 : H d1 = none := fd1
  have f2 : H d2 = none := s1.free fd2
  have f3 : H p = none := (s1.trans (s2.trans s3)).free fp
  have n12 : d1 ≠ d2 := ne_of_none x1 fd2
  have n1p : d1 ≠ p := ne_of_none ((s2.trans s3) _ _ x1) fp
  have n2p : d2 ≠ p := ne_of_none (s3 _ _ x2) fp
  refine ⟨fun m σ HA => ∃ (o5 o6 o7 o8 o9 : Option V) (us : List V) (td : List Ln) (kf kb : List (Key × V)) (fo ba : Wp), σ = [some v, some v', some (.ref d1), some (.ref d2), some (.ref p), o5, o6, o7, o8, o9] ∧ Same H HA ∧ HA p = some (.lst us) ∧ Prs HA us td ∧
      HA d1 = some (.dK kf) ∧ WpOf kf fo ∧ HA d2 = some (.dK kb) ∧ WpOf kb ba ∧ VInv t u td fo ba ∧ nodesL (td.map (·.1)) = m ∧ kf.length + m ≤ t.nodes ∧ kb.length + m ≤ t.nodes,
    ⟨_, none, none, none, none, none, [.ref g0], [(t, u)], [], [], [], [], rfl, s04, x4, .cons ⟨g0, v, v', rfl, s4 _ _ x3, hv.mono (.of s04), hv'.mono (.of s04)⟩ .nil, (s2.trans (s3.trans s4)) _ _ x1, fun _ => rfl, (s3.trans s4) _ _ x2, fun _ => rfl, VInv.start t u, rfl, by simp [nodesL], by simp [nodesL]⟩, ?_⟩
  rintro m σ HA ⟨o5, o6, o7, o8, o9, us, td, kf, kb, fo, ba, rfl, sA, gp, hps, gd1, hfo, gd2, hba, hinv, hm, hkf, hkb⟩
  refine ⟨_, rfl, (by show 0 ≤ sizeLine; decide), fun e fe => ?_⟩
  have t0 := same_new fe (HO.lst [])
  have z0 : upd HA e (HO.lst []) e = some _ := upd_same
  generalize upd HA e (HO.lst []) = HB at t0 z0 ⊢
  have sB := sA.trans t0
  have gpB := t0 _ _ gp
  have hpsB := hps.mono (.of t0)
  have gd1B := t0 _ _ gd1
  have gd2B := t0 _ _ gd2
  refine ⟨p, e, _, rfl, rfl, gpB, z0, _, rfl, ite2 (fun c => ⟨_, fun _ _ h => h, ?_⟩) (fun c => ?_)⟩
  · have hne : us ≠ [] := by intro z; rw [z] at c; simp at c
    have hlen := Paired.length hps
    obtain ⟨us0, x, rfl⟩ := snoc_of hne
    obtain ⟨td0, ⟨t1, u1⟩, rfl⟩ := snoc_of (l := td) (by intro z; rw [z] at hlen; simp at hlen)
    obtain ⟨h0, g, y1, y2, rfl, hg, hy1, hy2⟩ := hpsB.snoc
    rw [List.map_append, nodesL_append] at hm
    simp only [List.map_cons, List.map_nil, nodesL] at hm
    have hn1 := t1.nodes_pos
    refine ⟨_, rfl, .inl ⟨rfl, _, SqL.of gpB⟩, p, _, .ref g, rfl, rfl, gpB, by simp, ?_⟩
    rw [List.dropLast_concat]
    have kC : TSame HB (upd HB p (HO.lst us0)) := .lst gpB
    have gpC : upd HB p (HO.lst us0) p = some (.lst us0) := upd_same
    have gd1C : upd HB p (HO.lst us0) d1 = some (.dK kf) := by rw [upd_ne n1p]; exact gd1B
    have gd2C : upd HB p (HO.lst us0) d2 = some (.dK kb) := by rw [upd_ne n2p]; exact gd2B
    have sC : Same H (upd HB p (HO.lst us0)) := fun b ob z => by rw [upd_ne (ne_of_none z f3)]; exact sB _ _ z
    generalize upd HB p (HO.lst us0) = HC at kC gpC gd1C gd2C sC ⊢
    have hgC := kC _ _ hg
    have h1C : TermAt HC y1 t1 := hy1.mono kC
    have h2C : TermAt HC y2 u1 := hy2.mono kC
    have h0C := h0.mono kC
    obtain ⟨a1, xs1, rfl, e1⟩ := kd_at h1C
    obtain ⟨a2, xs2, rfl, e2⟩ := kd_at h2C
    refine ⟨_, rfl, _, _, _, _, rfl, rfl, SqT.of hgC, at0', _, rfl, _, _, _, _, rfl, rfl, SqT.of hgC, at1', ?_⟩
    refine ⟨_, rfl, _, _, _, _, rfl, rfl, SqT.of e1, at0', _, rfl, _, _, _, _, rfl, rfl, SqT.of e2, at0', rfl, _, rfl, ite2 (fun c1 => q0 _ sC (hinv.no fun ρ z => ?_)) (fun c1 => ?_)⟩
    · have : ¬ kd t1 = kd u1 := by simpa using c1
      exact this (by rw [← z, kd_ren])
    have hk : kd t1 = kd u1 := by simpa using c1
    cases t1 with
    | blank a =>
      cases u1 with
      | num _ => exact absurd hk (by simp [kd, nm_ne1, nm_ne2, nm_ne3, nm_ne4, nm_ne5, nm_ne6, nm_ne1', nm_ne2', nm_ne3', nm_ne4', nm_ne5', nm_ne6'])
      | name _ => exact absurd hk (by simp [kd, nm_ne1, nm_ne2, nm_ne3, nm_ne4, nm_ne5, nm_ne6, nm_ne1', nm_ne2', nm_ne3', nm_ne4', nm_ne5', nm_ne6'])
      | thing _ _ => exact absurd hk (by simp [kd, nm_ne1, nm_ne2, nm_ne3, nm_ne4, nm_ne5, nm_ne6, nm_ne1', nm_ne2', nm_ne3', nm_ne4', nm_ne5', nm_ne6'])
      | blank b =>
        obtain ⟨a1', e0, j1⟩ := termAt_blank.mp h1C
        cases e0
        obtain ⟨a2', e0, j2⟩ := termAt_blank.mp h2C
        cases e0
        have hp1 := length_putK kf (Sum.inr a) (V.str b)
        have hp2 := length_putK kb (Sum.inr b) (V.str a)
        cases hla : lookW fo a with
        | some c2 =>
          have hget : DGet HC d1 (.str a) (some (.str c2)) := by
            have := DGet.k (k := Sum.inr a) gd1C
            rw [hfo a, hla] at this
            exact this
          obtain ⟨ov, hov, hval⟩ : ∃ ov, DGet HC d1 (.str a) ov ∧ ov.getD (.str b) = .str c2 := ⟨_, hget, rfl⟩
          refine ⟨_, rfl, _, _, _, _, rfl, rfl, SqT.of j1, at0', rfl, _, rfl, ite_t (by decide +kernel) ?_⟩
          refine ⟨_, rfl, d1, rfl, .inl ⟨_, .inl gd1C⟩, _, rfl, _, _, _, _, rfl, rfl, SqT.of j1, at1', _, rfl, _, _, _, _, rfl, rfl, SqT.of j2, at1', ov, hov, ?_⟩
          rw [hval]
          refine ⟨_, rfl, _, rfl, _, _, _, _, rfl, rfl, SqT.of j2, at1', rfl, _, rfl, ite2 (fun c3 => iteT (q0 _ sC (hinv.no1 hla (by simpa using c3)))) (fun c3 => ?_)⟩
          have ecb : c2 = b := by simpa using c3
          subst ecb
          have hlb := (hinv.inv a c2).mp hla
          have hget2 : DGet HC d2 (.str c2) (some (.str a)) := by
            have := DGet.k (k := Sum.inr c2) gd2C
            rw [hba c2, hlb] at this
            exact this
          obtain ⟨ov2, hov2, hval2⟩ : ∃ ov, DGet HC d2 (.str c2) ov ∧ ov.getD (.str a) = .str a := ⟨_, hget2, rfl⟩
          refine ⟨_, rfl, d2, rfl, .inl ⟨_, .inl gd2C⟩, _, rfl, _, rfl, _, _, _, _, rfl, rfl, SqT.of j1, at1', ov2, hov2, _, rfl, _, _, _, _, rfl, rfl, SqT.of j1, at1', (by rw [hval2]; rfl), _, rfl, ite_f (by rw [hval2]; simp) ?_⟩
          have hwf : WpOf (putK kf (Sum.inr a) (.str c2)) fo := hfo.put hla fun _ _ => rfl
          have hwb : WpOf (putK kb (Sum.inr c2) (.str a)) ba := hba.put hlb fun _ _ => rfl
          have hvi := hinv.old hla
          revert hwf hwb hvi hp1 hp2
          generalize c2 = b
          intro hp1 hp2 hwf hwb hvi
          refine ⟨_, rfl, _, rfl, _, rfl, _, _, _, _, rfl, rfl, SqT.of j1, at1', d1, _, rfl, DPut.k (k := Sum.inr a) gd1C (big (by omega)), ?_⟩
          have kD : TSame HC (upd HC d1 (HO.dK (putK kf (Sum.inr a) (.str b)))) := fun b' ys z => by rw [upd_ne (ne_of z gd1C (by intro z; cases z))]; exact z
          have gpD : upd HC d1 (HO.dK (putK kf (Sum.inr a) (.str b))) p = some (.lst us0) := by rw [upd_ne n1p.symm]; exact gpC
          have gd1D : upd HC d1 (HO.dK (putK kf (Sum.inr a) (.str b))) d1 = some _ := upd_same
          have gd2D : upd HC d1 (HO.dK (putK kf (Sum.inr a) (.str b))) d2 = some (.dK kb) := by rw [upd_ne n12.symm]; exact gd2C
          have sD : Same H (upd HC d1 (HO.dK (putK kf (Sum.inr a) (.str b)))) := fun b' ob z => by rw [upd_ne (ne_of_none z f1)]; exact sC _ _ z
          generalize upd HC d1 (HO.dK (putK kf (Sum.inr a) (.str b))) = HD at kD gpD gd1D gd2D sD ⊢
          refine ⟨_, rfl, _, _, _, _, rfl, rfl, SqT.of (kD _ _ j1), at1', _, rfl, _, rfl, d2, _, rfl, DPut.k (k := Sum.inr b) gd2D (big (by omega)), ?_⟩
          have kE : TSame HD (upd HD d2 (HO.dK (putK kb (Sum.inr b) (.str a)))) := fun b' ys z => by rw [upd_ne (ne_of z gd2D (by intro z; cases z))]; exact z
          exact ⟨nodesL (td0.map (·.1)), by omega, _, _, _, _, _, us0, td0, _, _, _, _, rfl, fun b' ob z => by rw [upd_ne (ne_of_none z f2)]; exact sD _ _ z, by rw [upd_ne n2p.symm]; exact gpD, h0C.mono (kD.trans kE), by rw [upd_ne n12]; exact gd1D, hwf, upd_same, hwb, hvi, rfl, by omega, by omega⟩
        | none =>
          have hget : DGet HC d1 (.str a) none := by
            have := DGet.k (k := Sum.inr a) gd1C
            rw [hfo a, hla] at this
            exact this
          obtain ⟨ov, hov, hval⟩ : ∃ ov, DGet HC d1 (.str a) ov ∧ ov.getD (.str b) = .str b := ⟨_, hget, rfl⟩
          refine ⟨_, rfl, _, _, _, _, rfl, rfl, SqT.of j1, at0', rfl, _, rfl, ite_t (by decide +kernel) ?_⟩
          refine ⟨_, rfl, d1, rfl, .inl ⟨_, .inl gd1C⟩, _, rfl, _, _, _, _, rfl, rfl, SqT.of j1, at1', _, rfl, _, _, _, _, rfl, rfl, SqT.of j2, at1', ov, hov, ?_⟩
          rw [hval]
          refine ⟨_, rfl, _, rfl, _, _, _, _, rfl, rfl, SqT.of j2, at1', rfl, _, rfl, ite_f (by simp) ?_⟩
          cases hlb : lookW ba b with
          | some c2 =>
            have hca : c2 ≠ a := fun z => by
              rw [z] at hlb
              rw [(hinv.inv a b).mpr hlb] at hla
              cases hla
            have hget2 : DGet HC d2 (.str b) (some (.str c2)) := by
              have := DGet.k (k := Sum.inr b) gd2C
              rw [hba b, hlb] at this
              exact this
            obtain ⟨ov2, hov2, hval2⟩ : ∃ ov, DGet HC d2 (.str b) ov ∧ ov.getD (.str a) = .str c2 := ⟨_, hget2, rfl⟩
            exact ⟨_, rfl, d2, rfl, .inl ⟨_, .inl gd2C⟩, _, rfl, _, rfl, _, _, _, _, rfl, rfl, SqT.of j1, at1', ov2, hov2, _, rfl, _, _, _, _, rfl, rfl, SqT.of j1, at1', (by rw [hval2]; rfl), _, rfl, ite_t (by rw [hval2]; simpa using hca) (q0 _ sC (hinv.no2 hlb hca))⟩
          | none =>
            have hget2 : DGet HC d2 (.str b) none := by
              have := DGet.k (k := Sum.inr b) gd2C
              rw [hba b, hlb] at this
              exact this
            obtain ⟨ov2, hov2, hval2⟩ : ∃ ov, DGet HC d2 (.str b) ov ∧ ov.getD (.str a) = .str a := ⟨_, hget2, rfl⟩
            refine ⟨_, rfl, d2, rfl, .inl ⟨_, .inl gd2C⟩, _, rfl, _, rfl, _, _, _, _, rfl, rfl, SqT.of j1, at1', ov2, hov2, _, rfl, _, _, _, _, rfl, rfl, SqT.of j1, at1', (by rw [hval2]; rfl), _, rfl, ite_f (by rw [hval2]; simp) ?_⟩
            have hwf : WpOf (putK kf (Sum.inr a) (.str b)) (fo ++ [(a, b)]) := hfo.put (by rw [lookW_snoc, hla]; simp) fun x hx => by rw [lookW_snoc, if_neg (Ne.symm hx), Option.or_none]
            have hwb : WpOf (putK kb (Sum.inr b) (.str a)) (ba ++ [(b, a)]) := hba.put (by rw [lookW_snoc, hlb]; simp) fun x hx => by rw [lookW_snoc, if_neg (Ne.symm hx), Option.or_none]
            have hvi := hinv.new hla hlb
            refine ⟨_, rfl, _, rfl, _, rfl, _, _, _, _, rfl, rfl, SqT.of j1, at1', d1, _, rfl, DPut.k (k := Sum.inr a) gd1C (big (by omega)), ?_⟩
            have kD : TSame HC (upd HC d1 (HO.dK (putK kf (Sum.inr a) (.str b)))) := fun b' ys z => by rw [upd_ne (ne_of z gd1C (by intro z; cases z))]; exact z
            have gpD : upd HC d1 (HO.dK (putK kf (Sum.inr a) (.str b))) p = some (.lst us0) := by rw [upd_ne n1p.symm]; exact gpC
            have gd1D : upd HC d1 (HO.dK (putK kf (Sum.inr a) (.str b))) d1 = some _ := upd_same
            have gd2D : upd HC d1 (HO.dK (putK kf (Sum.inr a) (.str b))) d2 = some (.dK kb) := by rw [upd_ne n12.symm]; exact gd2C
            have sD : Same H (upd HC d1 (HO.dK (putK kf (Sum.inr a) (.str b)))) := fun b' ob z => by rw [upd_ne (ne_of_none z f1)]; exact sC _ _ z
            generalize upd HC d1 (HO.dK (putK kf (Sum.inr a) (.str b))) = HD at kD gpD gd1D gd2D sD ⊢
            refine ⟨_, rfl, _, _, _, _, rfl, rfl, SqT.of (kD _ _ j1), at1', _, rfl, _, rfl, d2, _, rfl, DPut.k (k := Sum.inr b) gd2D (big (by omega)), ?_⟩
            have kE : TSame HD (upd HD d2 (HO.dK (putK kb (Sum.inr b) (.str a)))) := fun b' ys z => by rw [upd_ne (ne_of z gd2D (by intro z; cases z))]; exact z
            exact ⟨nodesL (td0.map (·.1)), by omega, _, _, _, _, _, us0, td0, _, _, _, _, rfl, fun b' ob z => by rw [upd_ne (ne_of_none z f2)]; exact sD _ _ z, by rw [upd_ne n2p.symm]; exact gpD, h0C.mono (kD.trans kE), by rw [upd_ne n12]; exact gd1D, hwf, upd_same, hwb, hvi, rfl, by omega, by omega⟩
    | num n =>
      obtain ⟨a1', e0, j1⟩ := termAt_num.mp h1C
      cases e0
      refine ⟨_, rfl, _, _, _, _, rfl, rfl, SqT.of j1, at0', rfl, _, rfl, ite_f (by decide +kernel) ⟨_, rfl, _, _, _, _, rfl, rfl, SqT.of j1, at0', rfl, _, rfl, ite_f (by decide +kernel) ?_⟩⟩
      refine ⟨_, rfl, _, rfl, .num n, u1, h1C, h2C, (by show (A.deeper _).units + 2 * 1 < cLine; omega), fun bb hbb => ⟨_, rfl, ite2 (fun c2 => q0 _ sC (hinv.no fun ρ z => hbb.mp c2 z)) (fun c2 => ?_)⟩⟩
      have e0 : Tm.num n = u1 := Classical.byContradiction fun z => c2 (hbb.mpr z)
      subst e0
      exact ⟨nodesL (td0.map (·.1)), by omega, _, _, _, _, _, us0, td0, kf, kb, fo, ba, rfl, sC, gpC, h0C, gd1C, hfo, gd2C, hba, hinv.leaf rfl, rfl, by omega, by omega⟩
    | name n =>
      obtain ⟨a1', e0, j1⟩ := termAt_name.mp h1C
      cases e0
      refine ⟨_, rfl, _, _, _, _, rfl, rfl, SqT.of j1, at0', rfl, _, rfl, ite_f (by decide +kernel) ⟨_, rfl, _, _, _, _, rfl, rfl, SqT.of j1, at0', rfl, _, rfl, ite_f (by decide +kernel) ?_⟩⟩
      refine ⟨_, rfl, _, rfl, .name n, u1, h1C, h2C, (by show (A.deeper _).units + 2 * 1 < cLine; omega), fun bb hbb => ⟨_, rfl, ite2 (fun c2 => q0 _ sC (hinv.no fun ρ z => hbb.mp c2 z)) (fun c2 => ?_)⟩⟩
      have e0 : Tm.name n = u1 := Classical.byContradiction fun z => c2 (hbb.mpr z)
      subst e0
      exact ⟨nodesL (td0.map (·.1)), by omega, _, _, _, _, _, us0, td0, kf, kb, fo, ba, rfl, sC, gpC, h0C, gd1C, hfo, gd2C, hba, hinv.leaf rfl, rfl, by omega, by omega⟩
    | thing w1 ps =>
      cases u1 with
      | num _ => exact absurd hk (by simp [kd, nm_ne1, nm_ne2, nm_ne3, nm_ne4, nm_ne5, nm_ne6, nm_ne1', nm_ne2', nm_ne3', nm_ne4', nm_ne5', nm_ne6'])
      | name _ => exact absurd hk (by simp [kd, nm_ne1, nm_ne2, nm_ne3, nm_ne4, nm_ne5, nm_ne6, nm_ne1', nm_ne2', nm_ne3', nm_ne4', nm_ne5', nm_ne6'])
      | blank _ => exact absurd hk (by simp [kd, nm_ne1, nm_ne2, nm_ne3, nm_ne4, nm_ne5, nm_ne6, nm_ne1', nm_ne2', nm_ne3', nm_ne4', nm_ne5', nm_ne6'])
      | thing w2 qs =>
        obtain ⟨a1', b1, us1, e0, j1, g1, m1⟩ := termAt_thing.mp h1C
        cases e0
        obtain ⟨a2', b2, us2, e0, j2, g2, m2⟩ := termAt_thing.mp h2C
        cases e0
        have l1 := m1.len
        have l2 := m2.len
        have hpn := len_le_nodes ps
        simp only [Tm.nodes] at hm
        refine ⟨_, rfl, _, _, _, _, rfl, rfl, SqT.of j1, at0', rfl, _, rfl, ite_f (by decide +kernel) ⟨_, rfl, _, _, _, _, rfl, rfl, SqT.of j1, at0', rfl, _, rfl, ite_t (by decide +kernel) ?_⟩⟩
        refine ⟨_, rfl, _, _, _, _, rfl, rfl, SqT.of j1, at1', _, rfl, _, _, _, _, rfl, rfl, SqT.of j2, at1', rfl, _, rfl, ite2 (fun c2 => iteT (q0 _ sC (hinv.no fun ρ z => ?_))) (fun c2 => ?_)⟩
        · have : ¬ w1 = w2 := by simpa using c2
          exact this (Tm.thing.inj z).1
        have ew : w1 = w2 := by simpa using c2
        subst ew
        refine ⟨_, rfl, _, _, _, _, rfl, rfl, SqT.of j1, vat2, b1, us1, rfl, .inr (SqT.of g1), _, rfl, _, _, _, _, rfl, rfl, SqT.of j2, vat2, b2, us2, rfl, .inr (SqT.of g2), rfl, _, rfl, ite2 (fun c3 => q0 _ sC (hinv.no fun ρ z => ?_)) (fun c3 => ?_)⟩
        · have c3' : ¬ us1.length = us2.length := by
            have h : ¬ (us1.length : Int) = (us2.length : Int) := by simpa using c3
            omega
          have := congrArg List.length (Tm.thing.inj z).2
          rw [subL_len] at this
          omega
        have hl : us1.length = us2.length := by
          have h : (us1.length : Int) = (us2.length : Int) := by simpa using c3
          omega
        have hlp : ps.length = qs.length := by omega
        have hul := Paired.length h0C
        have hcl := len_le_nodes (td0.map (·.1))
        rw [List.length_map] at hcl
        have hzl : (ps.zip qs).length = ps.length := by rw [List.length_zip]; omega
        refine ⟨_, rfl, _, _, _, _, rfl, rfl, SqT.of j1, vat2, b1, us1, rfl, .inr (SqT.of g1), _, rfl, by omega, by omega, for_range (lo := 0) (n := ((us1.length : Nat) : Int).toNat) (fun i σ HX => ∃ (o9' : Option V) (ws : List V), σ = [some v, some v', some (.ref d1), some (.ref d2), some (.ref p), some (.ref g), some (.ref a1), some (.ref a2), o8, o9'] ∧ Same H HX ∧ TSame HC HX ∧ HX p = some (.lst (us0 ++ ws)) ∧ Prs HX (us0 ++ ws) (td0 ++ (ps.zip qs).take i) ∧ HX d1 = some (.dK kf) ∧ HX d2 = some (.dK kb))
          ⟨_, [], rfl, sC, TSame.refl _, by simpa using gpC, by simpa using h0C, gd1C, gd2C⟩ ?_ ?_⟩
        · rintro i σ HX hi ⟨o9', ws, rfl, sX, kX, gX, hX, gd1X, gd2X⟩
          rw [Int.toNat_natCast] at hi
          have e0 : (0 : Int) + (i : Int) = ((i : Nat) : Int) := by omega
          rw [e0]
          have hwl := Paired.length hX
          rw [List.length_append, List.length_append, List.length_take, hzl] at hwl
          have hi1 : i < ps.length := by omega
          have hi2 : i < qs.length := by omega
          refine ⟨_, rfl, .inl ⟨rfl, _, SqL.of gX⟩, _, rfl, _, _, _, _, rfl, rfl, SqT.of (kX _ _ j1), vat2, _, rfl, _, _, _, us1[i], rfl, rfl, SqT.of (kX _ _ g1), atI_nat (List.getElem?_eq_getElem hi), _, rfl, _, _, _, _, rfl, rfl, SqT.of (kX _ _ j2), vat2, _, rfl, _, _, _, us2[i], rfl, rfl, SqT.of (kX _ _ g2), atI_nat (List.getElem?_eq_getElem (by omega)), (by show 2 ≤ sizeLine; decide), fun g' fg' => ?_⟩
          have t5 := same_new fg' (HO.tup [us1[i], us2[i]])
          have z5 : upd HX g' (HO.tup [us1[i], us2[i]]) g' = some _ := upd_same
          generalize upd HX g' (HO.tup [us1[i], us2[i]]) = HY at t5 z5 ⊢
          have gY := t5 _ _ gX
          refine ⟨p, _, _, rfl, rfl, gY, big (by rw [List.length_append]; omega), ?_⟩
          have k6 : TSame HY (upd HY p (HO.lst (us0 ++ ws ++ [.ref g']))) := .lst gY
          have kX6 := (TSame.of t5).trans k6
          have kC6 := kX.trans kX6
          refine ⟨_, ws ++ [.ref g'], rfl, fun b' ob z => by rw [upd_ne (ne_of_none z f3)]; exact t5 _ _ (sX _ _ z), kC6, by rw [upd_same, List.append_assoc], ?_, by rw [upd_ne n1p]; exact t5 _ _ gd1X, by rw [upd_ne n2p]; exact t5 _ _ gd2X⟩
          rw [List.take_succ_eq_append_getElem (by omega), ← List.append_assoc, ← List.append_assoc]
          refine Prs.app (hX.mono kX6) (.cons ⟨g', us1[i], us2[i], rfl, k6 _ _ z5, ?_, ?_⟩ .nil)
          · rw [List.getElem_zip]
            exact (m1.at i hi hi1).mono kC6
          · rw [List.getElem_zip]
            exact (m2.at i (by omega) hi2).mono kC6
        · rintro σ HX ⟨o9', ws, rfl, sX, kX, gX, hX, gd1X, gd2X⟩
          rw [Int.toNat_natCast, List.take_of_length_le (by omega)] at hX
          have en : nodesL ((td0 ++ ps.zip qs).map (·.1)) = nodesL (td0.map (·.1)) + nodesL ps := by
            rw [List.map_append, nodesL_append, List.map_fst_zip (by omega)]
          exact ⟨nodesL ((td0 ++ ps.zip qs).map (·.1)), by omega, _, _, _, _, _, us0 ++ ws, td0 ++ ps.zip qs, kf, kb, fo, ba, rfl, sX, gX, hX, gd1X, hfo, gd2X, hba, hinv.parts hlp, rfl, by omega, by omega⟩
  · have e0 : us = [] := by
      cases us with
      | nil => rfl
      | cons a b => exact absurd rfl c
    subst e0
    have hlen := Paired.length hps
    have e0 : td = [] := List.length_eq_zero_iff.mp hlen.symm
    subst e0
    refine ⟨_, rfl, q1 d1 kf fo HB sB gd1B hfo (fun x hx => ?_) hinv.done⟩
    rcases hinv.key x hx with z | ⟨_, z, _⟩
    · exact z
    · cases z
end
end K12
set_option Elab.async false
set_option linter.all false
set_option maxRecDepth 100000
set_option maxHeartbeats 4000000
namespace K12
open PySem L2 BF
section
variable {P : Program} {w : World} {K : PySem.W.Frag} {mg : Str → Option Value} {base : Heap}
def spAt (K : PySem.W.Frag) : Sp := fun vs H Q _ => ∃ (a : Addr) (ns : List Int) (k : Nat), vs = [.ref a, .int k] ∧ SqL K H a (ns.map V.int) ∧ ∀ n : Int, Q (.int n) H
theorem ok_at {f : Addr} {fd : FuncData} (F : Fun K "_law_at" "_law_at" s_law_at f fd) (T : Bi mg) : FnOk P w K mg base CX0 1 f fd ["_law_script", "_law_k"] (spAt K) := by
  refine F.ok sc_law_at (fun vs H Q E h => ?_) (fun cdv A outer s H vs Q E hr h => ?_)
  · obtain ⟨_, _, _, rfl, _⟩ := h
    rfl
  obtain ⟨a, ns, k, rfl, hS, q⟩ := h
  refine ⟨_, (pss_cons (ps_if (pt_cmpR op_lt (pv 1) (pe_blt call_len_seq T.b_len bt_len (pa_cons (pv 0) pa_nil)) (nomark _)) (pss_one (ps_ret (pe_ix ix_list (pv 0) (pv 1) (fun _ _ => rfl)))) pss_nil)
      (pss_one (ps_ret pe_int))), ?_⟩
  refine ⟨_, rfl, _, rfl, a, _, rfl, .inl hS, _, _, rfl, rfl, _, rfl, ite2 (fun c => ?_) (fun c => ?_)⟩
  · have c' : (k : Int) < ((ns.map V.int).length : Int) := of_decide_eq_true c
    rw [List.length_map] at c'
    have hk : k < ns.length := by omega
    refine ⟨_, rfl, _, rfl, a, _, _, V.int ns[k], rfl, rfl, hS, atI_nat ?_, q _⟩
    rw [List.getElem?_map, List.getElem?_eq_getElem hk]
    rfl
  · exact q 0
end
/-! ### the law's own look at two data that are the same -/
section
variable {P : Program} {w : World} {K : PySem.W.Frag} {mg : Str → Option Value} {base : Heap}
theorem ix_of {K : PySem.W.Frag} {p : Addr} {xs : List V} {i : Int} {v : V} {H : Hp} {Q : VK} (h : SqL K H p xs ∨ SqT K H p xs) (e : atI xs i = some v) (q : Q v H) : rIx K (.ref p) (.int i) H Q := by
  rcases h with h | h
  · exact .inl ⟨p, xs, i, v, rfl, rfl, h, e, q⟩
  · exact .inr (.inl ⟨p, xs, i, v, rfl, rfl, h, e, q⟩)
def TwoAt (H0 H : Hp) (us : List V) (ds : List Dt) : Prop := Paired (fun x d => ∃ g a b, x = .ref g ∧ H g = some (.tup [a, b]) ∧ DatAt H0 a d ∧ DatAt H0 b d) us ds
theorem TwoAt.mono {H0 H H' : Hp} {us : List V} {ds : List Dt} (k : TSame H H') (h : TwoAt H0 H us ds) : TwoAt H0 H' us ds :=
  paired_mono (fun _ _ ⟨g, a, b, e, h1, h2, h3⟩ => ⟨g, a, b, e, k _ _ h1, h2, h3⟩) h
theorem TwoAt.snoc {H0 H : Hp} : ∀ {us : List V} {u : V} {ds : List Dt} {d : Dt}, TwoAt H0 H (us ++ [u]) (ds ++ [d]) → TwoAt H0 H us ds ∧ ∃ g a b, u = .ref g ∧ H g = some (.tup [a, b]) ∧ DatAt H0 a d ∧ DatAt H0 b d
  | [], _, [], _, .cons h .nil => ⟨.nil, h⟩
  | [], _, _ :: [], _, .cons _ r => nomatch r
  | [], _, _ :: _ :: _, _, .cons _ r => nomatch r
  | _ :: [], _, [], _, .cons _ r => nomatch r
  | _ :: _ :: _, _, [], _, .cons _ r => nomatch r
  | _ :: _, _, _ :: _, _, .cons h r => let ⟨a, b⟩ := TwoAt.snoc r; ⟨.cons h a, b⟩
def spSo : Sp := fun vs H Q _ => ∃ (x y : V) (d : Dt), vs = [x, y] ∧ DatAt H x d ∧ DatAt H y d ∧ d.size ≤ 50000 ∧ ∀ H', Same H H' → Q (.bl true) H'
theorem ok_so {f0 : Addr} {fd : FuncData} (F : Fun K "_law_so" "_law_so" s_law_so f0 fd) (T : Bi mg) : FnOk P w K mg base CX0 1 f0 fd ["_law_found", "_law_due"] spSo := by
  refine F.ok sc_law_so (fun vs H Q E h => ?_) (fun cdv A outer s H vs Q E hr h => ?_)
  · obtain ⟨_, _, _, rfl, _⟩ := h
    rfl
  obtain ⟨x, y, d, rfl, hx, hy, hsz, q⟩ := h
  refine ⟨_, (pss_cons (ps_set (i := 2) sc_law_so.nd rfl (Or.inl rfl) (pe_lst (pa_cons (pe_tup (pa_cons (pv 0) (pa_cons (pv 1) pa_nil))) pa_nil)))
      (pss_cons (ps_while PassesOwn.never (pt_cmpR (op_neNil hr.units0) (pv 2) (pe_lst pa_nil) (nomark _)) (pss_cons (ps_asg (pe_bm0 PySem.F.plainAttrs_list PySem.F.slot_list_pop PySem.F.type_list_pop mt_pop (pv 2)) (pg_tup rfl (pgs_cons (pg_name (i := 3) sc_law_so.nd rfl (Or.inl rfl)) (pgs_cons (pg_name (i := 4) sc_law_so.nd rfl (Or.inl rfl)) pgs_nil))))
        (pss_one (ps_if (pt_val (pe_blt call_isiT T.b_isinstance bt_isinstance (pa_cons (pv 4) (pa_cons (pe_tup (pa_cons (pe_tyn T.b_list bt_list) (pa_cons (pe_tyn T.b_tuple bt_tuple) pa_nil))) pa_nil)))) (pss_cons (ps_if (pt_cmpR op_ne (pe_blt call_isi T.b_isinstance bt_isinstance (pa_cons (pv 3) (pa_cons (pe_tyn T.b_list bt_list) pa_nil))) (pe_blt call_isi T.b_isinstance bt_isinstance (pa_cons (pv 4) (pa_cons (pe_tyn T.b_list bt_list) pa_nil))) (nomark _)) (pss_one (ps_ret pe_bl)) pss_nil)
          (pss_cons (ps_if (pt_cmpR op_ne (pe_blt call_isi T.b_isinstance bt_isinstance (pa_cons (pv 3) (pa_cons (pe_tyn T.b_tuple bt_tuple) pa_nil))) (pe_blt call_isi T.b_isinstance bt_isinstance (pa_cons (pv 4) (pa_cons (pe_tyn T.b_tuple bt_tuple) pa_nil))) (nomark _)) (pss_one (ps_ret pe_bl)) pss_nil)
          (pss_cons (ps_if (pt_cmpR op_ne (pe_blt call_len_seq T.b_len bt_len (pa_cons (pv 3) pa_nil)) (pe_blt call_len_seq T.b_len bt_len (pa_cons (pv 4) pa_nil)) (nomark _)) (pss_one (ps_ret pe_bl)) pss_nil)
          (pss_one (ps_for PassesOwn.never rfl (pi_range1 rfl T.b_range (pa_cons (pe_blt call_len_seq T.b_len bt_len (pa_cons (pv 4) pa_nil)) pa_nil)) (pg_name (i := 5) sc_law_so.nd rfl (Or.inl rfl)) (pss_one (ps_expr (pe_bm PySem.F.plainAttrs_list PySem.F.slot_list_append PySem.F.type_list_append mt_append (pv 2) (pa_cons (pe_tup (pa_cons (pe_ix ix_seq (pv 3) (pv 5) (fun _ _ => rfl)) (pa_cons (pe_ix ix_seq (pv 4) (pv 5) (fun _ _ => rfl)) pa_nil))) pa_nil))))))))) (pss_one (ps_if (pt_val (pe_blt call_isi T.b_isinstance bt_isinstance (pa_cons (pv 4) (pa_cons (pe_tyn T.b_str bt_str) pa_nil)))) (pss_one (ps_if (pw_or (pt_not (pt_val (pe_blt call_isi T.b_isinstance bt_isinstance (pa_cons (pv 3) (pa_cons (pe_tyn T.b_str bt_str) pa_nil))))) (pw_or1 (pt_cmpR op_ne (pv 3) (pv 4) (nomark _)))).pt (pss_one (ps_ret pe_bl)) pss_nil)) (pss_one (ps_if (pt_val (pe_blt call_isi T.b_isinstance bt_isinstance (pa_cons (pv 4) (pa_cons (pe_tyn T.b_bool bt_bool) pa_nil)))) (pss_one (ps_if (pw_or (pt_not (pt_val (pe_blt call_isi T.b_isinstance bt_isinstance (pa_cons (pv 3) (pa_cons (pe_tyn T.b_bool bt_bool) pa_nil))))) (pw_or1 (pt_cmpR op_ne (pv 3) (pv 4) (nomark _)))).pt (pss_one (ps_ret pe_bl)) pss_nil)) (pss_one (ps_if (pt_cmpR op_isN (pv 4) pe_non (nomark _)) (pss_one (ps_if (pt_cmpR op_notN (pv 3) pe_non (nomark _)) (pss_one (ps_ret pe_bl)) pss_nil)) (pss_one (ps_if (pw_or (pt_not (pt_val (pe_blt call_isi T.b_isinstance bt_isinstance (pa_cons (pv 3) (pa_cons (pe_tyn T.b_int bt_int) pa_nil))))) (pw_or (pt_val (pe_blt call_isi T.b_isinstance bt_isinstance (pa_cons (pv 3) (pa_cons (pe_tyn T.b_bool bt_bool) pa_nil)))) (pw_or1 (pt_cmpR op_ne (pv 3) (pv 4) (nomark _))))).pt (pss_one (ps_ret pe_bl)) pss_nil))))))))))))
      (pss_one (ps_ret pe_bl)))), ?_⟩
  refine ⟨_, rfl, _, rfl, (by show 2 ≤ sizeLine; decide), fun g0 hg0 => ?_⟩
  have s1 := same_new hg0 (HO.tup [x, y])
  have x1 : upd H g0 (HO.tup [x, y]) g0 = some _ := upd_same
  generalize upd H g0 (HO.tup [x, y]) = H1 at s1 x1 ⊢
  refine ⟨(by show 1 ≤ sizeLine; decide), fun p hp1 => ?_⟩
  have hp : H p = none := s1.free hp1
  refine ⟨fun m σ HA => ∃ (o3 o4 o5 : Option V) (us : List V) (ds : List Dt), σ = [some x, some y, some (.ref p), o3, o4, o5] ∧ Same H HA ∧ HA p = some (.lst us) ∧ TwoAt H HA us ds ∧ sizeL ds = m ∧ m ≤ 50000,
    ⟨_, none, none, none, [.ref g0], [d], rfl, s1.trans (same_new hp1 _), upd_same, .cons ⟨g0, x, y, rfl, same_new hp1 _ _ _ x1, hx, hy⟩ .nil, rfl, by simp only [sizeL]; omega⟩, ?_⟩
  rintro m σ HA ⟨o3, o4, o5, us, ds, rfl, sA, gp, htd, hnd, hm⟩
  refine ⟨_, rfl, (by show 0 ≤ sizeLine; decide), fun e he => ?_⟩
  have sB := same_new he (HO.lst [])
  have xB : upd HA e (HO.lst []) e = some _ := upd_same
  generalize upd HA e (HO.lst []) = HB at sB xB ⊢
  have gpB := sB _ _ gp
  refine ⟨p, e, us, rfl, rfl, gpB, xB, _, rfl, ite2 (fun c => ⟨_, fun _ _ h => h, ?_⟩) (fun c => q HB (sA.trans sB))⟩
  have hne : us ≠ [] := by intro z; rw [z] at c; exact absurd c (by decide)
  have htdB := htd.mono (.of sB)
  have hlen2 := Paired.length htdB
  obtain ⟨us0, u, rfl⟩ := snoc_of hne
  obtain ⟨ds0, d1, rfl⟩ := snoc_of (l := ds) (by intro z; rw [z] at hlen2; simp at hlen2)
  obtain ⟨htd0, g1, a1, b1, rfl, hg1, ha1, hb1⟩ := htdB.snoc
  rw [sizeL_append] at hnd
  simp only [sizeL] at hnd
  have hl0 := len_le_sizeL ds0
  have hu0 := Paired.length htd0
  have hn1 := d1.size_pos
  refine ⟨_, rfl, .inl ⟨rfl, _, SqL.of gpB⟩, p, _, .ref g1, rfl, rfl, gpB, by simp, ?_⟩
  rw [List.dropLast_concat]
  have kC : TSame HB (upd HB p (HO.lst us0)) := .lst gpB
  have xC : upd HB p (HO.lst us0) p = some _ := upd_same
  have sC : Same H (upd HB p (HO.lst us0)) := fun b ob z => by rw [upd_ne (ne_of_none z hp)]; exact sB _ _ (sA _ _ z)
  generalize upd HB p (HO.lst us0) = HC at kC xC sC ⊢
  have htC : TwoAt H HC us0 ds0 := htd0.mono kC
  refine ⟨g1, _, rfl, SqT.of (kC _ _ hg1), rfl, _, _, rfl, _, _, rfl, rfl, ?_⟩
  refine ⟨_, rfl, (by show 2 ≤ sizeLine; decide), fun g hg => ?_⟩
  have sF0 := same_new hg (HO.tup (["list", "tuple"].map V.ty))
  have xF : upd HC g (HO.tup (["list", "tuple"].map V.ty)) g = some _ := upd_same
  have eF : upd HC g (HO.tup [V.ty "list", V.ty "tuple"]) = upd HC g (HO.tup (["list", "tuple"].map V.ty)) := rfl
  rw [eF]
  generalize upd HC g (HO.tup (["list", "tuple"].map V.ty)) = HF at sF0 xF ⊢
  have sF : Same H HF := sC.trans sF0
  have gpF : HF p = some (.lst us0) := sF0 _ _ xC
  have htF : TwoAt H HF us0 ds0 := htC.mono (.of sF0)
  have done : ∃ m', m' < m ∧ ∃ (o3 o4 o5' : Option V) (us : List V) (ds : List Dt), [some x, some y, some (.ref p), some a1, some b1, o5] = [some x, some y, some (.ref p), o3, o4, o5'] ∧ Same H HF ∧ HF p = some (.lst us) ∧ TwoAt H HF us ds ∧ sizeL ds = m' ∧ m' ≤ 50000 :=
    ⟨sizeL ds0, by omega, _, _, _, us0, ds0, rfl, sF, gpF, htF, rfl, by omega⟩
  cases d1 with
  | int n =>
    simp only [DatAt] at ha1 hb1
    subst ha1 hb1
    refine ⟨_, g, ["list", "tuple"], _, _, rfl, xF, .int _, .i, _, rfl, iteF ?_⟩
    refine ⟨_, rfl, _, _, _, _, rfl, .int _, .is, _, rfl, iteF ?_⟩
    refine ⟨_, rfl, _, _, _, _, rfl, .int _, .ib, _, rfl, iteF ?_⟩
    refine ⟨_, rfl, rfl, _, rfl, ite_f (by simp) ?_⟩
    refine ⟨_, rfl, _, _, _, _, rfl, .int _, .ii, _, rfl, iteF ⟨_, rfl, _, _, _, _, rfl, .int _, .ib, _, rfl, iteF ⟨_, rfl, _, rfl, rfl, _, rfl, ite_f (by simp) done⟩⟩⟩
  | str n =>
    simp only [DatAt] at ha1 hb1
    subst ha1 hb1
    refine ⟨_, g, ["list", "tuple"], _, _, rfl, xF, .str _, .s, _, rfl, iteF ?_⟩
    refine ⟨_, rfl, _, _, _, _, rfl, .str _, .ss, _, rfl, iteT ?_⟩
    exact ⟨_, rfl, _, _, _, _, rfl, .str _, .ss, _, rfl, iteF ⟨_, rfl, _, rfl, rfl, _, rfl, ite_f (by simp) done⟩⟩
  | tup l =>
    simp only [DatAt] at ha1 hb1
    obtain ⟨a2, vs2, rfl, h1, dv⟩ := ha1
    obtain ⟨b2, us2, rfl, h3, du⟩ := hb1
    have l2 := dv.length
    have l3 := du.length
    have hll := len_le_sizeL l
    simp only [Dt.size] at hnd
    have sq1 : ∀ H', Same H H' → SqL K H' a2 vs2 ∨ SqT K H' a2 vs2 := fun H' k => .inr (SqT.of (k _ _ h1))
    have sq2 : ∀ H', Same H H' → SqL K H' b2 us2 ∨ SqT K H' b2 us2 := fun H' k => .inr (SqT.of (k _ _ h3))
    refine ⟨_, g, ["list", "tuple"], _, _, rfl, xF, .tup (sF _ _ h3), .t, _, rfl, iteT ?_⟩
    refine ⟨_, rfl, _, _, _, _, rfl, .tup (sF _ _ h1), .tl, _, rfl, _, _, _, _, rfl, .tup (sF _ _ h3), .tl, rfl, _, rfl, ite_f (by decide) ?_⟩
    refine ⟨_, rfl, _, _, _, _, rfl, .tup (sF _ _ h1), .tt, _, rfl, _, _, _, _, rfl, .tup (sF _ _ h3), .tt, rfl, _, rfl, ite_f (by decide) ?_⟩
    refine ⟨_, rfl, a2, _, rfl, sq1 _ sF, _, rfl, b2, _, rfl, sq2 _ sF, rfl, _, rfl, ite_f (by rw [l2, l3]; simp) ?_⟩
    refine ⟨_, rfl, b2, _, rfl, sq2 _ sF, _, rfl, by omega, by omega, for_range (lo := 0) (n := ((us2.length : Nat) : Int).toNat) (fun i σ HD => ∃ (o4 : Option V) (ws : List V), σ = [some x, some y, some (.ref p), some (.ref a2), some (.ref b2), o4] ∧ Same H HD ∧ TSame HF HD ∧ HD p = some (.lst ws) ∧ TwoAt H HD ws (ds0 ++ l.take i) ∧ i ≤ l.length)
      ⟨_, us0, rfl, sF, .refl _, gpF, by simpa using htF, Nat.zero_le _⟩ ?_ ?_⟩
    · rintro i σ HD hi ⟨o4, ws, rfl, sD, kD, gpD, htD, hil⟩
      rw [Int.toNat_natCast] at hi
      have e0 : (0 : Int) + (i : Int) = ((i : Nat) : Int) := by omega
      rw [e0]
      have hwl := Paired.length htD
      rw [List.length_append, List.length_take] at hwl
      refine ⟨_, rfl, .inl ⟨rfl, _, SqL.of gpD⟩, _, rfl, _, rfl, ix_of (sq1 _ sD) (atI_nat (List.getElem?_eq_getElem (by omega : i < vs2.length))) ?_⟩
      refine ⟨_, rfl, _, rfl, ix_of (sq2 _ sD) (atI_nat (List.getElem?_eq_getElem hi)) ?_⟩
      refine ⟨(by show 2 ≤ sizeLine; decide), fun g hg => ?_⟩
      have sE := same_new hg (HO.tup [vs2[i]'(by omega), us2[i]])
      have xE : upd HD g (HO.tup [vs2[i]'(by omega), us2[i]]) g = some _ := upd_same
      generalize upd HD g (HO.tup [vs2[i]'(by omega), us2[i]]) = HE at sE xE ⊢
      have h6 : ws.length ≤ 50000 := by omega
      refine ⟨p, _, _, rfl, rfl, sE _ _ gpD, big (by omega), ?_⟩
      have kG : TSame HE (upd HE p (HO.lst (ws ++ [.ref g]))) := .lst (sE _ _ gpD)
      refine ⟨_, ws ++ [.ref g], rfl, fun b ob z => by rw [upd_ne (ne_of_none z hp)]; exact sE _ _ (sD _ _ z), (kD.trans (.of sE)).trans kG, upd_same, ?_, by omega⟩
      rw [List.take_succ_eq_append_getElem (by omega : i < l.length), ← List.append_assoc]
      exact Paired.snoc (TwoAt.mono ((TSame.of sE).trans kG) htD) ⟨g, _, _, rfl, kG _ _ xE, dv.get i (by omega) (by omega), du.get i hi (by omega)⟩
    · rintro σ HD ⟨o4, ws, rfl, sD, kD, gpD, htD, hil⟩
      rw [Int.toNat_natCast, List.take_of_length_le (by omega)] at htD
      exact ⟨sizeL ds0 + sizeL l, by omega, _, _, _, ws, ds0 ++ l, rfl, sD, gpD, htD, sizeL_append _ _, by omega⟩
  | lst l =>
    simp only [DatAt] at ha1 hb1
    obtain ⟨a2, vs2, rfl, h1, dv⟩ := ha1
    obtain ⟨b2, us2, rfl, h3, du⟩ := hb1
    have l2 := dv.length
    have l3 := du.length
    have hll := len_le_sizeL l
    simp only [Dt.size] at hnd
    have sq1 : ∀ H', Same H H' → SqL K H' a2 vs2 ∨ SqT K H' a2 vs2 := fun H' k => .inl (SqL.of (k _ _ h1))
    have sq2 : ∀ H', Same H H' → SqL K H' b2 us2 ∨ SqT K H' b2 us2 := fun H' k => .inl (SqL.of (k _ _ h3))
    refine ⟨_, g, ["list", "tuple"], _, _, rfl, xF, .lst (sF _ _ h3), .l, _, rfl, iteT ?_⟩
    refine ⟨_, rfl, _, _, _, _, rfl, .lst (sF _ _ h1), .ll, _, rfl, _, _, _, _, rfl, .lst (sF _ _ h3), .ll, rfl, _, rfl, ite_f (by decide) ?_⟩
    refine ⟨_, rfl, _, _, _, _, rfl, .lst (sF _ _ h1), .lt, _, rfl, _, _, _, _, rfl, .lst (sF _ _ h3), .lt, rfl, _, rfl, ite_f (by decide) ?_⟩
    refine ⟨_, rfl, a2, _, rfl, sq1 _ sF, _, rfl, b2, _, rfl, sq2 _ sF, rfl, _, rfl, ite_f (by rw [l2, l3]; simp) ?_⟩
    refine ⟨_, rfl, b2, _, rfl, sq2 _ sF, _, rfl, by omega, by omega, for_range (lo := 0) (n := ((us2.length : Nat) : Int).toNat) (fun i σ HD => ∃ (o4 : Option V) (ws : List V), σ = [some x, some y, some (.ref p), some (.ref a2), some (.ref b2), o4] ∧ Same H HD ∧ TSame HF HD ∧ HD p = some (.lst ws) ∧ TwoAt H HD ws (ds0 ++ l.take i) ∧ i ≤ l.length)
      ⟨_, us0, rfl, sF, .refl _, gpF, by simpa using htF, Nat.zero_le _⟩ ?_ ?_⟩
    · rintro i σ HD hi ⟨o4, ws, rfl, sD, kD, gpD, htD, hil⟩
      rw [Int.toNat_natCast] at hi
      have e0 : (0 : Int) + (i : Int) = ((i : Nat) : Int) := by omega
      rw [e0]
      have hwl := Paired.length htD
      rw [List.length_append, List.length_take] at hwl
      refine ⟨_, rfl, .inl ⟨rfl, _, SqL.of gpD⟩, _, rfl, _, rfl, ix_of (sq1 _ sD) (atI_nat (List.getElem?_eq_getElem (by omega : i < vs2.length))) ?_⟩
      refine ⟨_, rfl, _, rfl, ix_of (sq2 _ sD) (atI_nat (List.getElem?_eq_getElem hi)) ?_⟩
      refine ⟨(by show 2 ≤ sizeLine; decide), fun g hg => ?_⟩
      have sE := same_new hg (HO.tup [vs2[i]'(by omega), us2[i]])
      have xE : upd HD g (HO.tup [vs2[i]'(by omega), us2[i]]) g = some _ := upd_same
      generalize upd HD g (HO.tup [vs2[i]'(by omega), us2[i]]) = HE at sE xE ⊢
      have h6 : ws.length ≤ 50000 := by omega
      refine ⟨p, _, _, rfl, rfl, sE _ _ gpD, big (by omega), ?_⟩
      have kG : TSame HE (upd HE p (HO.lst (ws ++ [.ref g]))) := .lst (sE _ _ gpD)
      refine ⟨_, ws ++ [.ref g], rfl, fun b ob z => by rw [upd_ne (ne_of_none z hp)]; exact sE _ _ (sD _ _ z), (kD.trans (.of sE)).trans kG, upd_same, ?_, by omega⟩
      rw [List.take_succ_eq_append_getElem (by omega : i < l.length), ← List.append_assoc]
      exact Paired.snoc (TwoAt.mono ((TSame.of sE).trans kG) htD) ⟨g, _, _, rfl, kG _ _ xE, dv.get i (by omega) (by omega), du.get i hi (by omega)⟩
    · rintro σ HD ⟨o4, ws, rfl, sD, kD, gpD, htD, hil⟩
      rw [Int.toNat_natCast, List.take_of_length_le (by omega)] at htD
      exact ⟨sizeL ds0 + sizeL l, by omega, _, _, _, ws, ds0 ++ l, rfl, sD, gpD, htD, sizeL_append _ _, by omega⟩
end
end K12
set_option Elab.async false
set_option linter.all false
set_option maxRecDepth 100000
set_option maxHeartbeats 4000000
namespace K12
open PySem L2 BF
section
variable {P : Program} {w : World} {K : PySem.W.Frag} {mg : Str → Option Value} {base : Heap}
def spLaw (K : PySem.W.Frag) : Sp := fun vs H Q _ => ∃ (a : Addr) (ns : List Int), vs = [.ref a] ∧ SqL K H a (ns.map V.int) ∧ ns.length ≤ 63 ∧ ∀ H', Q (.bl true) H'
theorem cutv_mid (ns : List Int) (i j : Nat) : ∃ ms : List Int, cutV (ns.map V.int) (some (i : Int)) (some (j : Int)) = ms.map V.int ∧ ms.length ≤ ns.length ∧ ms.length ≤ ns.length - i := by
  unfold cutV
  rw [HT.sIx_nat, HT.sIx_nat]
  refine ⟨(ns.drop (min i (ns.map V.int).length)).take (min j (ns.map V.int).length - min i (ns.map V.int).length), by rw [List.map_take, List.map_drop], ?_, ?_⟩ <;> rw [List.length_take, List.length_drop] <;> simp only [List.length_map] <;> omega
def MenuAt (H : Hp) (v : V) (m0 m1 m2 : Str) : Prop := (∃ l, v = .ref l ∧ H l = some (.lst [.str m0, .str m1, .str m2])) ∨ ∃ (z : Str) (c0 c1 c2 : Nat), v = .str z ∧ z.cps.toList = [c0, c1, c2] ∧ m0 = ⟨#[c0]⟩ ∧ m1 = ⟨#[c1]⟩ ∧ m2 = ⟨#[c2]⟩
theorem MenuAt.same {H H' : Hp} {v : V} {m0 m1 m2 : Str} (s : Same H H') (h : MenuAt H v m0 m1 m2) : MenuAt H' v m0 m1 m2 := by
  rcases h with ⟨l, e, h⟩ | h
  · exact .inl ⟨l, e, s _ _ h⟩
  · exact .inr h
theorem menu_at {H : Hp} {v : V} {m0 m1 m2 m : Str} (j : Nat) (h : MenuAt H v m0 m1 m2) (hm : ([m0, m1, m2] : List Str)[j]? = some m) {Q : VK} (q : Q (.str m) H) : rIxL K v (.int (j : Nat)) H Q ∨ rIxS v (.int (j : Nat)) H Q := by
  rcases h with ⟨l, rfl, h⟩ | ⟨z, c0, c1, c2, rfl, hz, rfl, rfl, rfl⟩
  · refine .inl ⟨l, _, _, .str m, rfl, rfl, SqL.of h, atI_nat ?_, q⟩
    have := congrArg (Option.map V.str) hm
    rw [← List.getElem?_map] at this
    exact this
  · have hzl : z.length ≤ 3 := by rw [len_cps, hz]; exact Nat.le_refl _
    match j, hm with
    | 0, hm => cases hm; exact .inr ⟨z, _, c0, rfl, rfl, Nat.le_trans hzl (by decide), by rw [hz]; exact atI_nat (j := 0) rfl, q⟩
    | 1, hm => cases hm; exact .inr ⟨z, _, c1, rfl, rfl, Nat.le_trans hzl (by decide), by rw [hz]; exact atI_nat (j := 1) rfl, q⟩
    | 2, hm => cases hm; exact .inr ⟨z, _, c2, rfl, rfl, Nat.le_trans hzl (by decide), by rw [hz]; exact atI_nat (j := 2) rfl, q⟩
theorem nodes_one {φ : Str → Tm} (h : ∀ x, (φ x).nodes = 1) (t : Tm) : (t.sub φ).nodes = t.nodes := by
  refine Tm.ind (P := fun t => (t.sub φ).nodes = t.nodes) (fun _ => rfl) (fun _ => rfl) (fun x => ?_) (fun x ps ih => ?_) t
  · simp only [Tm.sub, Tm.nodes]; exact h x
  · simp only [Tm.sub, Tm.nodes]
    congr 1
    induction ps with
    | nil => rfl
    | cons p r ih2 =>
      simp only [subL, nodesL]
      rw [ih p (by simp), ih2 fun q hq => ih q (by simp [hq])]
theorem fsub_one {f : Fl} (h : ∀ p ∈ f, p.2.nodes = 1) (x : Str) : (fsub f x).nodes = 1 := by
  unfold fsub
  cases e : look f x with
  | none => rfl
  | some t => exact h _ (look_mem e)
theorem ws_dat {H : Hp} : ∀ {ps : List V} {ws : Wp}, WsAt H ps ws → DatsAt H ps (ws.map fun z => .tup [.str z.1, .str z.2])
  | _, _, .nil => by simp [DatsAt]
  | _ :: _, _ :: _, .cons ⟨a, e, h⟩ r => by
    simp only [List.map_cons, DatsAt]
    refine ⟨_, _, rfl, ?_, ws_dat r⟩
    simp only [DatAt]
    refine ⟨a, _, e, h, ?_⟩
    simp [DatsAt, DatAt]
theorem five_keys (m0 m1 m2 : Str) : (([("a", m2), ("b", "m"), ("x", m0), ("y", m1), ("z", m2)] : Wp).map (·.1)).Nodup := by
  show (["a", "b", "x", "y", "z"] : List Str).Nodup
  decide +kernel
theorem ok_law {f0 : Addr} {fd : FuncData} (F : Fun K "law" "law" s_law f0 fd) (T : Bi mg) (TS : mg "sorted" = none) (c__law_grown : Cal P w K mg base 3 "_law_grown" ["_law_cells"] (spGrown K)) (c__law_at : Cal P w K mg base 1 "_law_at" ["_law_script", "_law_k"] (spAt K))
    (c__law_any_word : Cal P w K mg base 1 "_law_any_word" ["_law_cell"] spWord) (c__law_fill : Cal P w K mg base 2 "_law_fill" ["_law_term", "_law_pairs"] spFill) (c_renamed : Cal P w K mg base 3 "renamed" ["term", "names"] spRenamed)
    (c__law_so : Cal P w K mg base 1 "_law_so" ["_law_found", "_law_due"] spSo) (c__law_variant : Cal P w K mg base 1 "_law_variant" ["_law_one", "_law_other"] spVariant) (c_same_but_names : Cal P w K mg base 4 "same_but_names" ["one", "other"] spSbn) (c__law_blanks : Cal P w K mg base 2 "_law_blanks" ["_law_term"] spBlanks) :
    FnOk P w K mg base CX0 5 f0 fd ["_law_script"] (spLaw K) := by
  refine F.ok sc_law (fun vs H Q E h => ?_) (fun cdv A outer s H vs Q E hr h => ?_)
  · obtain ⟨a, ns, rfl, _⟩ := h
    rfl
  obtain ⟨a, ns, rfl, hS0, h63, q⟩ := h
  have hun := hr.un
  have hu : (A.deeper (PyProof.Rows.envOfC "law" (defScope s_law) s.heap.objs.size f0 cdv)).units + 1 < cLine := by omega
  refine ⟨_, (pss_cons (ps_set (i := 1) sc_law.nd rfl (Or.inl rfl) (pe_cal c__law_grown (hr.mono (by decide)) (pa_cons (pe_slice sl_list (pv 0) (po_some pe_int) (po_some pe_int)) pa_nil)))
      (pss_cons (ps_set (i := 2) sc_law.nd rfl (Or.inl rfl) (pe_op op_mod (pe_cal c__law_at (hr.mono (by decide)) (pa_cons (pv 0) (pa_cons pe_int pa_nil))) pe_int))
      (pss_cons (ps_set (i := 3) sc_law.nd rfl (Or.inl rfl) (pe_ix ix_list (pe_lst (pa_cons pe_str (pa_cons pe_str (pa_cons pe_str (pa_cons pe_str (pa_cons pe_str pa_nil)))))) (pe_op op_mod (pv 2) pe_int) (fun _ _ => rfl)))
      (pss_cons (ps_if (pt_cmpR op_eq (pv 2) pe_int (nomark _)) (pss_one (ps_set (i := 3) sc_law.nd rfl (Or.inl rfl) (pe_lst (pa_cons (pe_cal c__law_any_word (hr.mono (by decide)) (pa_cons (pe_cal c__law_at (hr.mono (by decide)) (pa_cons (pv 0) (pa_cons pe_int pa_nil))) pa_nil)) (pa_cons (pe_cal c__law_any_word (hr.mono (by decide)) (pa_cons (pe_cal c__law_at (hr.mono (by decide)) (pa_cons (pv 0) (pa_cons pe_int pa_nil))) pa_nil)) (pa_cons pe_str pa_nil)))))) pss_nil)
      (pss_cons (ps_set (i := 4) sc_law.nd rfl (Or.inl rfl) (pe_lst (pa_cons (pe_tup (pa_cons pe_str (pa_cons (pe_ix ix_menu (pv 3) pe_int (fun _ _ => rfl)) pa_nil))) (pa_cons (pe_tup (pa_cons pe_str (pa_cons pe_str pa_nil))) (pa_cons (pe_tup (pa_cons pe_str (pa_cons (pe_ix ix_menu (pv 3) pe_int (fun _ _ => rfl)) pa_nil))) (pa_cons (pe_tup (pa_cons pe_str (pa_cons (pe_ix ix_menu (pv 3) pe_int (fun _ _ => rfl)) pa_nil))) (pa_cons (pe_tup (pa_cons pe_str (pa_cons (pe_ix ix_menu (pv 3) pe_int (fun _ _ => rfl)) pa_nil))) pa_nil)))))))
      (pss_cons (ps_set (i := 5) sc_law.nd rfl (Or.inl rfl) (pe_cal c__law_fill (hr.mono (by decide)) (pa_cons (pv 1) (pa_cons (pe_comp (Nc := ["_law_pair"]) (k := 1) (js := []) ⟨rfl, rfl, rfl, rfl, rfl, rfl⟩ (pi_list (pv 4)) (fun _ _ _ _ => pg_name (i := 0) (show (["_law_pair"] : List Str).Nodup by decide +kernel) rfl (Or.inl rfl)) (fun _ _ _ _ => pts_nil) (fun _ _ _ _ => (pe_tup (pa_cons (pe_ix ix_tup (pv 0) pe_int (fun _ _ => rfl)) (pa_cons (pe_tup (pa_cons pe_str (pa_cons (pe_ix ix_tup (pv 0) pe_int (fun _ _ => rfl)) pa_nil))) pa_nil))))) pa_nil))))
      (pss_cons (ps_set (i := 6) sc_law.nd rfl (Or.inl rfl) (pe_bty call_list_of T.b_list bt_list (pa_cons (pv 4) pa_nil)))
      (pss_cons (ps_set (i := 7) sc_law.nd rfl (Or.inl rfl) (pe_cal c_renamed (hr.mono (by decide)) (pa_cons (pv 1) (pa_cons (pv 6) pa_nil))))
      (pss_cons (ps_if (pw_or (pt_not (pt_val (pe_cal c__law_so (hr.mono (by decide)) (pa_cons (pv 6) (pa_cons (pv 4) pa_nil))))) (pw_or1 (pt_not (pt_val (pe_cal c__law_so (hr.mono (by decide)) (pa_cons (pv 7) (pa_cons (pv 5) pa_nil))))))).pt (pss_one (ps_ret pe_bl)) pss_nil)
      (pss_cons (ps_set (i := 8) sc_law.nd rfl (Or.inl rfl) (pv 5))
      (pss_cons (ps_if (pt_cmpR op_eq (pe_op op_mod (pe_cal c__law_at (hr.mono (by decide)) (pa_cons (pv 0) (pa_cons pe_int pa_nil))) pe_int) pe_int (nomark _)) (pss_one (ps_set (i := 8) sc_law.nd rfl (Or.inl rfl) (pe_cal c__law_fill (hr.mono (by decide)) (pa_cons (pv 5) (pa_cons (pe_lst (pa_cons (pe_tup (pa_cons (pe_ix ix_menu (pv 3) pe_int (fun _ _ => rfl)) (pa_cons (pe_tup (pa_cons pe_str (pa_cons pe_str pa_nil))) pa_nil))) pa_nil)) pa_nil))))) pss_nil)
      (pss_cons (ps_if (pt_cmpR op_eq (pe_op op_mod (pe_cal c__law_at (hr.mono (by decide)) (pa_cons (pv 0) (pa_cons pe_int pa_nil))) pe_int) pe_int (nomark _)) (pss_one (ps_set (i := 8) sc_law.nd rfl (Or.inl rfl) (pe_tup (pa_cons pe_str (pa_cons pe_str (pa_cons (pe_tup (pa_cons (pv 5) pa_nil)) pa_nil)))))) pss_nil)
      (pss_cons (ps_set (i := 9) sc_law.nd rfl (Or.inl rfl) (pe_cal c__law_variant (hr.mono (by decide)) (pa_cons (pv 1) (pa_cons (pv 8) pa_nil))))
      (pss_cons (ps_set (i := 10) sc_law.nd rfl (Or.inl rfl) (pe_cal c_same_but_names (hr.mono (by decide)) (pa_cons (pv 1) (pa_cons (pv 8) pa_nil))))
      (pss_cons (ps_if (pt_cmpR op_isN (pv 9) pe_non (nomark _)) (pss_one (ps_ret (pe_cmpR op_isN (pv 10) pe_non (nomark _)))) pss_nil)
      (pss_cons (ps_set (i := 11) sc_law.nd rfl (Or.inl rfl) (pe_blt (call_sorted_list rfl) TS bt_sorted (pa_cons (pe_cal c__law_blanks (hr.mono (by decide)) (pa_cons (pv 1) pa_nil)) pa_nil)))
      (pss_cons (ps_if (pw_or (pt_not (pt_val (pe_blt call_isi T.b_isinstance bt_isinstance (pa_cons (pv 10) (pa_cons (pe_tyn T.b_list bt_list) pa_nil))))) (pw_or1 (pt_cmpR op_ne (pe_blt call_len_seq T.b_len bt_len (pa_cons (pv 10) pa_nil)) (pe_blt call_len_seq T.b_len bt_len (pa_cons (pv 11) pa_nil)) (nomark _)))).pt (pss_one (ps_ret pe_bl)) pss_nil)
      (pss_cons (ps_for PassesOwn.never rfl (pi_range1 rfl T.b_range (pa_cons (pe_blt call_len_seq T.b_len bt_len (pa_cons (pv 11) pa_nil)) pa_nil)) (pg_name (i := 12) sc_law.nd rfl (Or.inl rfl)) (pss_cons (ps_set (i := 13) sc_law.nd rfl (Or.inl rfl) (pe_ix ix_list (pv 10) (pv 12) (fun _ _ => rfl)))
        (pss_cons (ps_if (pw_or (pt_not (pt_val (pe_blt call_isi T.b_isinstance bt_isinstance (pa_cons (pv 13) (pa_cons (pe_tyn T.b_tuple bt_tuple) pa_nil))))) (pw_or1 (pt_cmpR op_ne (pe_blt call_len_seq T.b_len bt_len (pa_cons (pv 13) pa_nil)) pe_int (nomark _)))).pt (pss_one (ps_ret pe_bl)) pss_nil)
        (pss_cons (ps_if (pw_or (pt_not (pt_val (pe_blt call_isi T.b_isinstance bt_isinstance (pa_cons (pe_ix ix_tup (pv 13) pe_int (fun _ _ => rfl)) (pa_cons (pe_tyn T.b_str bt_str) pa_nil))))) (pw_or1 (pt_not (pt_val (pe_blt call_isi T.b_isinstance bt_isinstance (pa_cons (pe_ix ix_tup (pv 13) pe_int (fun _ _ => rfl)) (pa_cons (pe_tyn T.b_str bt_str) pa_nil))))))).pt (pss_one (ps_ret pe_bl)) pss_nil)
        (pss_one (ps_if (pw_or (pt_cmpR op_ne (pe_ix ix_tup (pv 13) pe_int (fun _ _ => rfl)) (pe_ix ix_list (pv 11) (pv 12) (fun _ _ => rfl)) (nomark _)) (pw_or1 (pt_cmpR op_ne (pe_ix ix_tup (pv 13) pe_int (fun _ _ => rfl)) (pe_dget hu (pv 9) (pe_ix ix_list (pv 11) (pv 12) (fun _ _ => rfl)) (fun _ _ => rfl)) (nomark _)))).pt (pss_one (ps_ret pe_bl)) pss_nil))))))
      (pss_one (ps_ret pe_bl)))))))))))))))))))), ?_⟩
  obtain ⟨ms, ems, hms, hms'⟩ : ∃ ms : List Int, cutV (ns.map V.int) (some (2 : Int)) (some (190 : Int)) = ms.map V.int ∧ ms.length ≤ ns.length ∧ ms.length ≤ ns.length - 2 := cutv_mid ns 2 190
  refine ⟨_, rfl, _, rfl, _, rfl, a, _, rfl, hS0, fun lc hlc => ?_⟩
  rw [ems]
  have s1 := same_new hlc (HO.lst (ms.map V.int))
  have x1 : upd H lc (HO.lst (ms.map V.int)) lc = some _ := upd_same
  generalize upd H lc (HO.lst (ms.map V.int)) = H1 at s1 x1 ⊢
  refine ⟨lc, ms, rfl, SqL.of x1, by omega, fun y1 t H2 s2 hy1 hto htn => ?_⟩
  have hS2 := (s1.trans s2).seq hS0
  show Ends.nx _ _ _
  with_reducible show tSeq _ _ _ _ _
  refine tSeq_cut (fun σ H3 => ∃ (way : Int), σ = [some (.ref a), some y1, some (.int way), none, none, none, none, none, none, none, none, none, none, none] ∧ H2 = H3) ?_ (fun key => ?_)
  rotate_left
  · exact ⟨_, rfl, a, ns, 0, rfl, hS2, fun n => ⟨_, _, rfl, rfl, (show (0 : Int) < 6 by decide), key _ _ ⟨_, rfl, rfl⟩⟩⟩
  rintro σ H3' ⟨way, rfl, e3⟩
  subst e3
  with_reducible show tSeq _ _ _ _ _
  refine tSeq_cut (fun σ H3 => ∃ (vm : V) (m0 m1 m2 : Str), σ = [some (.ref a), some y1, some (.int way), some vm, none, none, none, none, none, none, none, none, none, none] ∧ Same H2 H3 ∧ MenuAt H3 vm m0 m1 m2) ?_ (fun key => ?_)
  rotate_left
  · refine ⟨(by show 5 ≤ sizeLine; decide), fun lm hlm => ?_⟩
    have t3 := same_new hlm (HO.lst [.str "yzx", .str "pyr", .str "yyz", .str "xyz", .str "zqq"])
    have z3 : upd H2 lm (HO.lst [.str "yzx", .str "pyr", .str "yyz", .str "xyz", .str "zqq"]) lm = some _ := upd_same
    generalize upd H2 lm (HO.lst [.str "yzx", .str "pyr", .str "yyz", .str "xyz", .str "zqq"]) = H3 at t3 z3 ⊢
    refine ⟨_, rfl, _, _, rfl, rfl, (show (0 : Int) < 5 by decide), ?_⟩
    obtain ⟨z, c0, c1, c2, ez, ec⟩ : ∃ (z : Str) (c0 c1 c2 : Nat), atI [V.str "yzx", V.str "pyr", V.str "yyz", V.str "xyz", V.str "zqq"] (way % 5) = some (V.str z) ∧ z.cps.toList = [c0, c1, c2] := by
      have h1 := Int.emod_nonneg way (show (5 : Int) ≠ 0 by decide)
      have h2 := Int.emod_lt_of_pos way (show (0 : Int) < 5 by decide)
      rcases (by omega : way % 5 = 0 ∨ way % 5 = 1 ∨ way % 5 = 2 ∨ way % 5 = 3 ∨ way % 5 = 4) with e | e | e | e | e <;> rw [e]
      · exact ⟨_, 121, 122, 120, atI_nat (j := 0) rfl, by decide +kernel⟩
      · exact ⟨_, 112, 121, 114, atI_nat (j := 1) rfl, by decide +kernel⟩
      · exact ⟨_, 121, 121, 122, atI_nat (j := 2) rfl, by decide +kernel⟩
      · exact ⟨_, 120, 121, 122, atI_nat (j := 3) rfl, by decide +kernel⟩
      · exact ⟨_, 122, 113, 113, atI_nat (j := 4) rfl, by decide +kernel⟩
    exact ⟨lm, _, _, _, rfl, rfl, SqL.of z3, ez, key _ _ ⟨_, _, _, _, rfl, t3, .inr ⟨z, c0, c1, c2, rfl, ec, rfl, rfl, rfl⟩⟩⟩
  rintro σ H3 ⟨vm, m0, m1, m2, rfl, s3, hM⟩
  have hS3 := s3.seq hS2
  with_reducible show tSeq _ _ _ _ _
  refine tSeq_cut (fun σ H4 => ∃ (vm : V) (m0 m1 m2 : Str), σ = [some (.ref a), some y1, some (.int way), some vm, none, none, none, none, none, none, none, none, none, none] ∧ Same H2 H4 ∧ MenuAt H4 vm m0 m1 m2) ?_ (fun key => ?_)
  rotate_left
  · refine ⟨_, rfl, rfl, _, rfl, ite2 (fun c => ?_) (fun c => key _ _ ⟨vm, m0, m1, m2, rfl, s3, hM⟩)⟩
    refine ⟨_, rfl, a, ns, 0, rfl, hS3, fun n0 => ⟨_, rfl, fun p0 _ _ => ⟨_, rfl, a, ns, 1, rfl, hS3, fun n1 => ⟨_, rfl, fun p1 _ _ => ⟨(by show 3 ≤ sizeLine; decide), fun l fl => ?_⟩⟩⟩⟩⟩
    have t4 := same_new fl (HO.lst [.str p0, .str p1, .str "x"])
    exact key _ _ ⟨.ref l, p0, p1, "x", rfl, s3.trans t4, .inl ⟨l, rfl, upd_same⟩⟩
  clear hM s3 hS3
  rintro σ H4 ⟨vm, m0, m1, m2, rfl, s4, hM⟩
  have hS4 := s4.seq hS2
  with_reducible show tSeq _ _ _ _ _
  refine tSeq_cut (fun σ H5 => ∃ (ln : Addr) (ps : List V), σ = [some (.ref a), some y1, some (.int way), some vm, some (.ref ln), none, none, none, none, none, none, none, none, none] ∧ Same H4 H5 ∧ H5 ln = some (.lst ps) ∧ WsAt H5 ps [("a", m2), ("b", "m"), ("x", m0), ("y", m1), ("z", m2)]) ?_ (fun key => ?_)
  rotate_left
  · refine ⟨_, rfl, menu_at 2 hM rfl ⟨(by show 2 ≤ sizeLine; decide), fun g1 f1 => ?_⟩⟩
    have t1 := same_new f1 (HO.tup [.str "a", .str m2])
    have z1 : upd H4 g1 (HO.tup [.str "a", .str m2]) g1 = some _ := upd_same
    generalize upd H4 g1 (HO.tup [.str "a", .str m2]) = J1 at t1 z1 ⊢
    refine ⟨(by show 2 ≤ sizeLine; decide), fun g2 f2 => ?_⟩
    have t2 := same_new f2 (HO.tup [.str "b", .str "m"])
    have z2 : upd J1 g2 (HO.tup [.str "b", .str "m"]) g2 = some _ := upd_same
    generalize upd J1 g2 (HO.tup [.str "b", .str "m"]) = J2 at t2 z2 ⊢
    have u2 := t1.trans t2
    refine ⟨_, rfl, menu_at 0 (hM.same u2) rfl ⟨(by show 2 ≤ sizeLine; decide), fun g3 f3 => ?_⟩⟩
    have t3 := same_new f3 (HO.tup [.str "x", .str m0])
    have z3 : upd J2 g3 (HO.tup [.str "x", .str m0]) g3 = some _ := upd_same
    generalize upd J2 g3 (HO.tup [.str "x", .str m0]) = J3 at t3 z3 ⊢
    have u3 := u2.trans t3
    refine ⟨_, rfl, menu_at 1 (hM.same u3) rfl ⟨(by show 2 ≤ sizeLine; decide), fun g4 f4 => ?_⟩⟩
    have t4 := same_new f4 (HO.tup [.str "y", .str m1])
    have z4 : upd J3 g4 (HO.tup [.str "y", .str m1]) g4 = some _ := upd_same
    generalize upd J3 g4 (HO.tup [.str "y", .str m1]) = J4 at t4 z4 ⊢
    have u4 := u3.trans t4
    refine ⟨_, rfl, menu_at 2 (hM.same u4) rfl ⟨(by show 2 ≤ sizeLine; decide), fun g5 f5 => ?_⟩⟩
    have t5 := same_new f5 (HO.tup [.str "z", .str m2])
    have z5 : upd J4 g5 (HO.tup [.str "z", .str m2]) g5 = some _ := upd_same
    generalize upd J4 g5 (HO.tup [.str "z", .str m2]) = J5 at t5 z5 ⊢
    refine ⟨(by show 5 ≤ sizeLine; decide), fun l fl => ?_⟩
    have t6 := same_new fl (HO.lst [.ref g1, .ref g2, .ref g3, .ref g4, .ref g5])
    have e5 := t5.trans t6
    have e4 := t4.trans e5
    have e3 := t3.trans e4
    have e2 := t2.trans e3
    exact key _ _ ⟨l, _, rfl, t1.trans e2, upd_same, .cons ⟨g1, rfl, e2 _ _ z1⟩ (.cons ⟨g2, rfl, e3 _ _ z2⟩ (.cons ⟨g3, rfl, e4 _ _ z3⟩ (.cons ⟨g4, rfl, e5 _ _ z4⟩ (.cons ⟨g5, rfl, t6 _ _ z5⟩ .nil))))⟩
  rintro σ H5 ⟨ln, ps, rfl, s5, hln, hps⟩
  have hM5 := hM.same s5
  have hkeys := five_keys m0 m1 m2
  have hnl : ([("a", m2), ("b", "m"), ("x", m0), ("y", m1), ("z", m2)] : Wp).length = 5 := rfl
  generalize ([("a", m2), ("b", "m"), ("x", m0), ("y", m1), ("z", m2)] : Wp) = nm at hps hkeys hnl
  have hlen := Paired.length hps
  have hy5 := hy1.mono (.of (s4.trans s5))
  have hS5 := s5.seq hS4
  refine ⟨_, rfl, _, rfl, ln, rfl, ⟨_, SqL.of hln⟩, fun D fD _ _ _ _ => comp_listN (K := K) (a := ln) (xs := ps) (fun n σ HA => ∃ (o : Option V) (qs : List V), σ = [o] ∧ Same H5 HA ∧ HA D = some (.lst qs) ∧ FillAt HA qs (wf (nm.take n)) ∧ qs.length ≤ n)
    ⟨none, [], rfl, same_new fD _, upd_same, .nil, Nat.le_refl _⟩ (fun n σ HA _ ⟨_, _, _, sA, _⟩ => sA.seq (SqL.of hln)) ?_ ?_⟩
  · rintro n x σ HA hx ⟨o, qs, rfl, sA, gA, hqs, hql⟩
    have hnl' := (List.getElem?_eq_some_iff.mp hx).1
    have hnm : n < nm.length := by omega
    obtain ⟨z, hz, a, rfl, ha⟩ := pair_get hps hx
    rw [List.getElem?_eq_getElem hnm] at hz
    cases hz
    have ha' := sA _ _ ha
    refine ⟨_, rfl, _, _, _, _, rfl, rfl, SqT.of ha', at0', _, rfl, _, _, _, _, rfl, rfl, SqT.of ha', at1', (by show 2 ≤ sizeLine; decide), fun g fg => ?_⟩
    have t1 := same_new fg (HO.tup [.str "blank", .str nm[n].2])
    have z1 : upd HA g (HO.tup [.str "blank", .str nm[n].2]) g = some _ := upd_same
    generalize upd HA g (HO.tup [.str "blank", .str nm[n].2]) = J1 at t1 z1 ⊢
    refine ⟨(by show 2 ≤ sizeLine; decide), fun g2 fg2 => ?_⟩
    have t2 := same_new fg2 (HO.tup [.str nm[n].1, .ref g])
    have z2 : upd J1 g2 (HO.tup [.str nm[n].1, .ref g]) g2 = some _ := upd_same
    generalize upd J1 g2 (HO.tup [.str nm[n].1, .ref g]) = J2 at t2 z2 ⊢
    have s12 := t1.trans t2
    refine ⟨qs, s12 _ _ gA, big (by omega), _, qs ++ [.ref g2], rfl, fun b ob z => by rw [upd_ne (ne_of_none z fD)]; exact s12 _ _ (sA _ _ z), upd_same, ?_, by simp; omega⟩
    have k3 : TSame J2 (upd J2 D (HO.lst (qs ++ [.ref g2]))) := .lst (s12 _ _ gA)
    rw [List.take_succ_eq_append_getElem hnm, wf, List.map_append]
    exact FillAt.mono k3 ((hqs.mono (.of s12)).app ⟨g2, .ref g, rfl, z2, termAt_blank.mpr ⟨g, rfl, t2 _ _ z1⟩⟩)
  rintro σ H6 ⟨o, qs, rfl, s6, gA, hqs, hql⟩
  rw [List.take_of_length_le (by omega)] at hqs
  refine ⟨y1, t, D, qs, wf nm, rfl, hy5.mono (.of s6), by omega, gA, hqs, by rw [wf_keys]; exact hkeys, fun yd H7 s7 hyd => ?_⟩
  have hwn : ∀ p ∈ wf nm, p.2.nodes = 1 := fun p hp => by
    obtain ⟨z, _, rfl⟩ := List.mem_map.mp hp
    rfl
  have hdn : (t.fill (wf nm)).nodes = t.nodes := by rw [fill_sub]; exact nodes_one (fsub_one hwn) t
  have s57 := s6.trans s7
  refine ⟨_, rfl, ln, ps, rfl, .inl (SqL.of (s57 _ _ hln)), fun lh fh => ?_⟩
  have t8 := same_new fh (HO.lst ps)
  have z8 : upd H7 lh (HO.lst ps) lh = some _ := upd_same
  generalize upd H7 lh (HO.lst ps) = H8 at t8 z8 ⊢
  have s58 := s57.trans t8
  refine ⟨_, rfl, _, rfl, y1, t, lh, ps, nm, rfl, hy5.mono (.of s58), by omega, z8, WsAt.mono (.of s58) hps, hkeys, by omega, fun yf H9 s9 hyf => ?_⟩
  have s59 := s58.trans s9
  have dat : ∀ (l0 : Addr) (HX : Hp), Same H5 HX → HX l0 = some (.lst ps) → DatAt HX (.ref l0) (.lst (nm.map fun z => .tup [.str z.1, .str z.2])) := fun l0 HX sX hX => by
    simp only [DatAt]
    exact ⟨l0, ps, rfl, hX, ws_dat (WsAt.mono (.of sX) hps)⟩
  have dsz : (Dt.lst (nm.map fun z => .tup [.str z.1, .str z.2])).size ≤ 50000 := by
    have : ∀ l : Wp, sizeL (l.map fun z => Dt.tup [.str z.1, .str z.2]) ≤ 20 * l.length := fun l => by
      induction l with
      | nil => simp [sizeL]
      | cons z r ih => simp only [List.map_cons, sizeL, Dt.size, List.length_cons] at ih ⊢; omega
    have := this nm
    simp only [Dt.size]
    omega
  have hsd := size_dt (t.fill (wf nm))
  refine ⟨_, rfl, _, rfl, .ref lh, .ref ln, .lst _, rfl, dat lh H9 s59 (s9 _ _ z8), dat ln H9 s59 (s59 _ _ hln), dsz, fun HA sA => ⟨_, rfl, iteF ⟨_, rfl, _, rfl, yf, yd, _, rfl, hyf.mono (.of sA), hyd.mono (.of (t8.trans (s9.trans sA))), by omega, fun HB sB => ⟨_, rfl, iteF ?_⟩⟩⟩⟩
  have s7B := t8.trans (s9.trans (sA.trans sB))
  have s5B := s57.trans s7B
  have hydB := hyd.mono (.of s7B)
  have hyB := hy5.mono (.of s5B)
  have hSB := s5B.seq hS5
  have hMB := hM5.same s5B
  refine ⟨_, rfl, ?_⟩
  show Ends.nx _ _ _
  with_reducible show tSeq _ _ _ _ _
  refine tSeq_cut (fun σ HC => ∃ (yo : V) (u : Tm), σ = [some (.ref a), some y1, some (.int way), some vm, some (.ref ln), some yd, some (.ref lh), some yf, some yo, none, none, none, none, none] ∧ Same HB HC ∧ TermAt HC yo u ∧ u.nodes ≤ 80) ?_ (fun key => ?_)
  rotate_left
  · refine ⟨_, rfl, a, ns, 1, rfl, hSB, fun n1 => ⟨_, _, rfl, rfl, (show (0 : Int) < 4 by decide), rfl, _, rfl, ite2 (fun c => ?_) (fun c => key _ _ ⟨yd, _, rfl, Same.refl _, hydB, by omega⟩)⟩⟩
    refine ⟨_, rfl, _, rfl, menu_at 0 hMB rfl ⟨(by show 2 ≤ sizeLine; decide), fun g1 f1 => ?_⟩⟩
    have t1 := same_new f1 (HO.tup [.str "name", .str "oak"])
    have z1 : upd HB g1 (HO.tup [.str "name", .str "oak"]) g1 = some _ := upd_same
    generalize upd HB g1 (HO.tup [.str "name", .str "oak"]) = J1 at t1 z1 ⊢
    refine ⟨(by show 2 ≤ sizeLine; decide), fun g2 f2 => ?_⟩
    have t2 := same_new f2 (HO.tup [.str m0, .ref g1])
    have z2 : upd J1 g2 (HO.tup [.str m0, .ref g1]) g2 = some _ := upd_same
    generalize upd J1 g2 (HO.tup [.str m0, .ref g1]) = J2 at t2 z2 ⊢
    refine ⟨(by show 1 ≤ sizeLine; decide), fun g3 f3 => ?_⟩
    have t3 := same_new f3 (HO.lst [.ref g2])
    have z3 : upd J2 g3 (HO.lst [.ref g2]) g3 = some _ := upd_same
    generalize upd J2 g3 (HO.lst [.ref g2]) = J3 at t3 z3 ⊢
    have u3 := t1.trans (t2.trans t3)
    refine ⟨yd, _, g3, _, [(m0, .name "oak")], rfl, hydB.mono (.of u3), by omega, z3, .cons ⟨g2, .ref g1, rfl, t3 _ _ z2, termAt_name.mpr ⟨g1, rfl, (t2.trans t3) _ _ z1⟩⟩ .nil, by simp, fun yo J4 t4 hyo => ?_⟩
    refine key _ _ ⟨yo, _, rfl, u3.trans t4, hyo, ?_⟩
    rw [fill_sub, nodes_one (fsub_one (by intro p hp; cases List.mem_singleton.mp hp; rfl))]
    omega
  rintro σ HC ⟨yo, u, rfl, sC, hyo, hun1⟩
  have hSC := sC.seq hSB
  with_reducible show tSeq _ _ _ _ _
  refine tSeq_cut (fun σ HD => ∃ (yo : V) (u : Tm), σ = [some (.ref a), some y1, some (.int way), some vm, some (.ref ln), some yd, some (.ref lh), some yf, some yo, none, none, none, none, none] ∧ Same HB HD ∧ TermAt HD yo u ∧ u.nodes ≤ 80) ?_ (fun key => ?_)
  rotate_left
  · refine ⟨_, rfl, a, ns, 1, rfl, hSC, fun n1 => ⟨_, _, rfl, rfl, (show (0 : Int) < 4 by decide), rfl, _, rfl, ite2 (fun c => ?_) (fun c => key _ _ ⟨yo, u, rfl, sC, hyo, hun1⟩)⟩⟩
    refine ⟨_, rfl, (by show 1 ≤ sizeLine; decide), fun g1 f1 => ?_⟩
    have t1 := same_new f1 (HO.tup [yd])
    have z1 : upd HC g1 (HO.tup [yd]) g1 = some _ := upd_same
    generalize upd HC g1 (HO.tup [yd]) = J1 at t1 z1 ⊢
    refine ⟨(by show 3 ≤ sizeLine; decide), fun g2 f2 => ?_⟩
    have t2 := same_new f2 (HO.tup [.str "thing", .str "f", .ref g1])
    refine key _ _ ⟨.ref g2, .thing "f" [t.fill (wf nm)], rfl, sC.trans (t1.trans t2), termAt_thing.mpr ⟨g2, g1, [yd], rfl, upd_same, t2 _ _ z1, .cons (hydB.mono (.of (sC.trans (t1.trans t2)))) .nil⟩, ?_⟩
    simp only [Tm.nodes, nodesL]
    omega
  clear hyo hun1 sC hSC
  rintro σ HD ⟨yo, u, rfl, sD, hyo, hun1⟩
  have hyD := hyB.mono (.of sD)
  refine ⟨_, rfl, _, rfl, y1, yo, t, u, rfl, hyD, hyo, by omega, fun HE sE hno => ?_, fun d kvs fo HE sE hd hfo hkey hV => ?_⟩
  · refine ⟨_, rfl, _, rfl, y1, yo, t, u, rfl, hyD.mono (.of sE), hyo.mono (.of sE), by omega, by omega, fun HF sF _ => ?_, fun l qs ss ρ HF sF hl hqs hperm hsort hv => absurd hv (hno ρ)⟩
    exact ⟨_, rfl, rfl, _, rfl, iteT ⟨_, rfl, rfl, q _⟩⟩
  · refine ⟨_, rfl, _, rfl, y1, yo, t, u, rfl, hyD.mono (.of sE), hyo.mono (.of sE), by omega, by omega, fun HF sF hno => absurd hV (hno _), fun l qs ss ρ HF sF hl hqs hperm hsort hv => ?_⟩
    have hbl := len_bl t
    have hfl := firsts_len t
    have hql := Paired.length hqs
    rw [List.length_map] at hql
    refine ⟨_, rfl, rfl, _, rfl, ite_f (by simp) ?_⟩
    refine ⟨_, rfl, y1, t, rfl, hyD.mono (.of (sE.trans sF)), by omega, fun lb HG sG hlb => ⟨lb, t.firsts, rfl, hlb, by omega, fun ls ss' fls hperm' hsort' => ?_⟩⟩
    have hsl := hperm'.length_eq
    have ess : ss' = ss := sorted_uniq (hperm'.trans hperm.symm) hsort' hsort
    subst ess
    have t9 := same_new fls (HO.lst (ss'.map V.str))
    have z9 : upd HG ls (HO.lst (ss'.map V.str)) ls = some _ := upd_same
    generalize upd HG ls (HO.lst (ss'.map V.str)) = HH at t9 z9 ⊢
    have sFH := sG.trans t9
    have hl' := sFH _ _ hl
    have hd' := (sF.trans sFH) _ _ hd
    refine ⟨_, rfl, _, _, _, _, rfl, .lst hl', .ll, _, rfl, iteF ⟨_, rfl, l, qs, rfl, .inl (SqL.of hl'), _, rfl, ls, _, rfl, .inl (SqL.of z9), rfl, _, rfl, ite_f (by simp [hql]) ?_⟩⟩
    refine ⟨_, rfl, ls, _, rfl, .inl (SqL.of z9), _, rfl, by rw [List.length_map]; omega, by rw [List.length_map]; omega, for_range (lo := 0) (n := (((ss'.map V.str).length : Nat) : Int).toNat) (fun i σ HX => ∃ (o1 o2 : Option V), σ = [some (.ref a), some y1, some (.int way), some vm, some (.ref ln), some yd, some (.ref lh), some yf, some yo, some (.ref d), some (.ref l), some (.ref ls), o1, o2] ∧ HX = HH) ⟨none, none, rfl, rfl⟩ ?_ ?_⟩
    · rintro i σ HX hi ⟨o1, o2, rfl, rfl⟩
      rw [Int.toNat_natCast, List.length_map] at hi
      have e0 : (0 : Int) + (i : Int) = ((i : Nat) : Int) := by omega
      rw [e0]
      have hi' : i < qs.length := by omega
      obtain ⟨z, hz, g, eg, hg⟩ := pair_get hqs (List.getElem?_eq_getElem hi')
      rw [List.getElem?_map, List.getElem?_eq_getElem hi] at hz
      cases hz
      have hg' := sFH _ _ hg
      have hin : ss'[i] ∈ t.bl := mem_firsts.mp (hperm.mem_iff.mp (List.getElem_mem hi))
      obtain ⟨b, hb⟩ : ∃ b, lookW fo ss'[i] = some b := by
        cases e : lookW fo ss'[i] with
        | none => exact absurd e (hkey _ hin)
        | some b => exact ⟨b, rfl⟩
      have hrb : ρ ss'[i] = b := by
        have := sub_inj t (hv.2.trans hV.2.symm) _ hin
        simp only [ren, hb, Option.getD_some] at this
        exact Tm.blank.inj this
      have hget : DGet HX d (.str ss'[i]) (some (.str b)) := by
        have := DGet.k (k := Sum.inr ss'[i]) hd'
        rw [hfo, hb] at this
        exact this
      have hwat : atI (ss'.map V.str) ((i : Nat) : Int) = some (.str ss'[i]) := atI_nat (by rw [List.getElem?_map, List.getElem?_eq_getElem hi]; rfl)
      refine ⟨_, rfl, _, rfl, l, qs, _, .ref g, rfl, rfl, SqL.of hl', (by rw [atI_nat (List.getElem?_eq_getElem hi'), eg]), ?_⟩
      refine ⟨_, rfl, _, _, _, _, rfl, .tup hg', .tt, _, rfl, iteF ⟨_, rfl, g, _, rfl, .inr (SqT.of hg'), rfl, _, rfl, ite_f (by simp) ?_⟩⟩
      refine ⟨_, rfl, _, _, _, _, rfl, rfl, SqT.of hg', at0', _, _, _, _, rfl, .str _, .ss, _, rfl, iteF ⟨_, rfl, _, _, _, _, rfl, rfl, SqT.of hg', at1', _, _, _, _, rfl, .str _, .ss, _, rfl, iteF ?_⟩⟩
      refine ⟨_, rfl, _, _, _, _, rfl, rfl, SqT.of hg', at0', _, rfl, _, rfl, ls, _, _, _, rfl, rfl, SqL.of z9, hwat, rfl, _, rfl, ite_f (by simp) ?_⟩
      refine ⟨_, rfl, _, _, _, _, rfl, rfl, SqT.of hg', at1', _, rfl, _, rfl, _, rfl, ls, _, _, _, rfl, rfl, SqL.of z9, hwat, d, _, rfl, hget, rfl, _, rfl, ite_f (by simp [hrb]) ?_⟩
      exact ⟨_, _, rfl, rfl⟩
    · rintro σ HX ⟨o1, o2, rfl, rfl⟩
      exact q _
end
end K12
set_option Elab.async false
set_option linter.all false
set_option maxRecDepth 100000
set_option maxHeartbeats 4000000
namespace K12
open PySem L2 BF
theorem all_mk {l : PySem.W.OpenLaw} {w : World} {K : PySem.W.Frag} {h : Heap} {mg : Str → Option Value} {fa f1 f2 f3 f4 f5 f6 f7 f8 f9 f10 f11 f12 f13 f14 f15 f16 f17 f18 f19 f20 f21 f22 f23 : Addr} (X : K.In h) (G : h.Ns mainGlobals mg) (hfa : mg "law" = some (.ref fa))
    {od1 an1 od2 an2 od3 an3 od4 an4 od5 an5 od6 an6 od7 an7 od8 an8 od9 an9 od10 an10 od11 an11 od12 an12 od13 an13 od14 an14 od15 an15 od16 an16 od17 an17 od18 an18 od19 an19 od20 an20 od21 an21 od22 an22 od23 an23 : Option Addr} {sl1 sl2 sl3 sl4 sl5 sl6 sl7 sl8 sl9 sl10 sl11 sl12 sl13 sl14 sl15 sl16 sl17 sl18 sl19 sl20 sl21 sl22 sl23 : Array (Option Value)} {oc1 kV1 dc1 pm1 cd1 ct1 oc2 kV2 dc2 pm2 cd2 ct2 oc3 kV3 dc3 pm3 cd3 ct3 oc4 kV4 dc4 pm4 cd4 ct4 oc5 kV5 dc5 pm5 cd5 ct5 oc6 kV6 dc6 pm6 cd6 ct6 oc7 kV7 dc7 pm7 cd7 ct7 oc8 kV8 dc8 pm8 cd8 ct8 oc9 kV9 dc9 pm9 cd9 ct9 oc10 kV10 dc10 pm10 cd10 ct10 oc11 kV11 dc11 pm11 cd11 ct11 oc12 kV12 dc12 pm12 cd12 ct12 oc13 kV13 dc13 pm13 cd13 ct13 oc14 kV14 dc14 pm14 cd14 ct14 oc15 kV15 dc15 pm15 cd15 ct15 oc16 kV16 dc16 pm16 cd16 ct16 oc17 kV17 dc17 pm17 cd17 ct17 oc18 kV18 dc18 pm18 cd18 ct18 oc19 kV19 dc19 pm19 cd19 ct19 oc20 kV20 dc20 pm20 cd20 ct20 oc21 kV21 dc21 pm21 cd21 ct21 oc22 kV22 dc22 pm22 cd22 ct22 oc23 kV23 dc23 pm23 cd23 ct23 : Value}
    (a1 : PySem.W.nsIn K mainGlobals "all_parts" = some (some (.ref f1)))
    (l1 : K.lookup f1 = some ⟨oc1, od1, .func (PySem.W.fnOf "all_parts" "all_parts" (defArgs s_all_parts) (defBody s_all_parts) (defScope s_all_parts) .none kV1 dc1 pm1 an1 cd1 ct1), sl1⟩)
    (c1 : PySem.W.codeIn K cd1 "all_parts" = true)
    (k1 : PySem.W.keepIn K (.ref f1) = true)
    (a2 : PySem.W.nsIn K mainGlobals "blanks_of" = some (some (.ref f2)))
    (l2 : K.lookup f2 = some ⟨oc2, od2, .func (PySem.W.fnOf "blanks_of" "blanks_of" (defArgs s_blanks_of) (defBody s_blanks_of) (defScope s_blanks_of) .none kV2 dc2 pm2 an2 cd2 ct2), sl2⟩)
    (c2 : PySem.W.codeIn K cd2 "blanks_of" = true)
    (k2 : PySem.W.keepIn K (.ref f2) = true)
    (a3 : PySem.W.nsIn K mainGlobals "head" = some (some (.ref f3)))
    (l3 : K.lookup f3 = some ⟨oc3, od3, .func (PySem.W.fnOf "head" "head" (defArgs s_head) (defBody s_head) (defScope s_head) .none kV3 dc3 pm3 an3 cd3 ct3), sl3⟩)
    (c3 : PySem.W.codeIn K cd3 "head" = true)
    (k3 : PySem.W.keepIn K (.ref f3) = true)
    (a4 : PySem.W.nsIn K mainGlobals "same" = some (some (.ref f4)))
    (l4 : K.lookup f4 = some ⟨oc4, od4, .func (PySem.W.fnOf "same" "same" (defArgs s_same) (defBody s_same) (defScope s_same) .none kV4 dc4 pm4 an4 cd4 ct4), sl4⟩)
    (c4 : PySem.W.codeIn K cd4 "same" = true)
    (k4 : PySem.W.keepIn K (.ref f4) = true)
    (a5 : PySem.W.nsIn K mainGlobals "replaced" = some (some (.ref f5)))
    (l5 : K.lookup f5 = some ⟨oc5, od5, .func (PySem.W.fnOf "replaced" "replaced" (defArgs s_replaced) (defBody s_replaced) (defScope s_replaced) .none kV5 dc5 pm5 an5 cd5 ct5), sl5⟩)
    (c5 : PySem.W.codeIn K cd5 "replaced" = true)
    (k5 : PySem.W.keepIn K (.ref f5) = true)
    (a6 : PySem.W.nsIn K mainGlobals "taken" = some (some (.ref f6)))
    (l6 : K.lookup f6 = some ⟨oc6, od6, .func (PySem.W.fnOf "taken" "taken" (defArgs s_taken) (defBody s_taken) (defScope s_taken) .none kV6 dc6 pm6 an6 cd6 ct6), sl6⟩)
    (c6 : PySem.W.codeIn K cd6 "taken" = true)
    (k6 : PySem.W.keepIn K (.ref f6) = true)
    (a7 : PySem.W.nsIn K mainGlobals "filling_of" = some (some (.ref f7)))
    (l7 : K.lookup f7 = some ⟨oc7, od7, .func (PySem.W.fnOf "filling_of" "filling_of" (defArgs s_filling_of) (defBody s_filling_of) (defScope s_filling_of) .none kV7 dc7 pm7 an7 cd7 ct7), sl7⟩)
    (c7 : PySem.W.codeIn K cd7 "filling_of" = true)
    (k7 : PySem.W.keepIn K (.ref f7) = true)
    (a8 : PySem.W.nsIn K mainGlobals "matched" = some (some (.ref f8)))
    (l8 : K.lookup f8 = some ⟨oc8, od8, .func (PySem.W.fnOf "matched" "matched" (defArgs s_matched) (defBody s_matched) (defScope s_matched) .none kV8 dc8 pm8 an8 cd8 ct8), sl8⟩)
    (c8 : PySem.W.codeIn K cd8 "matched" = true)
    (k8 : PySem.W.keepIn K (.ref f8) = true)
    (a9 : PySem.W.nsIn K mainGlobals "steps_within" = some (some (.ref f9)))
    (l9 : K.lookup f9 = some ⟨oc9, od9, .func (PySem.W.fnOf "steps_within" "steps_within" (defArgs s_steps_within) (defBody s_steps_within) (defScope s_steps_within) .none kV9 dc9 pm9 an9 cd9 ct9), sl9⟩)
    (c9 : PySem.W.codeIn K cd9 "steps_within" = true)
    (k9 : PySem.W.keepIn K (.ref f9) = true)
    (a10 : PySem.W.nsIn K mainGlobals "renamed" = some (some (.ref f10)))
    (l10 : K.lookup f10 = some ⟨oc10, od10, .func (PySem.W.fnOf "renamed" "renamed" (defArgs s_renamed) (defBody s_renamed) (defScope s_renamed) .none kV10 dc10 pm10 an10 cd10 ct10), sl10⟩)
    (c10 : PySem.W.codeIn K cd10 "renamed" = true)
    (k10 : PySem.W.keepIn K (.ref f10) = true)
    (a11 : PySem.W.nsIn K mainGlobals "same_but_names" = some (some (.ref f11)))
    (l11 : K.lookup f11 = some ⟨oc11, od11, .func (PySem.W.fnOf "same_but_names" "same_but_names" (defArgs s_same_but_names) (defBody s_same_but_names) (defScope s_same_but_names) .none kV11 dc11 pm11 an11 cd11 ct11), sl11⟩)
    (c11 : PySem.W.codeIn K cd11 "same_but_names" = true)
    (k11 : PySem.W.keepIn K (.ref f11) = true)
    (a12 : PySem.W.nsIn K mainGlobals "_law_at" = some (some (.ref f12)))
    (l12 : K.lookup f12 = some ⟨oc12, od12, .func (PySem.W.fnOf "_law_at" "_law_at" (defArgs s_law_at) (defBody s_law_at) (defScope s_law_at) .none kV12 dc12 pm12 an12 cd12 ct12), sl12⟩)
    (c12 : PySem.W.codeIn K cd12 "_law_at" = true)
    (k12 : PySem.W.keepIn K (.ref f12) = true)
    (a13 : PySem.W.nsIn K mainGlobals "_law_any_word" = some (some (.ref f13)))
    (l13 : K.lookup f13 = some ⟨oc13, od13, .func (PySem.W.fnOf "_law_any_word" "_law_any_word" (defArgs s_law_any_word) (defBody s_law_any_word) (defScope s_law_any_word) .none kV13 dc13 pm13 an13 cd13 ct13), sl13⟩)
    (c13 : PySem.W.codeIn K cd13 "_law_any_word" = true)
    (k13 : PySem.W.keepIn K (.ref f13) = true)
    (a14 : PySem.W.nsIn K mainGlobals "_law_leaf" = some (some (.ref f14)))
    (l14 : K.lookup f14 = some ⟨oc14, od14, .func (PySem.W.fnOf "_law_leaf" "_law_leaf" (defArgs s_law_leaf) (defBody s_law_leaf) (defScope s_law_leaf) .none kV14 dc14 pm14 an14 cd14 ct14), sl14⟩)
    (c14 : PySem.W.codeIn K cd14 "_law_leaf" = true)
    (k14 : PySem.W.keepIn K (.ref f14) = true)
    (a15 : PySem.W.nsIn K mainGlobals "_law_head" = some (some (.ref f15)))
    (l15 : K.lookup f15 = some ⟨oc15, od15, .func (PySem.W.fnOf "_law_head" "_law_head" (defArgs s_law_head) (defBody s_law_head) (defScope s_law_head) .none kV15 dc15 pm15 an15 cd15 ct15), sl15⟩)
    (c15 : PySem.W.codeIn K cd15 "_law_head" = true)
    (k15 : PySem.W.keepIn K (.ref f15) = true)
    (a16 : PySem.W.nsIn K mainGlobals "_law_many_parts" = some (some (.ref f16)))
    (l16 : K.lookup f16 = some ⟨oc16, od16, .func (PySem.W.fnOf "_law_many_parts" "_law_many_parts" (defArgs s_law_many_parts) (defBody s_law_many_parts) (defScope s_law_many_parts) .none kV16 dc16 pm16 an16 cd16 ct16), sl16⟩)
    (c16 : PySem.W.codeIn K cd16 "_law_many_parts" = true)
    (k16 : PySem.W.keepIn K (.ref f16) = true)
    (a17 : PySem.W.nsIn K mainGlobals "_law_grown" = some (some (.ref f17)))
    (l17 : K.lookup f17 = some ⟨oc17, od17, .func (PySem.W.fnOf "_law_grown" "_law_grown" (defArgs s_law_grown) (defBody s_law_grown) (defScope s_law_grown) .none kV17 dc17 pm17 an17 cd17 ct17), sl17⟩)
    (c17 : PySem.W.codeIn K cd17 "_law_grown" = true)
    (k17 : PySem.W.keepIn K (.ref f17) = true)
    (a18 : PySem.W.nsIn K mainGlobals "_law_steps" = some (some (.ref f18)))
    (l18 : K.lookup f18 = some ⟨oc18, od18, .func (PySem.W.fnOf "_law_steps" "_law_steps" (defArgs s_law_steps) (defBody s_law_steps) (defScope s_law_steps) .none kV18 dc18 pm18 an18 cd18 ct18), sl18⟩)
    (c18 : PySem.W.codeIn K cd18 "_law_steps" = true)
    (k18 : PySem.W.keepIn K (.ref f18) = true)
    (a19 : PySem.W.nsIn K mainGlobals "_law_fill" = some (some (.ref f19)))
    (l19 : K.lookup f19 = some ⟨oc19, od19, .func (PySem.W.fnOf "_law_fill" "_law_fill" (defArgs s_law_fill) (defBody s_law_fill) (defScope s_law_fill) .none kV19 dc19 pm19 an19 cd19 ct19), sl19⟩)
    (c19 : PySem.W.codeIn K cd19 "_law_fill" = true)
    (k19 : PySem.W.keepIn K (.ref f19) = true)
    (a20 : PySem.W.nsIn K mainGlobals "_law_blanks" = some (some (.ref f20)))
    (l20 : K.lookup f20 = some ⟨oc20, od20, .func (PySem.W.fnOf "_law_blanks" "_law_blanks" (defArgs s_law_blanks) (defBody s_law_blanks) (defScope s_law_blanks) .none kV20 dc20 pm20 an20 cd20 ct20), sl20⟩)
    (c20 : PySem.W.codeIn K cd20 "_law_blanks" = true)
    (k20 : PySem.W.keepIn K (.ref f20) = true)
    (a21 : PySem.W.nsIn K mainGlobals "_law_variant" = some (some (.ref f21)))
    (l21 : K.lookup f21 = some ⟨oc21, od21, .func (PySem.W.fnOf "_law_variant" "_law_variant" (defArgs s_law_variant) (defBody s_law_variant) (defScope s_law_variant) .none kV21 dc21 pm21 an21 cd21 ct21), sl21⟩)
    (c21 : PySem.W.codeIn K cd21 "_law_variant" = true)
    (k21 : PySem.W.keepIn K (.ref f21) = true)
    (a22 : PySem.W.nsIn K mainGlobals "_law_so" = some (some (.ref f22)))
    (l22 : K.lookup f22 = some ⟨oc22, od22, .func (PySem.W.fnOf "_law_so" "_law_so" (defArgs s_law_so) (defBody s_law_so) (defScope s_law_so) .none kV22 dc22 pm22 an22 cd22 ct22), sl22⟩)
    (c22 : PySem.W.codeIn K cd22 "_law_so" = true)
    (k22 : PySem.W.keepIn K (.ref f22) = true)
    (a23 : PySem.W.nsIn K mainGlobals "law" = some (some (.ref f23)))
    (l23 : K.lookup f23 = some ⟨oc23, od23, .func (PySem.W.fnOf "law" "law" (defArgs s_law) (defBody s_law) (defScope s_law) .none kV23 dc23 pm23 an23 cd23 ct23), sl23⟩)
    (c23 : PySem.W.codeIn K cd23 "law" = true)
    (k23 : PySem.W.keepIn K (.ref f23) = true)
    (qzTS : PySem.W.nsIn K mainGlobals "sorted" = some none)
    (qzTD : PySem.W.nsIn K mainGlobals "dict" = some none)
    (qzTZ : PySem.W.nsIn K mainGlobals "zip" = some none)
    (qzTE : PySem.W.nsIn K mainGlobals "enumerate" = some none)
    (z_len : PySem.W.nsIn K mainGlobals "len" = some none)
    (z_abs : PySem.W.nsIn K mainGlobals "abs" = some none)
    (z_isinstance : PySem.W.nsIn K mainGlobals "isinstance" = some none)
    (z_int : PySem.W.nsIn K mainGlobals "int" = some none)
    (z_bool : PySem.W.nsIn K mainGlobals "bool" = some none)
    (z_str : PySem.W.nsIn K mainGlobals "str" = some none)
    (z_tuple : PySem.W.nsIn K mainGlobals "tuple" = some none)
    (z_list : PySem.W.nsIn K mainGlobals "list" = some none)
    (z_reversed : PySem.W.nsIn K mainGlobals "reversed" = some none)
    (z_range : PySem.W.nsIn K mainGlobals "range" = some none)
    : ∃ fd : FuncData, (∀ (s : Shared) (v : Value), BindsTo s fd ⟨[v], []⟩ [("_law_script", v)]) ∧ ∀ base : Heap, K.In base → base.Ns mainGlobals mg → FnOk l.prog w K mg base CX0 5 fa fd ["_law_script"] (spLaw K) := by
  have e := hfa.symm.trans (PySem.W.mg_of X G a23)
  cases e
  have F1 := fun_mk (st := s_all_parts) l1 c1 k1
  have b1 := F1.binds (ps := ["term"]) fun _ _ _ _ _ _ us hl => match us, hl with | [_], _ => rfl
  have g1 := PySem.W.mg_of X G a1
  have F2 := fun_mk (st := s_blanks_of) l2 c2 k2
  have b2 := F2.binds (ps := ["term"]) fun _ _ _ _ _ _ us hl => match us, hl with | [_], _ => rfl
  have g2 := PySem.W.mg_of X G a2
  have F3 := fun_mk (st := s_head) l3 c3 k3
  have b3 := F3.binds (ps := ["term"]) fun _ _ _ _ _ _ us hl => match us, hl with | [_], _ => rfl
  have g3 := PySem.W.mg_of X G a3
  have F4 := fun_mk (st := s_same) l4 c4 k4
  have b4 := F4.binds (ps := ["one", "other"]) fun _ _ _ _ _ _ us hl => match us, hl with | [_, _], _ => rfl
  have g4 := PySem.W.mg_of X G a4
  have F5 := fun_mk (st := s_replaced) l5 c5 k5
  have b5 := F5.binds (ps := ["term", "terms"]) fun _ _ _ _ _ _ us hl => match us, hl with | [_, _], _ => rfl
  have g5 := PySem.W.mg_of X G a5
  have F6 := fun_mk (st := s_taken) l6 c6 k6
  have b6 := F6.binds (ps := ["made", "count"]) fun _ _ _ _ _ _ us hl => match us, hl with | [_, _], _ => rfl
  have g6 := PySem.W.mg_of X G a6
  have F7 := fun_mk (st := s_filling_of) l7 c7 k7
  have b7 := F7.binds (ps := ["terms"]) fun _ _ _ _ _ _ us hl => match us, hl with | [_], _ => rfl
  have g7 := PySem.W.mg_of X G a7
  have F8 := fun_mk (st := s_matched) l8 c8 k8
  have b8 := F8.binds (ps := ["pattern", "term"]) fun _ _ _ _ _ _ us hl => match us, hl with | [_, _], _ => rfl
  have g8 := PySem.W.mg_of X G a8
  have F9 := fun_mk (st := s_steps_within) l9 c9 k9
  have b9 := F9.binds (ps := ["asked", "part", "path"]) fun _ _ _ _ _ _ us hl => match us, hl with | [_, _, _], _ => rfl
  have g9 := PySem.W.mg_of X G a9
  have F10 := fun_mk (st := s_renamed) l10 c10 k10
  have b10 := F10.binds (ps := ["term", "names"]) fun _ _ _ _ _ _ us hl => match us, hl with | [_, _], _ => rfl
  have g10 := PySem.W.mg_of X G a10
  have F11 := fun_mk (st := s_same_but_names) l11 c11 k11
  have b11 := F11.binds (ps := ["one", "other"]) fun _ _ _ _ _ _ us hl => match us, hl with | [_, _], _ => rfl
  have g11 := PySem.W.mg_of X G a11
  have F12 := fun_mk (st := s_law_at) l12 c12 k12
  have b12 := F12.binds (ps := ["_law_script", "_law_k"]) fun _ _ _ _ _ _ us hl => match us, hl with | [_, _], _ => rfl
  have g12 := PySem.W.mg_of X G a12
  have F13 := fun_mk (st := s_law_any_word) l13 c13 k13
  have b13 := F13.binds (ps := ["_law_cell"]) fun _ _ _ _ _ _ us hl => match us, hl with | [_], _ => rfl
  have g13 := PySem.W.mg_of X G a13
  have F14 := fun_mk (st := s_law_leaf) l14 c14 k14
  have b14 := F14.binds (ps := ["_law_cell"]) fun _ _ _ _ _ _ us hl => match us, hl with | [_], _ => rfl
  have g14 := PySem.W.mg_of X G a14
  have F15 := fun_mk (st := s_law_head) l15 c15 k15
  have b15 := F15.binds (ps := ["_law_cell"]) fun _ _ _ _ _ _ us hl => match us, hl with | [_], _ => rfl
  have g15 := PySem.W.mg_of X G a15
  have F16 := fun_mk (st := s_law_many_parts) l16 c16 k16
  have b16 := F16.binds (ps := ["_law_cell", "_law_count"]) fun _ _ _ _ _ _ us hl => match us, hl with | [_, _], _ => rfl
  have g16 := PySem.W.mg_of X G a16
  have F17 := fun_mk (st := s_law_grown) l17 c17 k17
  have b17 := F17.binds (ps := ["_law_cells"]) fun _ _ _ _ _ _ us hl => match us, hl with | [_], _ => rfl
  have g17 := PySem.W.mg_of X G a17
  have F18 := fun_mk (st := s_law_steps) l18 c18 k18
  have b18 := F18.binds (ps := ["_law_term"]) fun _ _ _ _ _ _ us hl => match us, hl with | [_], _ => rfl
  have g18 := PySem.W.mg_of X G a18
  have F19 := fun_mk (st := s_law_fill) l19 c19 k19
  have b19 := F19.binds (ps := ["_law_term", "_law_pairs"]) fun _ _ _ _ _ _ us hl => match us, hl with | [_, _], _ => rfl
  have g19 := PySem.W.mg_of X G a19
  have F20 := fun_mk (st := s_law_blanks) l20 c20 k20
  have b20 := F20.binds (ps := ["_law_term"]) fun _ _ _ _ _ _ us hl => match us, hl with | [_], _ => rfl
  have g20 := PySem.W.mg_of X G a20
  have F21 := fun_mk (st := s_law_variant) l21 c21 k21
  have b21 := F21.binds (ps := ["_law_one", "_law_other"]) fun _ _ _ _ _ _ us hl => match us, hl with | [_, _], _ => rfl
  have g21 := PySem.W.mg_of X G a21
  have F22 := fun_mk (st := s_law_so) l22 c22 k22
  have b22 := F22.binds (ps := ["_law_found", "_law_due"]) fun _ _ _ _ _ _ us hl => match us, hl with | [_, _], _ => rfl
  have g22 := PySem.W.mg_of X G a22
  have F23 := fun_mk (st := s_law) l23 c23 k23
  have T : Bi mg := ⟨PySem.W.mg_none_of X G z_len, PySem.W.mg_none_of X G z_abs, PySem.W.mg_none_of X G z_isinstance, PySem.W.mg_none_of X G z_int, PySem.W.mg_none_of X G z_bool, PySem.W.mg_none_of X G z_str, PySem.W.mg_none_of X G z_tuple, PySem.W.mg_none_of X G z_list, PySem.W.mg_none_of X G z_reversed, PySem.W.mg_none_of X G z_range⟩
  refine ⟨PySem.W.fnOf "law" "law" (defArgs s_law) (defBody s_law) (defScope s_law) .none kV23 dc23 pm23 an23 cd23 ct23, fun s v => .of_eq rfl, fun base _ _ => ?_⟩
  have TS : mg "sorted" = none := PySem.W.mg_none_of X G qzTS
  have TD : mg "dict" = none := PySem.W.mg_none_of X G qzTD
  have TZ : mg "zip" = none := PySem.W.mg_none_of X G qzTZ
  have TE : mg "enumerate" = none := PySem.W.mg_none_of X G qzTE
  have c__law_many_parts : Cal l.prog w K mg base 1 "_law_many_parts" ["_law_cell", "_law_count"] spMany := ⟨_, _, ok_many F16 T, b16, k16, g16⟩
  have c__law_any_word : Cal l.prog w K mg base 1 "_law_any_word" ["_law_cell"] spWord := ⟨_, _, ok_any_word F13 T, b13, k13, g13⟩
  have c__law_leaf : Cal l.prog w K mg base 2 "_law_leaf" ["_law_cell"] spLeaf := ⟨_, _, ok_leaf F14 T c__law_any_word, b14, k14, g14⟩
  have c__law_head : Cal l.prog w K mg base 2 "_law_head" ["_law_cell"] spHead := ⟨_, _, ok_head F15 T c__law_any_word, b15, k15, g15⟩
  have c__law_grown : Cal l.prog w K mg base 3 "_law_grown" ["_law_cells"] (spGrown K) := ⟨_, _, ok_grown F17 T c__law_many_parts c__law_leaf c__law_head, b17, k17, g17⟩
  have c__law_at : Cal l.prog w K mg base 1 "_law_at" ["_law_script", "_law_k"] (spAt K) := ⟨_, _, ok_at F12 T, b12, k12, g12⟩
  have c__law_steps : Cal l.prog w K mg base 1 "_law_steps" ["_law_term"] spSteps := ⟨_, _, ok_steps F18 T, b18, k18, g18⟩
  have c__law_fill : Cal l.prog w K mg base 2 "_law_fill" ["_law_term", "_law_pairs"] spFill := ⟨_, _, ok_fill F19 T c__law_steps, b19, k19, g19⟩
  have c_all_parts : Cal l.prog w K mg base 1 "all_parts" ["term"] spAll := ⟨_, _, ok_all_parts F1 T, b1, k1, g1⟩
  have c_taken : Cal l.prog w K mg base 1 "taken" ["made", "count"] spTaken := ⟨_, _, ok_taken F6 T, b6, k6, g6⟩
  have c_replaced : Cal l.prog w K mg base 2 "replaced" ["term", "terms"] spRep := ⟨_, _, ok_replaced F5 T c_all_parts c_taken, b5, k5, g5⟩
  have c_renamed : Cal l.prog w K mg base 3 "renamed" ["term", "names"] spRenamed := ⟨_, _, ok_renamed F10 T TD c_replaced, b10, k10, g10⟩
  have c__law_so : Cal l.prog w K mg base 1 "_law_so" ["_law_found", "_law_due"] spSo := ⟨_, _, ok_so F22 T, b22, k22, g22⟩
  have c__law_variant : Cal l.prog w K mg base 1 "_law_variant" ["_law_one", "_law_other"] spVariant := ⟨_, _, ok_variant F21 T, b21, k21, g21⟩
  have c_head : Cal l.prog w K mg base 1 "head" ["term"] spHd := ⟨_, _, ok_hd F3 T, b3, k3, g3⟩
  have c_same : Cal l.prog w K mg base 2 "same" ["one", "other"] spSame := ⟨_, _, ok_same F4 T TZ c_head, b4, k4, g4⟩
  have c_steps_within : Cal l.prog w K mg base 1 "steps_within" ["asked", "part", "path"] spWithin := ⟨_, _, ok_steps_within F9 T TZ TE, b9, k9, g9⟩
  have c_filling_of : Cal l.prog w K mg base 1 "filling_of" ["terms"] spFof := ⟨_, _, ok_filling_of F7 TS, b7, k7, g7⟩
  have c_matched : Cal l.prog w K mg base 3 "matched" ["pattern", "term"] spMatched := ⟨_, _, ok_matched F8 T c_same c_head c_steps_within c_filling_of, b8, k8, g8⟩
  have c_blanks_of : Cal l.prog w K mg base 2 "blanks_of" ["term"] spBlanks := ⟨_, _, ok_blanks_of F2 T c_all_parts, b2, k2, g2⟩
  have c_same_but_names : Cal l.prog w K mg base 4 "same_but_names" ["one", "other"] spSbn := ⟨_, _, ok_same_but_names F11 T TD TS c_matched c_blanks_of, b11, k11, g11⟩
  have c__law_blanks : Cal l.prog w K mg base 2 "_law_blanks" ["_law_term"] spBlanks := ⟨_, _, ok_blanks F20 T c__law_steps, b20, k20, g20⟩
  exact ok_law F23 T TS c__law_grown c__law_at c__law_any_word c__law_fill c_renamed c__law_so c__law_variant c_same_but_names c__law_blanks
theorem walk {l : PySem.W.OpenLaw} {q : Program} {loose : List Str} {XP : (Str → Option Value) → Heap → Prop} {YP : World → Heap → Prop} {d : DefRec} {K : Params → PySem.W.Frag} (hn : l.most = some 63) (hdf : d.params.defaults = [])
    (hY : ∀ (w : World) (h : Heap), YP w h → (K w.params).In h)
    (F : ∀ (w : World) (mg : Str → Option Value) (fa : Addr) (h : Heap), (K w.params).In h → h.Ns mainGlobals mg → mg d.name = some (.ref fa) →
      ∃ fd : FuncData, (∀ (s : Shared) (u : Value), BindsTo s fd ⟨[u], []⟩ [("_law_script", u)]) ∧ ∀ base : Heap, (K w.params).In base → base.Ns mainGlobals mg → FnOk l.prog w (K w.params) mg base CX0 5 fa fd ["_law_script"] (spLaw (K w.params))) :
    PySem.W.WalkO q loose XP YP l.row.toRowW d [] (fun f vs => PySem.call f vs) :=
  L2.walk_of (n := 63) (k := 5) (x := "_law_script") (CX := fun _ => CX0) (sp := fun w => spLaw (K w.params)) hn (by decide) hdf ⟨rfl, by decide, by decide⟩ hY F (fun _ _ a ns hl _ hS => ⟨a, ns, rfl, hS, hl, fun _ => rfl⟩) fun _ _ _ _ _ z => z
end K12
open PySem PySem.W PyProof.Rows
set_option maxRecDepth 100000 in
set_option maxHeartbeats 0 in
theorem PySem.Challenge.cw_blankform_k12_same_but_names_holds : PySem.Challenge.rw_blankform_k12_same_but_names.Holds := by
  w_on; o_law; k_head; (case hw => w_witness2)
  k_fill
  refine K12.walk (l := PySem.Challenge.rw_blankform_k12_same_but_names) rfl rfl (fun w h Y => PySem.W.kIn_of Y) ?F
  case F =>
    intro w mg fa h KX G hmg
    refine' K12.all_mk KX G hmg ?a1 ?l1 ?c1 ?k1 ?a2 ?l2 ?c2 ?k2 ?a3 ?l3 ?c3 ?k3 ?a4 ?l4 ?c4 ?k4 ?a5 ?l5 ?c5 ?k5 ?a6 ?l6 ?c6 ?k6 ?a7 ?l7 ?c7 ?k7 ?a8 ?l8 ?c8 ?k8 ?a9 ?l9 ?c9 ?k9 ?a10 ?l10 ?c10 ?k10 ?a11 ?l11 ?c11 ?k11 ?a12 ?l12 ?c12 ?k12 ?a13 ?l13 ?c13 ?k13 ?a14 ?l14 ?c14 ?k14 ?a15 ?l15 ?c15 ?k15 ?a16 ?l16 ?c16 ?k16 ?a17 ?l17 ?c17 ?k17 ?a18 ?l18 ?c18 ?k18 ?a19 ?l19 ?c19 ?k19 ?a20 ?l20 ?c20 ?k20 ?a21 ?l21 ?c21 ?k21 ?a22 ?l22 ?c22 ?k22 ?a23 ?l23 ?c23 ?k23 ?qzTS ?qzTD ?qzTZ ?qzTE ?z_len ?z_abs ?z_isinstance ?z_int ?z_bool ?z_str ?z_tuple ?z_list ?z_reversed ?z_range
    (case a1 => first | k_is | k_exc | kit_is | kts_exm)
    (case l1 => first | k_is | k_exc | kit_is | kts_exm)
    (case c1 => first | k_is | k_exc | kit_is | kts_exm)
    (case k1 => first | k_is | k_exc | kit_is | kts_exm)
    (case a2 => first | k_is | k_exc | kit_is | kts_exm)
    (case l2 => first | k_is | k_exc | kit_is | kts_exm)
    (case c2 => first | k_is | k_exc | kit_is | kts_exm)
    (case k2 => first | k_is | k_exc | kit_is | kts_exm)
    (case a3 => first | k_is | k_exc | kit_is | kts_exm)
    (case l3 => first | k_is | k_exc | kit_is | kts_exm)
    (case c3 => first | k_is | k_exc | kit_is | kts_exm)
    (case k3 => first | k_is | k_exc | kit_is | kts_exm)
    (case a4 => first | k_is | k_exc | kit_is | kts_exm)
    (case l4 => first | k_is | k_exc | kit_is | kts_exm)
    (case c4 => first | k_is | k_exc | kit_is | kts_exm)
    (case k4 => first | k_is | k_exc | kit_is | kts_exm)
    (case a5 => first | k_is | k_exc | kit_is | kts_exm)
    (case l5 => first | k_is | k_exc | kit_is | kts_exm)
    (case c5 => first | k_is | k_exc | kit_is | kts_exm)
    (case k5 => first | k_is | k_exc | kit_is | kts_exm)
    (case a6 => first | k_is | k_exc | kit_is | kts_exm)
    (case l6 => first | k_is | k_exc | kit_is | kts_exm)
    (case c6 => first | k_is | k_exc | kit_is | kts_exm)
    (case k6 => first | k_is | k_exc | kit_is | kts_exm)
    (case a7 => first | k_is | k_exc | kit_is | kts_exm)
    (case l7 => first | k_is | k_exc | kit_is | kts_exm)
    (case c7 => first | k_is | k_exc | kit_is | kts_exm)
    (case k7 => first | k_is | k_exc | kit_is | kts_exm)
    (case a8 => first | k_is | k_exc | kit_is | kts_exm)
    (case l8 => first | k_is | k_exc | kit_is | kts_exm)
    (case c8 => first | k_is | k_exc | kit_is | kts_exm)
    (case k8 => first | k_is | k_exc | kit_is | kts_exm)
    (case a9 => first | k_is | k_exc | kit_is | kts_exm)
    (case l9 => first | k_is | k_exc | kit_is | kts_exm)
    (case c9 => first | k_is | k_exc | kit_is | kts_exm)
    (case k9 => first | k_is | k_exc | kit_is | kts_exm)
    (case a10 => first | k_is | k_exc | kit_is | kts_exm)
    (case l10 => first | k_is | k_exc | kit_is | kts_exm)
    (case c10 => first | k_is | k_exc | kit_is | kts_exm)
    (case k10 => first | k_is | k_exc | kit_is | kts_exm)
    (case a11 => first | k_is | k_exc | kit_is | kts_exm)
    (case l11 => first | k_is | k_exc | kit_is | kts_exm)
    (case c11 => first | k_is | k_exc | kit_is | kts_exm)
    (case k11 => first | k_is | k_exc | kit_is | kts_exm)
    (case a12 => first | k_is | k_exc | kit_is | kts_exm)
    (case l12 => first | k_is | k_exc | kit_is | kts_exm)
    (case c12 => first | k_is | k_exc | kit_is | kts_exm)
    (case k12 => first | k_is | k_exc | kit_is | kts_exm)
    (case a13 => first | k_is | k_exc | kit_is | kts_exm)
    (case l13 => first | k_is | k_exc | kit_is | kts_exm)
    (case c13 => first | k_is | k_exc | kit_is | kts_exm)
    (case k13 => first | k_is | k_exc | kit_is | kts_exm)
    (case a14 => first | k_is | k_exc | kit_is | kts_exm)
    (case l14 => first | k_is | k_exc | kit_is | kts_exm)
    (case c14 => first | k_is | k_exc | kit_is | kts_exm)
    (case k14 => first | k_is | k_exc | kit_is | kts_exm)
    (case a15 => first | k_is | k_exc | kit_is | kts_exm)
    (case l15 => first | k_is | k_exc | kit_is | kts_exm)
    (case c15 => first | k_is | k_exc | kit_is | kts_exm)
    (case k15 => first | k_is | k_exc | kit_is | kts_exm)
    (case a16 => first | k_is | k_exc | kit_is | kts_exm)
    (case l16 => first | k_is | k_exc | kit_is | kts_exm)
    (case c16 => first | k_is | k_exc | kit_is | kts_exm)
    (case k16 => first | k_is | k_exc | kit_is | kts_exm)
    (case a17 => first | k_is | k_exc | kit_is | kts_exm)
    (case l17 => first | k_is | k_exc | kit_is | kts_exm)
    (case c17 => first | k_is | k_exc | kit_is | kts_exm)
    (case k17 => first | k_is | k_exc | kit_is | kts_exm)
    (case a18 => first | k_is | k_exc | kit_is | kts_exm)
    (case l18 => first | k_is | k_exc | kit_is | kts_exm)
    (case c18 => first | k_is | k_exc | kit_is | kts_exm)
    (case k18 => first | k_is | k_exc | kit_is | kts_exm)
    (case a19 => first | k_is | k_exc | kit_is | kts_exm)
    (case l19 => first | k_is | k_exc | kit_is | kts_exm)
    (case c19 => first | k_is | k_exc | kit_is | kts_exm)
    (case k19 => first | k_is | k_exc | kit_is | kts_exm)
    (case a20 => first | k_is | k_exc | kit_is | kts_exm)
    (case l20 => first | k_is | k_exc | kit_is | kts_exm)
    (case c20 => first | k_is | k_exc | kit_is | kts_exm)
    (case k20 => first | k_is | k_exc | kit_is | kts_exm)
    (case a21 => first | k_is | k_exc | kit_is | kts_exm)
    (case l21 => first | k_is | k_exc | kit_is | kts_exm)
    (case c21 => first | k_is | k_exc | kit_is | kts_exm)
    (case k21 => first | k_is | k_exc | kit_is | kts_exm)
    (case a22 => first | k_is | k_exc | kit_is | kts_exm)
    (case l22 => first | k_is | k_exc | kit_is | kts_exm)
    (case c22 => first | k_is | k_exc | kit_is | kts_exm)
    (case k22 => first | k_is | k_exc | kit_is | kts_exm)
    (case a23 => first | k_is | k_exc | kit_is | kts_exm)
    (case l23 => first | k_is | k_exc | kit_is | kts_exm)
    (case c23 => first | k_is | k_exc | kit_is | kts_exm)
    (case k23 => first | k_is | k_exc | kit_is | kts_exm)
    (case qzTS => first | k_is | k_exc | kit_is | kts_exm)
    (case qzTD => first | k_is | k_exc | kit_is | kts_exm)
    (case qzTZ => first | k_is | k_exc | kit_is | kts_exm)
    (case qzTE => first | k_is | k_exc | kit_is | kts_exm)
    (case z_len => first | k_is | k_exc | kit_is | kts_exm)
    (case z_abs => first | k_is | k_exc | kit_is | kts_exm)
    (case z_isinstance => first | k_is | k_exc | kit_is | kts_exm)
    (case z_int => first | k_is | k_exc | kit_is | kts_exm)
    (case z_bool => first | k_is | k_exc | kit_is | kts_exm)
    (case z_str => first | k_is | k_exc | kit_is | kts_exm)
    (case z_tuple => first | k_is | k_exc | kit_is | kts_exm)
    (case z_list => first | k_is | k_exc | kit_is | kts_exm)
    (case z_reversed => first | k_is | k_exc | kit_is | kts_exm)
    (case z_range => first | k_is | k_exc | kit_is | kts_exm)
#print axioms PySem.Challenge.cw_blankform_k12_same_but_names_holds
