import PyProof.Rows.All
import Wide.All
import OpenK.AllK
import Wide.FinOn
import Lean
import PyProof.EqAt
import PyProof.EqKinds
import PyProof.TupleCall
import PySem.Challenge.RW_blankform_k02_whole_read_or_refused
set_option Elab.async false
set_option linter.all false
set_option maxRecDepth 100000
/-! THE HAND LAYER, for ints, bools, texts, own classes, LISTS and tuples (index, slices, in, append, pop ..), calls, loops. Paste it whole ahead of your own text; what your proof does not reach may be deleted. -/
namespace L2
open PySem PySem.Spec PyProof.Rows

/-- a key: an int or a str -/
abbrev Key := Sum Int Str
def keyIs : Key → Value → Bool
  | .inl k, v => Value.isInt k v
  | .inr x, v => Value.isStrOf x v
def keyH (w : World) : Key → Int
  | .inl k => hashInt k
  | .inr x => hashStr w x
theorem keyIs_shape : ∀ {k : Key} {v : Value}, keyIs k v = true → (∃ i t, k = Sum.inl i ∧ v = Value.int i t) ∨ (∃ x t, k = Sum.inr x ∧ v = Value.str x t)
  | .inl i, v, h => by
    obtain ⟨t, e⟩ := Value.isInt_shape (k := i) (v := v) h
    exact .inl ⟨i, t, rfl, e⟩
  | .inr x, v, h => by
    obtain ⟨t, e⟩ := Value.isStrOf_shape (x := x) (v := v) h
    exact .inr ⟨x, t, rfl, e⟩
theorem key_ll (a b : Int) : decide ((Sum.inl a : Key) = Sum.inl b) = (a == b) := by
  by_cases e : a = b
  · subst e; simp
  · have h : ¬ (Sum.inl a : Key) = Sum.inl b := fun q => e (Sum.inl.inj q)
    rw [decide_eq_false h]
    exact (beq_eq_false_iff_ne.mpr e).symm
theorem key_rr (a b : Str) : decide ((Sum.inr a : Key) = Sum.inr b) = decide (a = b) := by
  by_cases e : a = b
  · subst e; simp
  · have h : ¬ (Sum.inr a : Key) = Sum.inr b := fun q => e (Sum.inr.inj q)
    rw [decide_eq_false h, decide_eq_false e]
theorem key_lr (a : Int) (b : Str) : decide ((Sum.inl a : Key) = Sum.inr b) = false := decide_eq_false (fun q => nomatch q)
theorem key_rl (a : Str) (b : Int) : decide ((Sum.inr a : Key) = Sum.inl b) = false := decide_eq_false (fun q => nomatch q)

def mixKind (prog : Program) (w : World) : PySem.KeyKind prog w Key where
  is := keyIs
  hash := keyH w
  inj := fun v a b ha hb => by
    rcases keyIs_shape ha with ⟨i, t, rfl, rfl⟩ | ⟨x, t, rfl, rfl⟩
    · rcases keyIs_shape hb with ⟨j, u, rfl, e⟩ | ⟨y, u, rfl, e⟩
      · injection e with e1 _; rw [e1]
      · exact nomatch e
    · rcases keyIs_shape hb with ⟨j, u, rfl, e⟩ | ⟨y, u, rfl, e⟩
      · exact nomatch e
      · injection e with e1 _; rw [e1]
  byValue := fun k v h => by
    rcases keyIs_shape h with ⟨i, t, rfl, rfl⟩ | ⟨x, t, rfl, rfl⟩ <;> rfl
  pyHash := fun hv h => by
    rcases keyIs_shape hv with ⟨i, t, rfl, rfl⟩ | ⟨x, t, rfl, rfl⟩
    · exact wpAny_pyHash_int h
    · exact wpAny_pyHash_str h
  eqBool := fun hu hv h => by
    rcases keyIs_shape hu with ⟨i, t, rfl, rfl⟩ | ⟨x, t, rfl, rfl⟩
    · rcases keyIs_shape hv with ⟨j, u, rfl, rfl⟩ | ⟨y, u, rfl, rfl⟩
      · rw [key_ll] at h; exact wpAny_eqBool_int h
      · rw [key_lr] at h; exact SeqAt.EqAt.int_str i t y u _ _ _ _ h
    · rcases keyIs_shape hv with ⟨j, u, rfl, rfl⟩ | ⟨y, u, rfl, rfl⟩
      · rw [key_rl] at h; exact SeqAt.EqAt.str_int x t j u _ _ _ _ h
      · rw [key_rr] at h; exact wpAny_eqBool_str h
  «strs» := fun k x t v h => by
    rcases keyIs_shape h with ⟨i, u, rfl, e⟩ | ⟨y, u, rfl, e⟩
    · exact nomatch e
    · injection e with e1 _
      subst e1
      cases v <;> rfl

end L2

namespace L2
open PySem PySem.Spec PyProof.Rows

/-- a value, without the heap -/
inductive V where
  | non | bl (b : Bool) | int (i : Int) | str (x : Str) | byt (b : Array UInt8) | flt (b : UInt64) | ref (a : Addr) | ty (n : String)
  deriving DecidableEq

def RelV : V → Value → Prop
  | .non, u => u = Value.none
  | .bl b, u => u = Value.bool b
  | .int i, u => ∃ t, u = Value.int i t
  | .str x, u => ∃ t, u = Value.str x t
  | .byt b, u => ∃ t, u = Value.bytes b t
  | .flt b, u => ∃ t, u = Value.float b t
  | .ref a, u => u = Value.ref a
  | .ty n, u => u = Value.type n

abbrev Vals : List V → List Value → Prop := Paired RelV
theorem Vals.length {xs : List V} {us : List Value} (r : Vals xs us) : xs.length = us.length := Paired.length r
theorem Vals.get : ∀ {xs : List V} {us : List Value} {i : Nat} {x : V}, Vals xs us → xs[i]? = some x → ∃ u, us[i]? = some u ∧ RelV x u
  | _, _, _, _, .nil, e => by simp at e
  | _, _, 0, _, .cons r _, e => by simp at e; subst e; exact ⟨_, rfl, r⟩
  | _, _, i + 1, x, .cons _ t, e => by
    obtain ⟨u, h1, h2⟩ := Vals.get (i := i) (x := x) t (by simpa using e)
    exact ⟨u, by simpa using h1, h2⟩
theorem Vals.append : ∀ {xs ys : List V} {us ws : List Value}, Vals xs us → Vals ys ws → Vals (xs ++ ys) (us ++ ws)
  | _, _, _, _, .nil, s => s
  | _, _, _, _, .cons r t, s => .cons r (Vals.append t s)
theorem Vals.take : ∀ {xs : List V} {us : List Value} (n : Nat), Vals xs us → Vals (xs.take n) (us.take n)
  | _, _, 0, _ => .nil
  | _, _, _ + 1, .nil => .nil
  | _, _, n + 1, .cons r t => .cons r (Vals.take n t)
theorem Vals.drop : ∀ {xs : List V} {us : List Value} (n : Nat), Vals xs us → Vals (xs.drop n) (us.drop n)
  | _, _, 0, r => r
  | _, _, _ + 1, .nil => .nil
  | _, _, n + 1, .cons _ t => Vals.drop n t
def RelO : Option V → Option Value → Prop
  | some v, some u => RelV v u
  | none, none => True
  | _, _ => False
def KV {κ : Type} : List (κ × V) → List (κ × Value) → Prop := Paired fun (p : κ × V) (q : κ × Value) => p.1 = q.1 ∧ RelV p.2 q.2

/-- a key of a dict (00_mix): an int or a text -/
def kV : Key → V
  | .inl i => .int i
  | .inr x => .str x

/-- what stands at a tracked address -/
inductive HO where
  /-- a list -/
  | lst (xs : List V)
  /-- a tuple (never changes) -/
  | tup (xs : List V)
  /-- a dict whose keys are ints and texts; one whose keys are tuples of ints and texts (the empty one is both) -/
  | dK (kvs : List (Key × V)) | dT (kvs : List (List Key × V))
  /-- a set of ints: its members, its size -/
  | set (S : Int → Bool) (n : Nat)
  /-- an instance of the class at C, its dict at dx, its attributes -/
  | ins (C dx : Addr) (fs : List (Str × V))
  /-- the dict of the instance at x -/
  | own (x : Addr)
  /-- the dict of an exception -/
  | xd (fs : List (Str × V))
  /-- a bound method, f of x -/
  | met (f x : Addr)
  /-- a range object lo, lo + 1, .. below hi -/
  | rng (lo hi : Int)
  /-- a thing that is known to the object (the script; a dict while a loop walks it): read, never written while it is so -/
  | frz (o : Obj) (u : HO)
  /-- a code object's table -/
  | tbl (ps : Array Value)
  /-- any other thing, by what is true of its one object (a def of one's own: SetO a S n := HO.ext fun h => ..) -/
  | ext (φ : Heap → Prop)

abbrev Hp := Addr → Option HO
def upd (H : Hp) (a : Addr) (o : HO) : Hp := fun b => if b = a then some o else H b
theorem upd_same {H : Hp} {a : Addr} {o : HO} : upd H a o a = some o := by unfold upd; rw [if_pos rfl]
theorem upd_ne {H : Hp} {a b : Addr} {o : HO} (h : b ≠ a) : upd H a o b = H b := by unfold upd; rw [if_neg h]
theorem upd_upd {H : Hp} {a : Addr} {o u : HO} : upd (upd H a o) a u = upd H a u := by
  funext b; unfold upd; split <;> rfl
/-- two objects of different content stand apart -/
theorem ne_of {H : Hp} {a b : Addr} {o u : HO} (h : H a = some o) (h' : H b = some u) (d : o ≠ u) : a ≠ b := by
  intro e; subst e; rw [h] at h'; exact d (Option.some.inj h')
theorem ne_of_none {H : Hp} {a b : Addr} {o : HO} (h : H a = some o) (h' : H b = none) : a ≠ b := by
  intro e; subst e; rw [h] at h'; cases h'

section
variable (P : Program) (w : World)
def ObjOk (H : Hp) (h : Heap) (a : Addr) : HO → Prop
  | .lst xs => xs.length ≤ sizeLine ∧ ∃ (its : List Value) (n : Nat), Vals xs its ∧ h.get? a = some { cls := .type "list", data := .seq its.toArray n }
  | .tup xs => xs.length ≤ sizeLine ∧ ∃ its : List Value, Vals xs its ∧ IsTup h a its.toArray
  | .dK kvs => kvs.length ≤ sizeLine ∧ (a == sysModules) = false ∧ ∃ vs, KV kvs vs ∧ h.DictOf (mixKind P w) a vs
  | .dT kvs => kvs.length ≤ sizeLine ∧ (a == sysModules) = false ∧ ∃ xs : List (List Key × Addr × Value),
      Paired (fun (p : List Key × V) (q : List Key × Addr × Value) => p.1 = q.1 ∧ H q.2.1 = some (.tup (p.1.map kV)) ∧ RelV p.2 q.2.2) kvs xs ∧
      ∃ o es ep, h.get? a = some o ∧ o.ExactDict ∧ o.data = .dict es ep ∧ es.toList = xs.map (entryOfKey (tupleKind (mixKind P w))) ∧ (xs.map (·.1)).Nodup
  | .set S n => h.SetOf (intKind P w) a S n
  | .ins C dx fs => H dx = some (.own a) ∧ fs.length ≤ 1000 ∧ dx ≠ a ∧ h.get? a = some (PySem.W.instObj C dx) ∧
      ∃ mA, h.Ns1 dx mA ∧ (∀ f, RelO (fs.lookup f) (mA f)) ∧ PySem.Within mA (fs.map (·.1))
  | .own _ => ∃ o, h.get? a = some o
  | .xd fs => ∃ mA, h.Ns1 a mA ∧ ∀ f, RelO (fs.lookup f) (mA f)
  | .rng lo hi => ∃ t u v, h.get? a = some { cls := .type "range", data := .fields #[.int lo t, .int hi u, .int 1 v] }
  | .frz o u => h.get? a = some o ∧ ObjOk H h a u
  | .tbl ps => h.get? a = some { cls := .none, data := .fields ps }
  | .met f x => h.get? a = some (PySem.W.methodObj (.ref f) (.ref x))
  | .ext φ => φ h ∧ (∃ o, h.get? a = some o) ∧ ∀ h1 h2 : Heap, φ h1 → (∀ o, h1.get? a = some o → h2.get? a = some o) → φ h2
/-- the abstract heap is held -/
def HOk (H : Hp) (h : Heap) : Prop := ∀ a o, H a = some o → ObjOk P w H h a o
end

section
variable {P : Program} {w : World} {H H' : Hp} {h h' : Heap} {a : Addr} {o : HO}
theorem ObjOk.lt (x : ObjOk P w H h a o) : a < h.objs.size := by
  cases o with
  | lst xs => obtain ⟨_, _, _, _, e⟩ := x; exact Heap.lt_size e
  | tup xs => obtain ⟨_, _, _, p⟩ := x; exact p.lt
  | dK kvs => obtain ⟨_, _, _, _, o, _, _, e, _⟩ := x; exact Heap.lt_size e
  | dT kvs => obtain ⟨_, _, _, _, o, _, _, e, _⟩ := x; exact Heap.lt_size e
  | set S n => obtain ⟨o, _, _, _, e, _⟩ := x; exact Heap.lt_size e
  | ins C dx fs => obtain ⟨_, _, _, e, _⟩ := x; exact Heap.lt_size e
  | own y => obtain ⟨_, e⟩ := x; exact Heap.lt_size e
  | xd fs => obtain ⟨_, ⟨_, _, _, e, _⟩, _⟩ := x; exact Heap.lt_size e
  | rng lo hi => obtain ⟨_, _, _, e⟩ := x; exact Heap.lt_size e
  | frz ob u => obtain ⟨e, _⟩ := x; exact Heap.lt_size e
  | tbl ps => exact Heap.lt_size (show h.get? a = some _ from x)
  | met f y => exact Heap.lt_size (show h.get? a = some _ from x)
  | ext φ => obtain ⟨_, ⟨_, e⟩, _⟩ := x; exact Heap.lt_size e
theorem Paired.mapP {α β : Type} {F G : α → β → Prop} : ∀ {l₁ : List α} {l₂ : List β}, Paired F l₁ l₂ → (∀ a b, F a b → G a b) → Paired G l₁ l₂
  | _, _, .nil, _ => .nil
  | _, _, .cons r t, f => .cons (f _ _ r) (Paired.mapP t f)
theorem Paired.imp' {α β : Type} {F G : α → β → Prop} (f : ∀ a b, F a b → G a b) {l₁ : List α} {l₂ : List β} (r : Paired F l₁ l₂) : Paired G l₁ l₂ := Paired.mapP r f
/-- what an object's description leans on: its own object, its own dict, the tuples -/
theorem ObjOk.stay (x : ObjOk P w H h a o) (k : ∀ b u, (b = a ∨ H b = some (.own a)) → h.get? b = some u → h'.get? b = some u)
    (ho : ∀ b, H b = some (.own a) → H' b = some (.own a)) (ht : ∀ b xs, H b = some (.tup xs) → H' b = some (.tup xs)) : ObjOk P w H' h' a o := by
  induction o with
  | lst xs => obtain ⟨z, its, n, r, e⟩ := x; exact ⟨z, its, n, r, k _ _ (.inl rfl) e⟩
  | tup xs => obtain ⟨z, its, r, ob, e, c⟩ := x; exact ⟨z, its, r, ob, k _ _ (.inl rfl) e, c⟩
  | dK kvs => obtain ⟨z, y, vs, r, ob, es, ep, e, c⟩ := x; exact ⟨z, y, vs, r, ob, es, ep, k _ _ (.inl rfl) e, c⟩
  | dT kvs =>
    obtain ⟨z, y, xs, r, ob, es, ep, e, c⟩ := x
    exact ⟨z, y, xs, Paired.mapP r fun p q z => ⟨z.1, ht _ _ z.2.1, z.2.2⟩, ob, es, ep, k _ _ (.inl rfl) e, c⟩
  | set S n => obtain ⟨ob, es, ep, t, e, c⟩ := x; exact ⟨ob, es, ep, t, k _ _ (.inl rfl) e, c⟩
  | ins C dx fs =>
    obtain ⟨d, z, ne, e, mA, ⟨od, es, ep, e2, c⟩, r⟩ := x
    exact ⟨ho _ d, z, ne, k _ _ (.inl rfl) e, mA, ⟨od, es, ep, k _ _ (.inr d) e2, c⟩, r⟩
  | own y => obtain ⟨ob, e⟩ := x; exact ⟨ob, k _ _ (.inl rfl) e⟩
  | xd fs => obtain ⟨mA, ⟨od, es, ep, e, c⟩, r⟩ := x; exact ⟨mA, ⟨od, es, ep, k _ _ (.inl rfl) e, c⟩, r⟩
  | rng lo hi => obtain ⟨t, u, v, e⟩ := x; exact ⟨t, u, v, k _ _ (.inl rfl) e⟩
  | frz ob u ih => obtain ⟨e, q⟩ := x; exact ⟨k _ _ (.inl rfl) e, ih q⟩
  | tbl ps =>
    have e : h.get? a = some { cls := .none, data := .fields ps } := x
    show h'.get? a = some { cls := .none, data := .fields ps }
    exact k a _ (.inl rfl) e
  | met f y =>
    have e : h.get? a = some (PySem.W.methodObj (.ref f) (.ref y)) := x
    show h'.get? a = some (PySem.W.methodObj (.ref f) (.ref y))
    exact k a _ (.inl rfl) e
  | ext φ => obtain ⟨p, ⟨o, e⟩, st⟩ := x; exact ⟨st _ _ p fun o q => k _ _ (.inl rfl) q, ⟨o, k _ _ (.inl rfl) e⟩, st⟩
theorem HOk.lt (x : HOk P w H h) (e : H a = some o) : a < h.objs.size := (x a o e).lt
theorem HOk.fresh (x : HOk P w H h) (e : h.objs.size ≤ a) : H a = none := by
  cases q : H a with
  | none => rfl
  | some u => exact absurd (Nat.lt_of_lt_of_le (x.lt q) e) (Nat.lt_irrefl _)
/-- every object of the heap is kept -/
theorem HOk.kept (x : HOk P w H h) (k : ∀ b u, h.get? b = some u → h'.get? b = some u) : HOk P w H h' := fun a o e =>
  (x a o e).stay (fun b u _ q => k b u q) (fun _ q => q) fun _ _ q => q
/-- a new object is laid and tracked -/
theorem HOk.laid (x : HOk P w H h) (k : ∀ b u, h.get? b = some u → h'.get? b = some u) (hp : h.objs.size ≤ a) (new : ObjOk P w (upd H a o) h' a o) : HOk P w (upd H a o) h' := fun b u e => by
  have hn := x.fresh hp
  by_cases hb : b = a
  · subst hb; rw [upd_same] at e; cases e; exact new
  · rw [upd_ne hb] at e
    exact (x b u e).stay (fun c v _ q => k c v q) (fun c q => by rw [upd_ne (ne_of_none q hn)]; exact q) fun c xs q => by rw [upd_ne (ne_of_none q hn)]; exact q
end

/-- what may be read as u: it is u, or a known u -/
def Rd (H : Hp) (a : Addr) (u : HO) : Prop := H a = some u ∨ ∃ o, H a = some (.frz o u)
theorem Rd.ok {P : Program} {w : World} {H : Hp} {h : Heap} {a : Addr} {u : HO} (r : Rd H a u) (x : HOk P w H h) : ObjOk P w H h a u := by
  rcases r with r | ⟨o, r⟩
  · exact x a u r
  · obtain ⟨_, q⟩ := x a _ r
    exact q
/-- what may be written -/
def Mut : Option HO → Prop
  | some (.lst _) => True
  | some (.dK _) => True
  | some (.dT _) => True
  | some (.set _ _) => True
  | some (.ins _ _ _) => True
  | some (.ext _) => True
  | _ => False
section
variable {P : Program} {w : World} {H : Hp} {h h' : Heap} {x e : Addr} {o' : HO}
/-- the object at e is changed: x itself, or the dict of the instance x -/
theorem HOk.write (ok : HOk P w H h) (mu : Mut (H x)) (he : e = x ∨ H e = some (.own x)) (k : ∀ b u, b ≠ e → h.get? b = some u → h'.get? b = some u) (heo : ∃ u, h'.get? e = some u)
    (new : ObjOk P w (upd H x o') h' x o') : HOk P w (upd H x o') h' := fun b u q => by
  have nown : ∀ c y, H c = some (.own y) → c ≠ x := fun c y r z => by subst z; rw [r] at mu; exact mu
  have ntup : ∀ c xs, H c = some (.tup xs) → c ≠ x := fun c xs r z => by subst z; rw [r] at mu; exact mu
  by_cases hb : b = x
  · subst hb; rw [upd_same] at q; cases q; exact new
  · rw [upd_ne hb] at q
    by_cases hbe : b = e
    · have q' : H b = some (.own x) := by
        rcases he with z | z
        · exact absurd (hbe.trans z) hb
        · rw [hbe]; exact z
      rw [q] at q'; cases q'
      obtain ⟨v, hv⟩ := heo
      exact ⟨v, by rw [hbe]; exact hv⟩
    · refine (ok b u q).stay (fun c v hc r => k c v ?_ r) (fun c r => by rw [upd_ne (nown c b r)]; exact r) fun c xs r => by rw [upd_ne (ntup c xs r)]; exact r
      rcases hc with rfl | hc
      · exact hbe
      · rintro rfl
        rcases he with z | z
        · exact nown c b hc z
        · rw [hc] at z; cases z; exact hb rfl
end

/-! ### kept unless tracked; of the frames at fs (the callers') the slots may change (an exception that passes writes there); of the records at ex (iterators) nothing is said -/
structure Un (fs ex : List Addr) (H H' : Hp) (h h' : Heap) : Prop where
  keep : ∀ b o, h.get? b = some o → H b = none → b ∉ fs → b ∉ ex → h'.get? b = some o
  slot : ∀ b o, h.get? b = some o → H b = none → b ∈ fs → b ∉ ex → ∃ sl, h'.get? b = some { o with slots := sl }
  free : ∀ b o, h.get? b = some o → H b = none → b ∉ ex → H' b = none
  there : ∀ b o, h.get? b = some o → b ∉ ex → ∃ o', h'.get? b = some o'
  tups : ∀ b xs, H b = some (.tup xs) → H' b = some (.tup xs)
  frzs : ∀ b o u, H b = some (.frz o u) → H' b = some (.frz o u)
  tbls : ∀ b ps, H b = some (.tbl ps) → ∃ more, H' b = some (.tbl (ps ++ more))
section
variable {fs fs' ex ex' : List Addr} {H H1 H2 : Hp} {h h1 h2 h' : Heap} {a x e : Addr} {o : HO}
theorem Un.any (u : Un fs ex H H1 h h1) {b : Addr} {ob : Obj} (q : h.get? b = some ob) (n : H b = none) (hx : b ∉ ex) : ∃ sl, h1.get? b = some { ob with slots := sl } := by
  by_cases hb : b ∈ fs
  · exact u.slot b ob q n hb hx
  · exact ⟨ob.slots, u.keep b ob q n hb hx⟩
theorem Un.kept (k : ∀ b u, h.get? b = some u → h'.get? b = some u) : Un fs ex H H h h' :=
  ⟨fun b ob q _ _ _ => k b ob q, fun b ob q _ _ _ => ⟨ob.slots, k b ob q⟩, fun _ _ _ n _ => n, fun b ob q _ => ⟨ob, k b ob q⟩, fun _ _ q => q, fun _ _ _ q => q, fun _ ps q => ⟨#[], by rw [q]; simp⟩⟩
theorem Un.refl : Un fs ex H H h h := Un.kept fun _ _ q => q
theorem Un.laid (k : ∀ b u, h.get? b = some u → h'.get? b = some u) (hp : h.objs.size ≤ a) (hn : H a = none) : Un fs ex H (upd H a o) h h' where
  keep := fun b u q _ _ _ => k b u q
  slot := fun b u q _ _ _ => ⟨u.slots, k b u q⟩
  free := fun b u q n _ => by rw [upd_ne (Nat.ne_of_lt (Nat.lt_of_lt_of_le (Heap.lt_size q) hp))]; exact n
  there := fun b u q _ => ⟨u, k b u q⟩
  tups := fun b xs q => by rw [upd_ne (ne_of_none q hn)]; exact q
  frzs := fun b u xs q => by rw [upd_ne (ne_of_none q hn)]; exact q
  tbls := fun b ps q => ⟨#[], by rw [upd_ne (ne_of_none q hn), q]; simp⟩
theorem Un.write (mu : Mut (H x)) (he : e = x ∨ H e = some (.own x)) (k : ∀ b u, b ≠ e → h.get? b = some u → h'.get? b = some u) (heo : ∃ u, h'.get? e = some u) : Un fs ex H (upd H x o) h h' := by
  have hx : ∀ b, H b = none → b ≠ x := fun b n z => by subst z; rw [n] at mu; exact mu
  have hb : ∀ b, H b = none → b ≠ e := fun b n z => by
    subst z
    rcases he with r | r
    · exact hx b n r
    · rw [n] at r; cases r
  have hm : ∀ b u, H b = some u → ¬ Mut (some u) → b ≠ x := fun b u q nm z => by subst z; rw [q] at mu; exact nm mu
  refine ⟨fun b u q n _ _ => k b u (hb b n) q, fun b u q n _ _ => ⟨u.slots, k b u (hb b n) q⟩, fun b u q n _ => by rw [upd_ne (hx b n)]; exact n, fun b u q _ => ?_,
    fun b xs q => by rw [upd_ne (hm b _ q fun z => z)]; exact q, fun b u xs q => by rw [upd_ne (hm b _ q fun z => z)]; exact q, fun b ps q => ⟨#[], by rw [upd_ne (hm b _ q fun z => z), q]; simp⟩⟩
  by_cases hbe : b = e
  · subst hbe; exact heo
  · exact ⟨u, k b u hbe q⟩
end

/-! ### the heap without what is tracked -/
def trk (h : Heap) (H : Hp) : List Addr := (List.range h.objs.size).filter fun a => (H a).isSome
def hidT (h : Heap) (H : Hp) : Heap := PySem.W.hideAll h (trk h H)
theorem hidT_size (h : Heap) (H : Hp) : (hidT h H).objs.size = h.objs.size := PySem.W.hideAll_size _ _
theorem hidT_get {h : Heap} {H : Hp} {b : Addr} {o : Obj} (e : h.get? b = some o) (n : H b = none) : (hidT h H).get? b = some o :=
  PySem.W.hideAll_get _ e fun hm => by
    have q : (H b).isSome = true := (List.mem_filter.mp hm).2
    rw [n] at q; simp at q
theorem of_hidT {h : Heap} {H : Hp} {b : Addr} {o : Obj} (e : (hidT h H).get? b = some o) : h.get? b = some o ∧ H b = none := by
  have e' : h.get? b = some o := PySem.W.of_hideAll (trk h H) e
  refine ⟨e', ?_⟩
  cases q : H b with
  | none => rfl
  | some x =>
    have hm : b ∈ trk h H := List.mem_filter.mpr ⟨List.mem_range.mpr (Heap.lt_size e'), by simp [q]⟩
    have z : (hidT h H).get? b = none := PySem.W.hideAll_none (trk h H) hm
    rw [z] at e; cases e

/-! ### OpenK's ledger, filled with every new object but one -/
end L2

namespace L2
open PySem PySem.Spec PyProof.Rows

/-- the module's facts, over the base: the heap at the law's entry without what is tracked there -/
structure Mod (K : PySem.W.Frag) (mg : Str → Option Value) (base : Heap) : Prop where
  kin : K.In base
  glob : base.Ns mainGlobals mg
  blt : ∃ mb, base.Ns builtinsNs mb ∧ ∀ x : Str, x ≠ "__name__" → mb x = bootBuiltins x
  nolimit : base.NoLimit

/-- the context: a def's body (or a comprehension's block) running. base: fixed through the whole law; s₀, H₀: the entry; outer: the frames whose slots others may change (a def's callers); stack: all frames that run;
   ex: iterators that were made ahead of the entry and are walked here (a comprehension's); fn: the names whose cells were made at the entry (a def: all; a comprehension's block: its own); calm: not within an except suite; pn: pins that every state bears; xe: what is wanted of an exception that leaves the code -/
structure Cx where
  prog : Program
  w : World
  K : PySem.W.Frag
  mg : Str → Option Value
  base : Heap
  A : Around
  N : List Str
  s₀ : Shared
  H₀ : Hp
  env : Env
  outer : List Env
  stack : List Env
  ex : List Addr
  fn : Str → Bool
  calm : Bool
  pn : List (Addr × Obj)
  xe : Value → Shared → Prop
/-- the callers' frames -/
def frs (l : List Env) : List Addr := l.filterMap (·.frame)
abbrev Cx.fs (X : Cx) : List Addr := frs X.outer

def Vis (sc : Scope) (x : Str) : Prop := sc.names.lookup x = some .local ∨ sc.names.lookup x = some .cell ∨ sc.names.lookup x = some .free
def Loc (sc : Scope) (x : Str) : Prop := sc.names.lookup x = some .local ∨ sc.names.lookup x = some .cell
def Look (env : Env) (h : Heap) (m : Str → Option Value) (x : Str) (u : Value) : Prop :=
  (env.kindOf x = some .local ∧ m x = some u) ∨ ((env.kindOf x = some .cell ∨ env.kindOf x = some .free) ∧ ∃ c, env.cells.lookup x = some c ∧ h.IsCell c (some u))

structure Cx.Ok (X : Cx) : Prop where
  mod : Mod X.K X.mg X.base
  kind : X.env.scope.kind = .function
  glob : X.env.globals = mainGlobals
  blt : X.env.builtins = builtinsNs
  above : X.s₀.heap.objs.size ≤ X.env.locals
  inj : ∀ x y c, X.env.cells.lookup x = some c → X.env.cells.lookup y = some c → x = y
  has : ∀ x, (X.env.kindOf x = some .cell ∨ X.env.kindOf x = some .free) → ∃ c, X.env.cells.lookup x = some c
  cab : ∀ x c, X.fn x = true → X.env.cells.lookup x = some c → X.s₀.heap.objs.size ≤ c
  hd : X.calm = true → X.A.handled = none
  frames : X.A.frames = some X.stack
  stk : X.stack = X.outer ∨ (X.stack = X.env :: X.outer ∧ X.env.frame = some X.env.locals)
  exf : ∀ b ∈ X.ex, b ≠ X.env.locals ∧ ∀ x c, X.env.cells.lookup x = some c → c ≠ b
  bs : ∀ b o, X.base.get? b = some o → X.s₀.heap.get? b = some o ∧ X.H₀ b = none
  bsz : X.base.objs.size ≤ X.s₀.heap.objs.size
  noex : ∀ b o, X.base.get? b = some o → b ∉ X.ex
  exfs : ∀ b ∈ X.ex, b ∉ X.fs
  funs : X.s₀.heap.FunFrames X.base X.outer
  frf : ∀ b ∈ X.fs, X.H₀ b = none

structure Inv (X : Cx) (pins : List (Addr × Obj)) (σ : List (Option V)) (H : Hp) (s : Shared) : Prop where
  ok : X.Ok
  os : s.os = X.s₀.os
  bare : AllBare s.gens
  base : Un X.fs X.ex X.H₀ H X.s₀.heap s.heap
  loc : ∃ m, s.heap.Ns X.env.locals m ∧ ∀ (i : Nat) (x : Str) (v : V), X.N[i]? = some x → σ[i]? = some (some v) → Vis X.env.scope x → ∃ u, RelV v u ∧ Look X.env s.heap m x u
  cell : ∀ x c, X.env.cells.lookup x = some c → ∃ v, s.heap.IsCell c v
  free : H X.env.locals = none
  freeC : ∀ x c, X.env.cells.lookup x = some c → H c = none
  pin : ∀ p ∈ X.pn ++ pins, s.heap.get? p.1 = some p.2 ∧ H p.1 = none ∧ p.1 ≠ X.env.locals ∧ p.1 ∉ X.fs ∧ ∀ v, p.2.data ≠ .cell v
  hok : HOk X.prog X.w H s.heap
  len : σ.length = X.N.length

section
variable {X : Cx} {pins : List (Addr × Obj)} {σ : List (Option V)} {H H' : Hp} {s : Shared} {h' : Heap}

theorem Cx.Ok.nofr (ok : X.Ok) {b : Addr} {o : Obj} (e : X.base.get? b = some o) : b ∉ X.fs := fun hb => by
  have := (ok.funs.mem hb).1
  rw [e] at this; cases this
theorem Inv.bs (I : Inv X pins σ H s) : ∀ b o, X.base.get? b = some o → s.heap.get? b = some o ∧ H b = none := fun b o e =>
  ⟨I.base.keep b o (I.ok.bs b o e).1 (I.ok.bs b o e).2 (I.ok.nofr e) (I.ok.noex b o e), I.base.free b o (I.ok.bs b o e).1 (I.ok.bs b o e).2 (I.ok.noex b o e)⟩
theorem Inv.bk (I : Inv X pins σ H s) : ∀ b o, X.base.get? b = some o → s.heap.get? b = some o := fun b o e => (I.bs b o e).1
theorem Inv.mod (I : Inv X pins σ H s) : Mod X.K X.mg X.base := I.ok.mod
theorem Inv.kIn (I : Inv X pins σ H s) : X.K.In s.heap := I.ok.mod.kin.keeps I.bk
theorem Inv.lt (I : Inv X pins σ H s) : X.env.locals < s.heap.objs.size := let ⟨_, hn, _⟩ := I.loc; hn.lt
theorem Inv.sz (I : Inv X pins σ H s) : X.s₀.heap.objs.size ≤ s.heap.objs.size := Nat.le_trans I.ok.above (Nat.le_of_lt I.lt)
theorem Inv.nofs (I : Inv X pins σ H s) {a : Addr} (h : s.heap.objs.size ≤ a) : a ∉ X.fs := fun hb => by
  obtain ⟨_, o, ho, _⟩ := I.ok.funs.mem hb
  exact absurd (Nat.lt_of_lt_of_le (Heap.lt_size ho) (Nat.le_trans I.sz h)) (Nat.lt_irrefl _)
theorem Inv.cne (I : Inv X pins σ H s) : ∀ x c, X.env.cells.lookup x = some c → c ≠ X.env.locals := fun x c e z => by
  obtain ⟨v, o, ho, hd⟩ := I.cell x c e
  obtain ⟨m, ⟨o', es, ep, ho', hd', _⟩, _⟩ := I.loc
  rw [z, ho'] at ho; cases ho; rw [hd'] at hd; cases hd
theorem Inv.funs (I : Inv X pins σ H s) : s.heap.FunFrames X.base X.outer := by
  have all : ∀ (l : List Env), (∀ b ∈ frs l, b ∈ X.fs) → X.s₀.heap.FunFrames X.base l → s.heap.FunFrames X.base l := by
    intro l
    induction l with
    | nil => intro _ _; trivial
    | cons env r ih =>
      intro hs hl
      obtain ⟨hk, ⟨L, o, hf, hn, ho, hd⟩, hr⟩ := hl
      have hL : L ∈ X.fs := hs L (by unfold frs; rw [List.filterMap_cons, hf]; exact List.mem_cons_self)
      obtain ⟨sl, e⟩ := I.base.slot L o ho (I.ok.frf L hL) hL fun z => I.ok.exfs L z hL
      exact ⟨hk, ⟨L, _, hf, hn, e, hd⟩, ih (fun b hb => hs b (by unfold frs; rw [List.filterMap_cons, hf]; exact List.mem_cons_of_mem _ hb)) hr⟩
  exact all X.outer (fun _ hb => hb) I.ok.funs

/-- the frames that run, for a call -/
theorem Inv.stack (I : Inv X pins σ H s) : s.heap.FunFrames X.base X.stack := by
  rcases I.ok.stk with e | ⟨e, hf⟩
  · rw [e]; exact I.funs
  · rw [e]
    obtain ⟨m, hn, _⟩ := I.loc
    refine .cons (by rw [I.ok.kind]; decide) hf hn ?_ I.funs
    exact Heap.get?_none_of_le (Nat.le_trans I.ok.bsz I.ok.above)
theorem Inv.stkSub (I : Inv X pins σ H s) : ∀ b ∈ frs X.stack, b ∈ X.env.locals :: X.fs := fun b hb => by
  rcases I.ok.stk with e | ⟨e, hf⟩
  · rw [e] at hb; exact List.mem_cons_of_mem _ hb
  · rw [e] at hb
    unfold frs at hb
    rw [List.filterMap_cons, hf] at hb
    exact hb
theorem Inv.stkFree (I : Inv X pins σ H s) : ∀ b ∈ frs X.stack, H b = none := fun b hb => by
  rcases List.mem_cons.mp (I.stkSub b hb) with e | hb
  · rw [e]; exact I.free
  · obtain ⟨_, o, ho, _⟩ := I.ok.funs.mem hb
    exact I.base.free b o ho (I.ok.frf b hb) fun z => I.ok.exfs b z hb

/-- THE STEP: the untracked objects but the frame and the records at ch are kept (the callers' frames up to slots), the frame's map is kept, the new abstract heap is held -/
theorem Inv.step {g' : Array GenState} {t' : Nat} {d' : Drawn} {ch : List Addr} (I : Inv X pins σ H s)
    (hch : ∀ b ∈ ch, (b ∈ X.ex ∨ X.s₀.heap.objs.size ≤ b) ∧ b ≠ X.env.locals ∧ (∀ x c, X.env.cells.lookup x = some c → c ≠ b) ∧ ∀ p ∈ X.pn ++ pins, p.1 ≠ b)
    (keep : ∀ b o, b ≠ X.env.locals → b ∉ X.fs → b ∉ ch → s.heap.get? b = some o → H b = none → h'.get? b = some o)
    (slot : ∀ b o, b ≠ X.env.locals → b ∈ X.fs → b ∉ ch → s.heap.get? b = some o → H b = none → ∃ sl, h'.get? b = some { o with slots := sl }) (free : ∀ b o, b ∉ ch → s.heap.get? b = some o → H b = none → H' b = none)
    (there : ∀ b o, b ∉ ch → s.heap.get? b = some o → ∃ o', h'.get? b = some o')
    (tups : ∀ b xs, H b = some (.tup xs) → H' b = some (.tup xs)) (frzs : ∀ b o u, H b = some (.frz o u) → H' b = some (.frz o u)) (tbls : ∀ b ps, H b = some (.tbl ps) → ∃ more, H' b = some (.tbl (ps ++ more)))
    (ns : ∀ m, s.heap.Ns X.env.locals m → h'.Ns X.env.locals m) (hok : HOk X.prog X.w H' h') (hg : AllBare g') :
    Inv X pins σ H' { s with heap := h', gens := g', drawn := d', toks := t' } := by
  have neL : ∀ b o, X.s₀.heap.get? b = some o → b ≠ X.env.locals := fun b o e => Nat.ne_of_lt (Nat.lt_of_lt_of_le (Heap.lt_size e) I.ok.above)
  have neC : ∀ b o, X.s₀.heap.get? b = some o → b ∉ X.ex → b ∉ ch := fun b o e hx hb => by
    rcases (hch b hb).1 with z | z
    · exact hx z
    · exact absurd (Nat.lt_of_lt_of_le (Heap.lt_size e) z) (Nat.lt_irrefl _)
  have cellK : ∀ x c, X.env.cells.lookup x = some c → ∀ v, s.heap.IsCell c v → h'.IsCell c v := fun x c e v ⟨o, ho, hd⟩ => by
    have nch : c ∉ ch := fun z => (hch c z).2.2.1 x c e rfl
    by_cases hc : c ∈ X.fs
    · obtain ⟨sl, q⟩ := slot c o (I.cne x c e) hc nch ho (I.freeC x c e)
      exact ⟨_, q, hd⟩
    · exact ⟨o, keep c o (I.cne x c e) hc nch ho (I.freeC x c e), hd⟩
  refine ⟨I.ok, I.os, hg, ⟨fun b o e n hb hx => ?_, fun b o e n hb hx => ?_, fun b o e n hx => ?_, fun b o e hx => ?_, fun b xs e => tups b xs (I.base.tups b xs e), fun b o xs e => frzs b o xs (I.base.frzs b o xs e), fun b ps e => ?_⟩, ?_, fun x c e => ?_, ?_, fun x c e => ?_, fun p hp => ?_, hok, I.len⟩
  · exact keep b o (neL b o e) hb (neC b o e hx) (I.base.keep b o e n hb hx) (I.base.free b o e n hx)
  · obtain ⟨sl, e1⟩ := I.base.slot b o e n hb hx
    obtain ⟨sl', e2⟩ := slot b _ (neL b o e) hb (neC b o e hx) e1 (I.base.free b o e n hx)
    exact ⟨sl', e2⟩
  · obtain ⟨o', e1⟩ := I.base.there b o e hx
    exact free b o' (neC b o e hx) e1 (I.base.free b o e n hx)
  · obtain ⟨o', e1⟩ := I.base.there b o e hx
    exact there b o' (neC b o e hx) e1
  · obtain ⟨m1, e1⟩ := I.base.tbls b ps e
    obtain ⟨m2, e2⟩ := tbls b _ e1
    exact ⟨m1 ++ m2, by rw [e2, Array.append_assoc]⟩
  · obtain ⟨m, hn, hl⟩ := I.loc
    refine ⟨m, ns m hn, fun i x v e1 e2 e3 => ?_⟩
    obtain ⟨u, r, l⟩ := hl i x v e1 e2 e3
    refine ⟨u, r, ?_⟩
    rcases l with l | ⟨k, c, e, z⟩
    · exact .inl l
    · exact .inr ⟨k, c, e, cellK x c e _ z⟩
  · obtain ⟨v, z⟩ := I.cell x c e
    exact ⟨v, cellK x c e v z⟩
  · obtain ⟨m, ⟨o, _, _, ho, _⟩, _⟩ := I.loc
    exact free _ o (fun z => (hch _ z).2.1 rfl) ho I.free
  · obtain ⟨v, o, ho, hd⟩ := I.cell x c e
    exact free c o (fun z => (hch c z).2.2.1 x c e rfl) ho (I.freeC x c e)
  · obtain ⟨e, n, ne, nf, d⟩ := I.pin p hp
    have nch : p.1 ∉ ch := fun z => (hch p.1 z).2.2.2 p hp rfl
    exact ⟨keep p.1 p.2 ne nf nch e n, free p.1 p.2 nch e n, ne, nf, d⟩
/-- .. where the frame's own object is kept too -/
theorem Inv.un {t' : Nat} (I : Inv X pins σ H s) (u : Un X.fs [] H H' s.heap h') (hok : HOk X.prog X.w H' h') : Inv X pins σ H' { s with heap := h', toks := t' } := by
  obtain ⟨m, ⟨o, es, ep, ho, r⟩, _⟩ := id I.loc
  obtain ⟨sl, hL⟩ := u.any ho I.free (by simp)
  exact I.step (g' := s.gens) (d' := s.drawn) (ch := []) (fun _ z => nomatch z) (fun b o _ hb _ e n => u.keep b o e n hb (by simp)) (fun b o _ hb _ e n => u.slot b o e n hb (by simp)) (fun b o _ e n => u.free b o e n (by simp)) (fun b o _ e => u.there b o e (by simp)) u.tups u.frzs u.tbls (fun m' hm => by
    obtain ⟨o', es', ep', ho', r'⟩ := hm
    rw [ho] at ho'; cases ho'
    exact ⟨_, es', ep', hL, r'⟩) hok I.bare
/-- behind a call (or a comprehension's block): the slots of this frame may have changed too, the records at ch may have turned -/
theorem Inv.call {g' : Array GenState} {t' : Nat} {d' : Drawn} {ch : List Addr} (I : Inv X pins σ H s) (u : Un (frs X.stack) ch H H' s.heap h') (hok : HOk X.prog X.w H' h') (hg : AllBare g')
    (hch : ∀ b ∈ ch, (b ∈ X.ex ∨ X.s₀.heap.objs.size ≤ b) ∧ b ≠ X.env.locals ∧ (∀ x c, X.env.cells.lookup x = some c → c ≠ b) ∧ ∀ p ∈ X.pn ++ pins, p.1 ≠ b) :
    Inv X pins σ H' { s with heap := h', gens := g', drawn := d', toks := t' } := by
  obtain ⟨m, ⟨o, es, ep, ho, r⟩, _⟩ := id I.loc
  obtain ⟨sl, hL⟩ := u.any ho I.free fun z => (hch _ z).2.1 rfl
  exact I.step (ch := ch) hch (fun b o hL hb hc e n => u.keep b o e n (fun z => (List.mem_cons.mp (I.stkSub b z)).elim hL hb) hc) (fun b o _ _ hc e n => u.any e n hc) (fun b o hc e n => u.free b o e n hc) (fun b o hc e => u.there b o e hc) u.tups u.frzs u.tbls (fun m' hm => by
    obtain ⟨o', es', ep', ho', r'⟩ := hm
    rw [ho] at ho'; cases ho'
    exact ⟨_, es', ep', hL, r'⟩) hok hg
/-- an untracked record of ours (an iterator) has turned -/
theorem Inv.turned {t' : Nat} {it : Addr} (I : Inv X pins σ H s) (k : ∀ b o, b ≠ it → s.heap.get? b = some o → h'.get? b = some o) (hn : H it = none) (hL : it ≠ X.env.locals)
    (h1 : it ∈ X.ex ∨ X.s₀.heap.objs.size ≤ it) (h2 : ∀ x c, X.env.cells.lookup x = some c → c ≠ it) (h3 : ∀ p ∈ X.pn ++ pins, p.1 ≠ it) : Inv X pins σ H { s with heap := h', toks := t' } := by
  have nit : ∀ b u, H b = some u → b ≠ it := fun b u e z => by rw [z, hn] at e; cases e
  refine I.step (g' := s.gens) (d' := s.drawn) (ch := [it]) (fun b hb => ?_) (fun b o _ _ hc e _ => k b o (fun z => hc (by simp [z])) e) (fun b o _ _ hc e _ => ⟨o.slots, k b o (fun z => hc (by simp [z])) e⟩) (fun _ _ _ _ n => n)
    (fun b o hc e => ⟨o, k b o (fun z => hc (by simp [z])) e⟩) (fun _ _ e => e) (fun _ _ _ e => e) (fun b ps e => ⟨#[], by rw [e]; simp⟩) (fun m hm => ?_) (fun b u e => ?_) I.bare
  · have e : b = it := by simpa using hb
    subst e
    exact ⟨h1, hL, h2, h3⟩
  · obtain ⟨o, es, ep, ho, r⟩ := hm
    exact ⟨o, es, ep, k _ o (Ne.symm hL) ho, r⟩
  · refine (I.hok b u e).stay (fun c v hc q => k c v ?_ q) (fun _ q => q) fun _ _ q => q
    rcases hc with z | z
    · rw [z]; exact nit b u e
    · exact nit c _ z
theorem Inv.tok (I : Inv X pins σ H s) (t : Nat) : Inv X pins σ H { s with toks := t } := I.un (h' := s.heap) (t' := t) Un.refl I.hok
/-- all objects kept -/
theorem Inv.kept {t' : Nat} (I : Inv X pins σ H s) (k : ∀ b u, s.heap.get? b = some u → h'.get? b = some u) : Inv X pins σ H { s with heap := h', toks := t' } := I.un (Un.kept k) (I.hok.kept k)
/-- a new object laid and tracked -/
theorem Inv.laid {a : Addr} {o : HO} {t' : Nat} (I : Inv X pins σ H s) (k : ∀ b u, s.heap.get? b = some u → h'.get? b = some u) (hp : s.heap.objs.size ≤ a) (new : ObjOk X.prog X.w (upd H a o) h' a o) :
    Inv X pins σ (upd H a o) { s with heap := h', toks := t' } := I.un (Un.laid k hp (I.hok.fresh hp)) (I.hok.laid k hp new)
/-- an object written -/
theorem Inv.write {x e : Addr} {o : HO} {t' : Nat} (I : Inv X pins σ H s) (mu : Mut (H x)) (he : e = x ∨ H e = some (.own x)) (k : ∀ b u, b ≠ e → s.heap.get? b = some u → h'.get? b = some u) (heo : ∃ u, h'.get? e = some u)
    (new : ObjOk X.prog X.w (upd H x o) h' x o) : Inv X pins σ (upd H x o) { s with heap := h', toks := t' } := I.un (Un.write mu he k heo) (I.hok.write mu he k heo new)
theorem Inv.pins_of {pins' : List (Addr × Obj)} (I : Inv X pins σ H s) (h : ∀ p ∈ pins', s.heap.get? p.1 = some p.2 ∧ H p.1 = none ∧ p.1 ≠ X.env.locals ∧ p.1 ∉ X.fs ∧ ∀ v, p.2.data ≠ .cell v) : Inv X pins' σ H s :=
  ⟨I.ok, I.os, I.bare, I.base, I.loc, I.cell, I.free, I.freeC, fun p hp => (List.mem_append.mp hp).elim (fun z => I.pin p (List.mem_append_left _ z)) (h p), I.hok, I.len⟩

theorem nodup_ix {N : List Str} (hN : N.Nodup) {i j : Nat} {x : Str} (a : N[i]? = some x) (b : N[j]? = some x) : i = j := by
  obtain ⟨h1, e1⟩ := List.getElem?_eq_some_iff.mp a
  obtain ⟨h2, e2⟩ := List.getElem?_eq_some_iff.mp b
  exact (List.getElem_inj hN).mp (e1.trans e2.symm)

/-- a name is stored; what changed -/
theorem store_ok2 {M : Model} {A : Around} {E : Value → Shared → Prop} {i : Nat} {x : Str} {v : V} {u : Value} {Q : Unit → Shared → Prop} (I : Inv X pins σ H s) (hN : X.N.Nodup) (hi : X.N[i]? = some x) (hx : Loc X.env.scope x) (r : RelV v u)
    (h : ∀ s', Inv X pins (σ.set i (some v)) H s' → (∃ a, Heap.SameBut a s.heap s'.heap ∧ (a = X.env.locals ∨ X.env.cells.lookup x = some a)) → Q () s') (hf : X.fn x = true ∨ X.env.scope.names.lookup x = some .local := by first | exact .inl rfl | exact .inr rfl | assumption) : wpAny M A (storeName X.env x u) Q E s := by
  obtain ⟨m, hn, hl⟩ := id I.loc
  have hcls : (X.env.scope.kind == .class || (X.env.scope.kind == .module && X.env.locals != X.env.globals)) = false := by rw [I.ok.kind]; rfl
  have hiσ : i < σ.length := by rw [I.len]; exact (List.getElem?_eq_some_iff.mp hi).1
  have cne := I.cne
  have tracked : ∀ {a : Addr} {h' : Heap}, (∃ o, s.heap.get? a = some o ∧ H a = none) → Heap.SameBut a s.heap h' → HOk X.prog X.w H h' := fun {a h'} ha hs b ob e => by
    obtain ⟨_, _, hfree⟩ := ha
    refine (I.hok b ob e).stay (fun c w' hc q => (hs.2 c ?_).trans q) (fun _ q => q) fun _ _ q => q
    rintro rfl
    rcases hc with rfl | hc
    · rw [hfree] at e; cases e
    · rw [hfree] at hc; cases hc
  rcases hx with hk | hk
  · refine wpAny_storeName_local hk hn (fun h' hn' hs => ?_) hcls
    obtain ⟨oL, _, _, hoL, _⟩ := id hn
    refine h _ ⟨I.ok, I.os, I.bare, ⟨fun b o e n hb hx => ?_, fun b o e n hb hx => ?_, I.base.free, fun b o e hx => ?_, I.base.tups, I.base.frzs, I.base.tbls⟩, ⟨_, hn', fun j y v' e1 e2 e3 => ?_⟩, fun y c e => ?_, I.free, I.freeC, fun p hp => ?_, tracked ⟨oL, hoL, I.free⟩ hs, by simpa using I.len⟩ ⟨_, hs, .inl rfl⟩
    · exact (hs.2 b (Nat.ne_of_lt (Nat.lt_of_lt_of_le (Heap.lt_size e) I.ok.above))).trans (I.base.keep b o e n hb hx)
    · obtain ⟨sl, e1⟩ := I.base.slot b o e n hb hx
      exact ⟨sl, (hs.2 b (Nat.ne_of_lt (Nat.lt_of_lt_of_le (Heap.lt_size e) I.ok.above))).trans e1⟩
    · obtain ⟨o', e1⟩ := I.base.there b o e hx
      exact ⟨o', (hs.2 b (Nat.ne_of_lt (Nat.lt_of_lt_of_le (Heap.lt_size e) I.ok.above))).trans e1⟩
    · by_cases hj : j = i
      · subst hj
        rw [hi] at e1; cases e1
        rw [List.getElem?_set_self hiσ] at e2
        cases e2
        exact ⟨u, r, .inl ⟨hk, by simp⟩⟩
      · rw [List.getElem?_set_ne (Ne.symm hj)] at e2
        obtain ⟨u', r', q⟩ := hl j y v' e1 e2 e3
        refine ⟨u', r', ?_⟩
        rcases q with ⟨k, e⟩ | ⟨k, c, e, z⟩
        · refine .inl ⟨k, ?_⟩
          have : y ≠ x := fun e => hj (nodup_ix hN e1 (e ▸ hi))
          simp [this, e]
        · exact .inr ⟨k, c, e, z.sameBut hs (cne y c e)⟩
    · obtain ⟨w', z⟩ := I.cell y c e
      exact ⟨w', z.sameBut hs (cne y c e)⟩
    · obtain ⟨e, n, ne, nf, d⟩ := I.pin p hp
      exact ⟨(hs.2 p.1 ne).trans e, n, ne, nf, d⟩
  · have hfn : X.fn x = true := by
      rcases hf with z | z
      · exact z
      · rw [z] at hk; cases hk
    obtain ⟨c, hc⟩ := I.ok.has x (.inl hk)
    obtain ⟨w', z⟩ := I.cell x c hc
    refine wpAny_storeName_cell I.ok.kind hk hc z (fun h' hc' hs => ?_)
    obtain ⟨oc, hoc, hocd⟩ := id z
    refine h { s with heap := h' } ⟨I.ok, I.os, I.bare, ⟨fun b o e n hb hx => ?_, fun b o e n hb hx => ?_, I.base.free, fun b o e hx => ?_, I.base.tups, I.base.frzs, I.base.tbls⟩, ⟨m, hn.sameBut hs (Ne.symm (cne x c hc)), fun j y v' e1 e2 e3 => ?_⟩, fun y c' e => ?_, I.free, I.freeC, fun p hp => ?_, tracked ⟨oc, hoc, I.freeC x c hc⟩ hs, by simpa using I.len⟩ ⟨c, hs, .inr hc⟩
    · exact (hs.2 b (Nat.ne_of_lt (Nat.lt_of_lt_of_le (Heap.lt_size e) (I.ok.cab x c hfn hc)))).trans (I.base.keep b o e n hb hx)
    · obtain ⟨sl, e1⟩ := I.base.slot b o e n hb hx
      exact ⟨sl, (hs.2 b (Nat.ne_of_lt (Nat.lt_of_lt_of_le (Heap.lt_size e) (I.ok.cab x c hfn hc)))).trans e1⟩
    · obtain ⟨o', e1⟩ := I.base.there b o e hx
      exact ⟨o', (hs.2 b (Nat.ne_of_lt (Nat.lt_of_lt_of_le (Heap.lt_size e) (I.ok.cab x c hfn hc)))).trans e1⟩
    · by_cases hj : j = i
      · subst hj
        rw [hi] at e1; cases e1
        rw [List.getElem?_set_self hiσ] at e2
        cases e2
        exact ⟨u, r, .inr ⟨.inl hk, c, hc, hc'⟩⟩
      · rw [List.getElem?_set_ne (Ne.symm hj)] at e2
        obtain ⟨u', r', q⟩ := hl j y v' e1 e2 e3
        refine ⟨u', r', ?_⟩
        rcases q with q | ⟨k, c', e, z'⟩
        · exact .inl q
        · refine .inr ⟨k, c', e, z'.sameBut hs ?_⟩
          rintro rfl
          exact hj (nodup_ix hN e1 (I.ok.inj _ _ _ e hc ▸ hi))
    · by_cases hcc : c' = c
      · subst hcc; exact ⟨_, hc'⟩
      · obtain ⟨w2, z2⟩ := I.cell y c' e
        exact ⟨w2, z2.sameBut hs hcc⟩
    · obtain ⟨e, n, ne, nf, d⟩ := I.pin p hp
      refine ⟨(hs.2 p.1 ?_).trans e, n, ne, nf, d⟩
      intro q
      rw [q, hoc] at e
      have q' : oc = p.2 := Option.some.inj e
      exact d w' (by rw [← q']; exact hocd)
theorem store_ok {M : Model} {A : Around} {E : Value → Shared → Prop} {i : Nat} {x : Str} {v : V} {u : Value} {Q : Unit → Shared → Prop} (I : Inv X pins σ H s) (hN : X.N.Nodup) (hi : X.N[i]? = some x) (hx : Loc X.env.scope x) (r : RelV v u)
    (h : ∀ s', Inv X pins (σ.set i (some v)) H s' → Q () s') (hf : X.fn x = true ∨ X.env.scope.names.lookup x = some .local := by first | exact .inl rfl | exact .inr rfl | assumption) : wpAny M A (storeName X.env x u) Q E s :=
  store_ok2 I hN hi hx r (fun s' I' _ => h s' I') hf
/-- behind a call or a block, the state as it is -/
theorem Inv.call' {s' : Shared} {ch : List Addr} (I : Inv X pins σ H s) (ho : s'.os = s.os) (u : Un (frs X.stack) ch H H' s.heap s'.heap) (hok : HOk X.prog X.w H' s'.heap) (hg : AllBare s'.gens)
    (hch : ∀ b ∈ ch, (b ∈ X.ex ∨ X.s₀.heap.objs.size ≤ b) ∧ b ≠ X.env.locals ∧ (∀ x c, X.env.cells.lookup x = some c → c ≠ b) ∧ ∀ p ∈ X.pn ++ pins, p.1 ≠ b) : Inv X pins σ H' s' := by
  obtain ⟨h', g', d', t', o'⟩ := s'
  have e : o' = s.os := ho
  subst e
  exact I.call (g' := g') (t' := t') (d' := d') u hok hg hch
end

/-! ### the judgements -/
/-- an exception: its class, its own dict's address (where it has one), the abstract heap behind it -/
abbrev XK := Value → Option Addr → Hp → Prop
abbrev St := List (Option V)
abbrev VK := V → Hp → Prop
/-- an expression's reading; a test's; an argument list's -/
abbrev TE := St → Hp → VK → Prop
abbrev TT := St → Hp → (Bool → Hp → Prop) → Prop
abbrev TA := St → Hp → (List V → Hp → Prop) → Prop
/-- what is wanted behind a statement -/
structure Ends where
  nx : St → Hp → Prop
  rt : VK
  bk : St → Hp → Prop := fun _ _ => False
  ct : St → Hp → Prop := fun _ _ => False
abbrev TS := Ends → St → Hp → Prop

def EP (X : Cx) (pins : List (Addr × Obj)) (σ : St) (Q : VK) (u : Value) (s' : Shared) : Prop := ∃ v H', Inv X pins σ H' s' ∧ RelV v u ∧ Q v H'
def TP (X : Cx) (pins : List (Addr × Obj)) (σ : St) (Q : Bool → Hp → Prop) (b : Bool) (s' : Shared) : Prop := ∃ H', Inv X pins σ H' s' ∧ Q b H'
def AP (X : Cx) (pins : List (Addr × Obj)) (σ : St) (Q : List V → Hp → Prop) (us : List Value) (s' : Shared) : Prop := ∃ vs H', Inv X pins σ H' s' ∧ Vals vs us ∧ Q vs H'
def SP (X : Cx) (pins : List (Addr × Obj)) (D : Ends) (f : Flow) (s' : Shared) : Prop :=
  match f with
  | .next => ∃ σ' H', Inv X pins σ' H' s' ∧ D.nx σ' H'
  | .brk => ∃ σ' H', Inv X pins σ' H' s' ∧ D.bk σ' H'
  | .cont => ∃ σ' H', Inv X pins σ' H' s' ∧ D.ct σ' H'
  | .ret u => ∃ v σ' H', Inv X pins σ' H' s' ∧ RelV v u ∧ D.rt v H'

def PE (X : Cx) (e : Expr) (t : TE) : Prop :=
  ∀ (pins : List (Addr × Obj)) (s : Shared) (σ : St) (H : Hp) (Q : VK), Inv X pins σ H s → t σ H Q → wpAny (model X.prog X.w) X.A (eval e X.env) (EP X pins σ Q) X.xe s
def PT (X : Cx) (e : Expr) (t : TT) : Prop :=
  ∀ (pins : List (Addr × Obj)) (s : Shared) (σ : St) (H : Hp) (Q : Bool → Hp → Prop), Inv X pins σ H s → t σ H Q → wpAny (model X.prog X.w) X.A (isTrue e X.env (eval e X.env)) (TP X pins σ Q) X.xe s
/-- a test whatever its 'whole' is (and, or) -/
def PW (X : Cx) (e : Expr) (t : TT) : Prop :=
  ∀ (whole : Sem Value) (pins : List (Addr × Obj)) (s : Shared) (σ : St) (H : Hp) (Q : Bool → Hp → Prop), Inv X pins σ H s → t σ H Q → wpAny (model X.prog X.w) X.A (isTrue e X.env whole) (TP X pins σ Q) X.xe s
theorem PW.pt {X : Cx} {e : Expr} {t : TT} (h : PW X e t) : PT X e t := h _
/-- an argument list (no star), from the left -/
def PA (X : Cx) (es : List Expr) (t : TA) : Prop :=
  ∀ (pos : Pos) (pins : List (Addr × Obj)) (s : Shared) (σ : St) (H : Hp) (Q : List V → Hp → Prop), Inv X pins σ H s → t σ H Q → wpAny (model X.prog X.w) X.A (spliced (backTo pos (starEach es X.env))) (AP X pins σ Q) X.xe s
def PS (X : Cx) (st : Stmt) (t : TS) : Prop :=
  ∀ (pins : List (Addr × Obj)) (s : Shared) (σ : St) (H : Hp) (D : Ends), Inv X pins σ H s → t D σ H → wpAny (model X.prog X.w) X.A (exec st X.env) (SP X pins D) X.xe s
def PSs (X : Cx) (st : List Stmt) (t : TS) : Prop :=
  ∀ (pins : List (Addr × Obj)) (s : Shared) (σ : St) (H : Hp) (D : Ends), Inv X pins σ H s → t D σ H → wpAny (model X.prog X.w) X.A (execs st X.env) (SP X pins D) X.xe s
/-- weaken the end -/
theorem thn {α : Type} {t : Sem α} {Q Q' : α → Shared → Prop} {M : Model} {A : Around} {E : Value → Shared → Prop} {s : Shared} (h : wpAny M A t Q E s) (hQ : ∀ a s, Q a s → Q' a s) : wpAny M A t Q' E s := wpAny_mono h hQ fun _ _ x => x
end L2

namespace L2
open PySem PySem.Spec PyProof.Rows
section
variable {X : Cx}

/-! ### names and constants -/
def tVar (i : Nat) : TE := fun σ H Q => ∃ v, σ[i]? = some (some v) ∧ Q v H
def tC (v : V) : TE := fun _ H Q => Q v H
theorem pe_var {i : Nat} {x : Str} {pos : Pos} (hN : X.N[i]? = some x) (hv : Vis X.env.scope x) (hd : (x == ("__debug__" : Str)) = false := by decide) (hcd : (x == ("__classdict__" : Str)) = false := by decide) : PE X (.Name x pos) (tVar i) := by
  intro pins s σ H Q I h
  obtain ⟨v, e, h⟩ := h
  obtain ⟨m, hn, hl⟩ := I.loc
  obtain ⟨u, r, l⟩ := hl i x v hN e hv
  have fin : EP X pins σ Q u s := ⟨v, H, I, r, h⟩
  rcases l with ⟨hk, hm⟩ | ⟨hk, c, hc, hcell⟩
  · exact wpAny_Name (wpAny_loadName_local I.ok.kind hk hn hm fin) hd
  · rcases hk with hk | hk
    · exact wpAny_Name (wpAny_loadName_cell I.ok.kind hk hc hcell fin) hd
    · exact wpAny_Name (wpAny_loadName_free I.ok.kind hk hc hcell fin hcd) hd
theorem pe_int {i j pos} : PE X (.Constant (.int i) j pos) (tC (.int i)) := fun _ _ _ H _ I h => wpAny_Constant_int ⟨.int i, H, I.tok _, ⟨_, rfl⟩, h⟩
theorem pe_bl {b j pos} : PE X (.Constant (.bool b) j pos) (tC (.bl b)) := fun _ _ _ H _ I h => Constant_bool ⟨.bl b, H, I, rfl, h⟩
theorem pe_non {j pos} : PE X (.Constant .none j pos) (tC .non) := fun _ _ _ H _ I h => Constant_none ⟨.non, H, I, rfl, h⟩
theorem pe_str {x j pos} : PE X (.Constant (.str x) j pos) (tC (.str x)) := fun _ _ _ H _ I h => Calls.Constant_str ⟨.str x, H, I.tok _, ⟨_, rfl⟩, h⟩

/-- a global name of the def -/
def Gl (X : Cx) (x : Str) : Prop := X.env.kindOf x = some .globalImplicit
theorem ld_glob {E : Value → Shared → Prop} {pins : List (Addr × Obj)} {s : Shared} {σ : St} {H : Hp} {x : Str} {u : Value} {pos : Pos} {Q : Value → Shared → Prop} (I : Inv X pins σ H s) (hg : Gl X x) (hm : X.mg x = some u) (h : Q u s)
    (hd : (x == ("__debug__" : Str)) = false := by decide) : wpAny (model X.prog X.w) X.A (eval (.Name x pos) X.env) Q E s :=
  Calls.Name_function_global I.ok.kind hg (Calls.loadGlobal_global (by rw [I.ok.glob]; exact I.mod.glob.keeps I.bk) hm h) hd
theorem ld_blt {E : Value → Shared → Prop} {pins : List (Addr × Obj)} {s : Shared} {σ : St} {H : Hp} {x : Str} {u : Value} {pos : Pos} {Q : Value → Shared → Prop} (I : Inv X pins σ H s) (hg : Gl X x) (hm : X.mg x = none) (hv : bootBuiltins x = some u) (h : Q u s)
    (hn : x ≠ "__name__" := by decide) (hd : (x == ("__debug__" : Str)) = false := by decide) : wpAny (model X.prog X.w) X.A (eval (.Name x pos) X.env) Q E s := by
  obtain ⟨mb, h1, h2⟩ := I.mod.blt
  exact Calls.Name_function_global I.ok.kind hg (Calls.loadGlobal_builtin (by rw [I.ok.glob]; exact I.mod.glob.keeps I.bk) hm (by rw [I.ok.blt]; exact h1.keeps I.bk) ((h2 x hn).trans hv) h) hd
/-- a module's constant, a class, a function, as a value -/
theorem pe_glob {x : Str} {v : V} {u : Value} {pos : Pos} (hg : Gl X x) (hm : X.mg x = some u) (r : RelV v u) (hd : (x == ("__debug__" : Str)) = false := by decide) : PE X (.Name x pos) (tC v) :=
  fun _ _ _ H _ I h => ld_glob I hg hm ⟨v, H, I, r, h⟩ hd
theorem pe_bltn {x : Str} {v : V} {u : Value} {pos : Pos} (hg : Gl X x) (hm : X.mg x = none) (hv : bootBuiltins x = some u) (r : RelV v u) (hn : x ≠ "__name__" := by decide) (hd : (x == ("__debug__" : Str)) = false := by decide) : PE X (.Name x pos) (tC v) :=
  fun _ _ _ H _ I h => ld_blt I hg hm hv ⟨v, H, I, r, h⟩ hn hd

/-! ### arithmetic -/
variable {a b : Expr} {ta tb : TE} {pos : Pos}
/-! ### comparisons -/
/-- a comparison as a value, as a test -/
def tB (t : TE) : TT := fun σ H Q => t σ H fun x H1 => ∃ c, x = .bl c ∧ Q c H1
/-- an expression whose value is a bool, as a test -/
theorem pt_val {e : Expr} {t : TE} (h : PE X e t) (he : ∀ whole, isTrue e X.env whole = (do let v ← whole; standAt e.pos; holding [v] (truthy v)) := by intro _; rfl) : PT X e (tB t) := by
  intro pins s σ H Q I hw
  refine isTrue_plain (thn (h pins s σ H _ I hw) fun v s1 ⟨x, H1, I1, r1, q1⟩ => ?_) (he _)
  obtain ⟨d, rfl, q⟩ := q1
  cases r1
  exact wpAny_truthy_bool ⟨H1, I1, q⟩

/-! ### and, or, not -/
variable {tA tB' : TT} {rest : List Expr}
def tAnd (t u : TT) : TT := fun σ H Q => t σ H fun c H1 => if c = true then u σ H1 Q else Q false H1
def tOr (t u : TT) : TT := fun σ H Q => t σ H fun c H1 => if c = true then Q true H1 else u σ H1 Q
def tNot (t : TT) : TT := fun σ H Q => t σ H fun c H1 => Q (!c) H1
theorem pw_and1 (ha : PT X a tA) : PW X (.BoolOp .And [a] pos) tA := by
  intro wh pins s σ H Q I h
  refine isTrue_and (thn (ha pins s σ H Q I h) fun c s1 e => ?_)
  cases c with
  | true => exact isTrue_and_nil e
  | false => exact e
theorem pw_or1 (ha : PT X a tA) : PW X (.BoolOp .Or [a] pos) tA := by
  intro wh pins s σ H Q I h
  refine isTrue_or (thn (ha pins s σ H Q I h) fun c s1 e => ?_)
  cases c with
  | false => exact isTrue_or_nil e
  | true => exact e
theorem pw_and (ha : PT X a tA) (hb : PW X (.BoolOp .And (b :: rest) pos) tB') : PW X (.BoolOp .And (a :: b :: rest) pos) (tAnd tA tB') := by
  intro wh pins s σ H Q I h
  refine isTrue_and (thn (ha pins s σ H _ I h) fun c s1 ⟨H1, I1, q1⟩ => ?_)
  cases c with
  | true => exact hb wh pins s1 σ H1 Q I1 q1
  | false => exact ⟨H1, I1, q1⟩
theorem pw_or (ha : PT X a tA) (hb : PW X (.BoolOp .Or (b :: rest) pos) tB') : PW X (.BoolOp .Or (a :: b :: rest) pos) (tOr tA tB') := by
  intro wh pins s σ H Q I h
  refine isTrue_or (thn (ha pins s σ H _ I h) fun c s1 ⟨H1, I1, q1⟩ => ?_)
  cases c with
  | true => exact ⟨H1, I1, q1⟩
  | false => exact hb wh pins s1 σ H1 Q I1 q1
theorem pt_not (ha : PT X a tA) : PT X (.UnaryOp .Not a pos) (tNot tA) := by
  intro pins s σ H Q I h
  exact isTrue_not (ha pins s σ H (fun c H1 => Q (!c) H1) I h)
/-- .. as values (bools) -/
def tAndV (ta tb : TE) : TE := fun σ H Q => ta σ H fun x H1 => ∃ c, x = .bl c ∧ if c = true then tb σ H1 Q else Q (.bl false) H1
def tOrV (ta tb : TE) : TE := fun σ H Q => ta σ H fun x H1 => ∃ c, x = .bl c ∧ if c = true then Q (.bl true) H1 else tb σ H1 Q
def tNotV (ta : TE) : TE := fun σ H Q => ta σ H fun x H1 => ∃ c, x = .bl c ∧ Q (.bl (!c)) H1
theorem pe_one {op} {t : TE} (h : PE X a t) : PE X (.BoolOp op [a] pos) t := fun pins s σ H Q I hw => BoolOp_one (h pins s σ H Q I hw)
theorem pe_and (ha : PE X a ta) (hb : PE X (.BoolOp .And (b :: rest) pos) tb) : PE X (.BoolOp .And (a :: b :: rest) pos) (tAndV ta tb) := by
  intro pins s σ H Q I h
  refine BoolOp_and (thn (ha pins s σ H _ I h) fun v s1 ⟨x, H1, I1, r1, q1⟩ => ?_)
  obtain ⟨c, rfl, q1⟩ := q1
  cases r1
  refine wpAny_truthy_bool ?_
  cases c with
  | true => exact hb pins s1 σ H1 Q I1 q1
  | false => exact ⟨.bl false, H1, I1, rfl, q1⟩
theorem pe_or (ha : PE X a ta) (hb : PE X (.BoolOp .Or (b :: rest) pos) tb) : PE X (.BoolOp .Or (a :: b :: rest) pos) (tOrV ta tb) := by
  intro pins s σ H Q I h
  refine BoolOp_or (thn (ha pins s σ H _ I h) fun v s1 ⟨x, H1, I1, r1, q1⟩ => ?_)
  obtain ⟨c, rfl, q1⟩ := q1
  cases r1
  refine wpAny_truthy_bool ?_
  cases c with
  | false => exact hb pins s1 σ H1 Q I1 q1
  | true => exact ⟨.bl true, H1, I1, rfl, q1⟩
theorem pe_not (ha : PE X a ta) : PE X (.UnaryOp .Not a pos) (tNotV ta) := by
  intro pins s σ H Q I h
  refine UnaryOp_ (thn (ha pins s σ H _ I h) fun v s1 ⟨x, H1, I1, r1, q1⟩ => ?_)
  obtain ⟨c, rfl, q1⟩ := q1
  cases r1
  exact not_of (wpAny_truthy_bool ⟨.bl (!c), H1, I1, rfl, q1⟩)
end
end L2

namespace L2
open PySem PySem.Spec PyProof.Rows

/-! ### a list, a tuple that is read: tracked, frozen, or an object of the module -/
def SqL (K : PySem.W.Frag) (H : Hp) (a : Addr) (xs : List V) : Prop :=
  Rd H a (.lst xs) ∨
    ∃ (o : Obj) (its : Array Value) (n : Nat), K.lookup a = some o ∧ o.cls = .type "list" ∧ o.dict = none ∧ o.data = .seq its n ∧ its.size ≤ sizeLine ∧ Vals xs its.toList
def SqT (K : PySem.W.Frag) (H : Hp) (a : Addr) (xs : List V) : Prop :=
  Rd H a (.tup xs) ∨
    ∃ (o : Obj) (its : Array Value) (n : Nat), K.lookup a = some o ∧ o.cls = .type "tuple" ∧ o.data = .seq its n ∧ its.size ≤ sizeLine ∧ Vals xs its.toList
def absV : Value → Option V
  | .none => some .non
  | .bool b => some (.bl b)
  | .int i _ => some (.int i)
  | .str x _ => some (.str x)
  | .bytes b _ => some (.byt b)
  | .float b _ => some (.flt b)
  | .ref a => some (.ref a)
  | .type n => some (.ty n)
  | _ => none
theorem RelV.abs {x : V} {u : Value} (r : RelV x u) : absV u = some x := by
  cases x with
  | non => cases r; rfl
  | bl _ => cases r; rfl
  | int _ => obtain ⟨t, rfl⟩ := r; rfl
  | str _ => obtain ⟨t, rfl⟩ := r; rfl
  | byt _ => obtain ⟨t, rfl⟩ := r; rfl
  | flt _ => obtain ⟨t, rfl⟩ := r; rfl
  | ref _ => cases r; rfl
  | ty _ => cases r; rfl
theorem RelV.inj {x y : V} {u : Value} (r : RelV x u) (q : RelV y u) : x = y := Option.some.inj (r.abs.symm.trans q.abs)
theorem Vals.inj : ∀ {xs ys : List V} {us : List Value}, Vals xs us → Vals ys us → xs = ys
  | _, _, _, .nil, .nil => rfl
  | _, _, _, .cons r t, .cons r' t' => by rw [r.inj r', Vals.inj t t']
section
variable {X : Cx} {pins : List (Addr × Obj)} {σ : St} {H : Hp} {s : Shared} {a : Addr} {xs ys : List V}
theorem SqL.of {K : PySem.W.Frag} (h : H a = some (.lst xs)) : SqL K H a xs := .inl (.inl h)
theorem SqT.of {K : PySem.W.Frag} (h : H a = some (.tup xs)) : SqT K H a xs := .inl (.inl h)
theorem Inv.list (I : Inv X pins σ H s) (h : SqL X.K H a xs) : ∃ its : List Value, Vals xs its ∧ PlainL s.heap a its.toArray ∧ xs.length ≤ sizeLine := by
  rcases h with h | ⟨o, its, n, hk, hc, hd, hs, hz, r⟩
  · obtain ⟨z, its, n, r, e⟩ := h.ok I.hok
    exact ⟨its, r, ⟨_, n, e, rfl, rfl, rfl⟩, z⟩
  · refine ⟨its.toList, r, ⟨o, n, I.kIn a o hk, hc, hd, by simpa using hs⟩, ?_⟩
    have e := r.length
    simp only [Array.length_toList] at e
    omega
theorem Inv.tuple (I : Inv X pins σ H s) (h : SqT X.K H a xs) : ∃ its : List Value, Vals xs its ∧ IsTup s.heap a its.toArray ∧ xs.length ≤ sizeLine := by
  rcases h with h | ⟨o, its, n, hk, hc, hs, hz, r⟩
  · obtain ⟨z, its, r, p⟩ := h.ok I.hok
    exact ⟨its, r, p, z⟩
  · refine ⟨its.toList, r, ⟨o, I.kIn a o hk, hc, n, by simpa using hs⟩, ?_⟩
    have e := r.length
    simp only [Array.length_toList] at e
    omega
theorem Inv.list_inj (I : Inv X pins σ H s) (h : SqL X.K H a xs) (h' : SqL X.K H a ys) : xs = ys := by
  obtain ⟨its, r, ⟨o, n, e, _, _, d⟩, _⟩ := I.list h
  obtain ⟨its', r', ⟨o', n', e', _, _, d'⟩, _⟩ := I.list h'
  rw [e] at e'; cases e'
  rw [d] at d'
  injection d' with d1 _
  have : its = its' := by simpa using congrArg Array.toList d1
  subst this
  exact r.inj r'
end

/-! ### another wish about exceptions -/
abbrev Cx.wish (X : Cx) (E : Value → Shared → Prop) : Cx := { X with xe := E }
/-- no exception leaves -/
abbrev Cx.nox (X : Cx) : Cx := X.wish fun _ _ => False
theorem Cx.Ok.wish {X : Cx} (ok : X.Ok) (E : Value → Shared → Prop) : (X.wish E).Ok :=
  ⟨ok.mod, ok.kind, ok.glob, ok.blt, ok.above, ok.inj, ok.has, ok.cab, ok.hd, ok.frames, ok.stk, ok.exf, ok.bs, ok.bsz, ok.noex, ok.exfs, ok.funs, ok.frf⟩
theorem Cx.Ok.unwish {X : Cx} {E : Value → Shared → Prop} (ok : (X.wish E).Ok) : X.Ok :=
  ⟨ok.mod, ok.kind, ok.glob, ok.blt, ok.above, ok.inj, ok.has, ok.cab, ok.hd, ok.frames, ok.stk, ok.exf, ok.bs, ok.bsz, ok.noex, ok.exfs, ok.funs, ok.frf⟩
section
variable {X : Cx} {pins : List (Addr × Obj)} {σ : St} {H : Hp} {s : Shared} {E : Value → Shared → Prop}
theorem Inv.wish (I : Inv X pins σ H s) (E : Value → Shared → Prop) : Inv (X.wish E) pins σ H s := ⟨I.ok.wish E, I.os, I.bare, I.base, I.loc, I.cell, I.free, I.freeC, I.pin, I.hok, I.len⟩
theorem Inv.unwish (I : Inv (X.wish E) pins σ H s) : Inv X pins σ H s := ⟨I.ok.unwish, I.os, I.bare, I.base, I.loc, I.cell, I.free, I.freeC, I.pin, I.hok, I.len⟩
theorem SP.unwish {D : Ends} {f : Flow} {s' : Shared} (h : SP (X.wish E) pins D f s') : SP X pins D f s' := by
  cases f with
  | next => obtain ⟨σ', H', I, q⟩ := h; exact ⟨σ', H', I.unwish, q⟩
  | brk => obtain ⟨σ', H', I, q⟩ := h; exact ⟨σ', H', I.unwish, q⟩
  | cont => obtain ⟨σ', H', I, q⟩ := h; exact ⟨σ', H', I.unwish, q⟩
  | ret u => obtain ⟨v, σ', H', I, r, q⟩ := h; exact ⟨v, σ', H', I.unwish, r, q⟩
theorem PSs.nox {st : List Stmt} {t : TS} (h : PSs X.nox st t) : PSs X st t := fun pins s σ H D I hw =>
  wpAny_mono (h pins s σ H D (I.wish _) hw) (fun _ _ q => q.unwish) fun _ _ z => False.elim z
end

/-! ### blocks and small statements -/
section
variable {X : Cx} {st : Stmt} {rest : List Stmt} {t u : TS} {e : Expr} {te : TE} {pos : Pos}
def tNext : TS := fun D σ H => D.nx σ H
def tSeq (t u : TS) : TS := fun D σ H => t { D with nx := u D } σ H
theorem pss_nil : PSs X [] tNext := fun _ _ σ H _ I h => wpAny_execs_nil ⟨σ, H, I, h⟩
theorem pss_cons (h1 : PS X st t) (h2 : PSs X rest u) : PSs X (st :: rest) (tSeq t u) := by
  intro pins s σ H D I h
  refine wpAny_execs_cons (thn (h1 pins s σ H { D with nx := u D } I h) fun f s1 q => ?_)
  cases f with
  | next =>
    obtain ⟨σ', H', I', q⟩ := q
    exact h2 pins s1 σ' H' D I' q
  | ret v => exact q
  | brk => exact q
  | cont => exact q
theorem pss_one (h1 : PS X st t) : PSs X [st] t := by
  intro pins s σ H D I h
  refine wpAny_execs_cons (thn (h1 pins s σ H D I h) fun f s1 q => ?_)
  cases f with
  | next => exact wpAny_execs_nil q
  | ret v => exact q
  | brk => exact q
  | cont => exact q
/-- in a def's body nothing is shown -/
theorem Inv.quiet {pins : List (Addr × Obj)} {σ : St} {H : Hp} {s : Shared} (I : Inv X pins σ H s) : interactive X.env = false := by simp [interactive, I.ok.kind]
/-- an expression whose value is dropped -/
def tDrop (te : TE) : TS := fun D σ H => te σ H fun _ H1 => D.nx σ H1
theorem ps_expr (he : PE X e te) (hs : swapsWith e none pos.line X.env = pure false := by rfl) : PS X (.Expr e pos) (tDrop te) := by
  intro pins s σ H D I h
  exact wpAny_Expr_any (thn (he pins s σ H _ I h) fun v s1 ⟨x, H1, I1, r1, q1⟩ => ⟨σ, H1, I1, q1⟩) I.quiet hs
def tRet (te : TE) : TS := fun D σ H => te σ H D.rt
theorem ps_ret (he : PE X e te) : PS X (.Return (some e) pos) (tRet te) := by
  intro pins s σ H D I h
  exact wpAny_Return_some (thn (he pins s σ H _ I h) fun v s1 ⟨x, H1, I1, r1, q1⟩ => ⟨x, σ, H1, I1, r1, q1⟩)
def tIfS (c : TT) (t u : TS) : TS := fun D σ H => c σ H fun b H1 => if b = true then t D σ H1 else u D σ H1
theorem ps_if {c : Expr} {a b : List Stmt} {tc : TT} (hc : PT X c tc) (ha : PSs X a t) (hb : PSs X b u) : PS X (.If c a b pos) (tIfS tc t u) := by
  intro pins s σ H D I h
  refine wpAny_If (thn (hc pins s σ H _ I h) fun d s1 ⟨H1, I1, q1⟩ => ?_)
  cases d with
  | true => exact ha pins s1 σ H1 D I1 q1
  | false => exact hb pins s1 σ H1 D I1 q1
end

/-! ### targets -/
abbrev TG := V → St → Hp → (St → Hp → Prop) → Prop
def PG (X : Cx) (target : Expr) (t : TG) : Prop :=
  ∀ (pins : List (Addr × Obj)) (s : Shared) (σ : St) (H : Hp) (v : V) (u : Value) (Q : St → Hp → Prop), Inv X pins σ H s → RelV v u → t v σ H Q →
    wpAny (model X.prog X.w) X.A (assign target X.env u) (fun _ s' => ∃ σ' H', Inv X pins σ' H' s' ∧ Q σ' H') X.xe s
section
variable {X : Cx} {pos : Pos}
def gName (i : Nat) : TG := fun v σ H Q => Q (σ.set i (some v)) H
theorem pg_name {i : Nat} {x : Str} (hN : X.N.Nodup) (hi : X.N[i]? = some x) (hx : Loc X.env.scope x) (hf : X.fn x = true ∨ X.env.scope.names.lookup x = some .local := by first | exact .inl rfl | exact .inr rfl | assumption) : PG X (.Name x pos) (gName i) := by
  intro pins s σ H v u Q I r h
  exact wpAny_assign_Name (store_ok I hN hi hx r (fun s' I' => ⟨_, H, I', h⟩) hf)
/-- target = value -/
def tAsg (te : TE) (g : TG) : TS := fun D σ H => te σ H fun x H1 => g x σ H1 D.nx
/-- name = value -/
theorem ps_set {i : Nat} {x : Str} {e : Expr} {te : TE} {pos' : Pos} (hN : X.N.Nodup) (hi : X.N[i]? = some x) (hx : Loc X.env.scope x) (he : PE X e te) (hs : swapsWith e (some (.Name x pos')) pos.line X.env = pure false := by rfl) (hf : X.fn x = true ∨ X.env.scope.names.lookup x = some .local := by first | exact .inl rfl | exact .inr rfl | assumption) :
    PS X (.Assign [.Name x pos'] e pos) (tAsg te (gName i)) := by
  intro pins s σ H D I h
  refine wpAny_Assign_Name (thn (he pins s σ H _ I h) fun v s1 ⟨y, H1, I1, r1, q1⟩ => ?_) hs
  exact store_ok I1 hN hi hx r1 (fun s2 I2 => ⟨_, H1, I2, q1⟩) hf
end

/-! ### while -/
section
variable {X : Cx} {pos : Pos}
/-- the invariant W with its measure -/
def tWhile (c : TT) (tb : TS) : TS := fun D σ H => ∃ W : Nat → St → Hp → Prop, (∃ m, W m σ H) ∧ ∀ m σ H, W m σ H →
  c σ H fun b H1 => if b = true then ∃ N : St → Hp → Prop, (∀ σ' H', N σ' H' → ∃ m', m' < m ∧ W m' σ' H') ∧ tb { D with nx := N, ct := N, bk := D.nx } σ H1 else D.nx σ H1
theorem ps_while {c : Expr} {body : List Stmt} {tc : TT} {tb : TS} (hp : PassesOwn (model X.prog X.w) X.A X.env X.xe) (hc : PT X c tc) (hb : PSs X body tb) : PS X (.While c body [] pos) (tWhile tc tb) := by
  intro pins s σ H D I h
  obtain ⟨W, ⟨m0, w0⟩, turn⟩ := h
  refine wpAny_While (codeAny_whileLoop (fun n s' => ∃ σ' H', Inv X pins σ' H' s' ∧ W n σ' H') ?_ m0 ⟨σ, H, I, w0⟩)
  rintro n s1 ⟨σ1, H1, I1, w1⟩
  refine wpAny_passesOwn hp (thn (hc pins s1 σ1 H1 _ I1 (turn n σ1 H1 w1)) fun b s2 ⟨H2, I2, q2⟩ => ?_)
  cases b with
  | true =>
    obtain ⟨N, hN, q2⟩ := q2
    rw [if_pos rfl]
    refine wpAny_passesOwn hp (thn (hb pins s2 σ1 H2 _ I2 q2) fun f s3 q3 => ?_)
    cases f with
    | next =>
      obtain ⟨σ3, H3, I3, n3⟩ := q3
      obtain ⟨m', hm, w3⟩ := hN σ3 H3 n3
      exact ⟨m', hm, σ3, H3, I3, w3⟩
    | cont =>
      obtain ⟨σ3, H3, I3, n3⟩ := q3
      obtain ⟨m', hm, w3⟩ := hN σ3 H3 n3
      exact ⟨m', hm, σ3, H3, I3, w3⟩
    | brk => exact q3
    | ret v => exact q3
  | false =>
    rw [if_neg Bool.false_ne_true]
    exact wpAny_execs_nil ⟨σ1, H2, I2, q2⟩
end

/-! ### what a loop or a comprehension walks -/
/-- at turn i: it yields x (the heap may grow), or it stops -/
structure It where
  go : Nat → Hp → Prop
  yld : Nat → Hp → V → Hp → Prop
  stop : Nat → Hp → Prop
/-- the iterator's own objects may turn: they are not the frame's, not pinned, younger than the entry (or a comprehension's own) -/
def FpOk (X : Cx) (pins : List (Addr × Obj)) (H : Hp) (b : Addr) : Prop :=
  H b = none ∧ b ≠ X.env.locals ∧ b ∉ X.fs ∧ (b ∈ X.ex ∨ X.s₀.heap.objs.size ≤ b) ∧ (∀ x c, X.env.cells.lookup x = some c → c ≠ b) ∧ ∀ p ∈ X.pn ++ pins, p.1 ≠ b
theorem Inv.fpOk {X : Cx} {pins : List (Addr × Obj)} {σ : St} {H H' : Hp} {s : Shared} {b : Addr} (I : Inv X pins σ H s) (hb : s.heap.objs.size ≤ b) (hn : H' b = none) : FpOk X pins H' b := by
  refine ⟨hn, Nat.ne_of_gt (Nat.lt_of_lt_of_le I.lt hb), I.nofs hb, .inr (Nat.le_trans I.sz hb), fun x c e z => ?_, fun p hp z => ?_⟩
  · obtain ⟨v, q⟩ := I.cell x c e
    exact absurd (Nat.lt_of_lt_of_le q.lt (by rw [z]; exact hb)) (Nat.lt_irrefl _)
  · exact absurd (Nat.lt_of_lt_of_le (Heap.lt_size (I.pin p hp).1) (by rw [z]; exact hb)) (Nat.lt_irrefl _)
structure Turn (P : Program) (w : World) (K : PySem.W.Frag) (tg : Expr) (J : It) (fp : List Addr) (it : Addr) (tn : Nat → Heap → Prop) : Prop where
  mem : it ∈ fp
  obj : ∀ i h, tn i h → ∀ b ∈ fp, ∃ o, h.get? b = some o ∧ ∀ v, o.data ≠ .cell v
  keep : ∀ i h h', tn i h → (∀ b ∈ fp, ∀ o, h.get? b = some o → h'.get? b = some o) → tn i h'
  item : ∀ (X : Cx), X.prog = P → X.w = w → X.K = K → X.calm = true → ∀ (i : Nat) (pins : List (Addr × Obj)) (s : Shared) (σ : St) (H : Hp) (E : Value → Shared → Prop), Inv X pins σ H s → (∀ b ∈ fp, FpOk X pins H b) → tn i s.heap → J.go i H →
    wpAny (model P w) X.A (pyNext (.ref it)) (fun r s1 => ∃ u, r = some u ∧
      wpAny (model P w) X.A (letOwnedTupleGo tg (.ref it) u) (fun _ s2 => ∃ x H', Inv X pins σ H' s2 ∧ RelV x u ∧ J.yld i H x H' ∧ tn (i + 1) s2.heap ∧ ∀ b ∈ fp, H' b = none) E s1) E s
  done : ∀ (X : Cx), X.prog = P → X.w = w → X.K = K → X.calm = true → ∀ (i : Nat) (pins : List (Addr × Obj)) (s : Shared) (σ : St) (H : Hp) (E : Value → Shared → Prop), Inv X pins σ H s → (∀ b ∈ fp, FpOk X pins H b) → tn i s.heap → J.stop i H →
    wpAny (model P w) X.A (pyNext (.ref it)) (fun r s1 => r = none ∧ Inv X pins σ H s1) E s
  self : ∀ (A : Around) (i : Nat) (s : Shared) (Q : Value → Shared → Prop) (E : Value → Shared → Prop), tn i s.heap → Q (.ref it) s → wpAny (model P w) A (pyIter (.ref it)) Q E s
abbrev TI := St → Hp → (It → Hp → Prop) → Prop
/-- an iterator has come -/
def PIE (X : Cx) (pins : List (Addr × Obj)) (σ : St) (tg : Expr) (R : It → Hp → Prop) (itv : Value) (s2 : Shared) : Prop :=
  ∃ (it : Addr) (fp : List Addr) (tn : Nat → Heap → Prop) (J : It) (H' : Hp), itv = .ref it ∧ Inv X pins σ H' s2 ∧ Turn X.prog X.w X.K tg J fp it tn ∧ tn 0 s2.heap ∧ (∀ b ∈ fp, FpOk X pins H' b) ∧ R J H'
def PI (X : Cx) (tg iter : Expr) (wi : TI) : Prop :=
  ∀ (pins : List (Addr × Obj)) (s : Shared) (σ : St) (H : Hp) (R : It → Hp → Prop), Inv X pins σ H s → wi σ H R →
    wpAny (model X.prog X.w) X.A (eval iter X.env) (fun v s1 => wpAny (model X.prog X.w) X.A (pyIter v) (PIE X pins σ tg R) X.xe s1) X.xe s

/-- the step ahead of the store is nothing for an iterator that keeps no tuple -/
theorem go_of {M : Model} {A : Around} {E : Value → Shared → Prop} {s : Shared} {tg : Expr} {it : Addr} {u : Value} {o : Obj} {n : String} {vs : Array Value} {Q : Unit → Shared → Prop} (ho : s.heap.get? it = some o) (hc : o.cls = .type n) (hd : o.data = .fields vs)
    (hn : ["enumerate", "zip", "dict_itemiterator", "dict_reverseitemiterator", "odict_iterator", "itertools.zip_longest", "itertools.pairwise"].contains n = false) (hQ : Q () s) : wpAny M A (letOwnedTupleGo tg (.ref it) u) Q E s := by
  unfold letOwnedTupleGo
  cases tg <;> first
    | exact wpAny_pure hQ
    | (cases u <;> first
        | exact wpAny_pure hQ
        | (refine wpAny_bind (wpAny_load ho ?_)
           rw [hc, hd]
           show wpAny M A (if (["enumerate", "zip", "dict_itemiterator", "dict_reverseitemiterator", "odict_iterator", "itertools.zip_longest", "itertools.pairwise"].contains n && vs[0]? == some (rawInt _)) = true then _ else _) Q E s
           rw [if_neg (by intro h; rw [hn, Bool.false_and] at h; cases h)]
           exact wpAny_pure hQ))

/-- the list at a, as it stands at each turn (a loop may append to it) -/
def Itl (K : PySem.W.Frag) (a : Addr) : It :=
  ⟨fun i H => ∃ xs x, SqL K H a xs ∧ xs[i]? = some x, fun i H x H' => H' = H ∧ ∀ xs, SqL K H a xs → xs[i]? = some x, fun i H => ∃ xs, SqL K H a xs ∧ xs.length ≤ i⟩
theorem turn_list {P : Program} {w : World} {K : PySem.W.Frag} {tg : Expr} (a it : Addr) : Turn P w K tg (Itl K a) [it] it (fun i h => h.IsListIter it a i) where
  mem := by simp
  obj := fun i h st b hb => by
    have e : b = it := by simpa using hb
    subst e
    obtain ⟨o, e, c, d⟩ := st
    exact ⟨o, e, fun v z => by rw [d] at z; cases z⟩
  keep := fun i h h' st k => st.at fun o e => k it (by simp) o e
  item := by
    intro X hP hw hK hc i pins s σ H E I hf st hg
    subst hP hw hK
    obtain ⟨xs, x, hq, hx⟩ := hg
    obtain ⟨its, rv, p, hz⟩ := I.list hq
    obtain ⟨u, hu, ru⟩ := rv.get hx
    obtain ⟨f0, f1, f2, f3, f4, f5⟩ := hf it (by simp)
    refine wpAny_pyNext_list_item st p.isList (x := u) (by simpa using hu) fun h' st' sb => ?_
    have I1 : Inv X pins σ H { s with heap := h' } := I.turned (t' := s.toks) (fun b o hb e => (sb.2 b hb).trans e) f0 f1 f3 f4 f5
    obtain ⟨o, e, c, d⟩ := id st'
    exact ⟨u, rfl, go_of (s := { s with heap := h' }) e c d (by decide) ⟨x, H, I1, ru, ⟨rfl, fun ys hy => by rw [I.list_inj hy hq]; exact hx⟩, st', fun b hb => (hf b hb).1⟩⟩
  done := by
    intro X hP hw hK hc i pins s σ H E I hf st hg
    subst hP hw hK
    obtain ⟨xs, hq, hx⟩ := hg
    obtain ⟨its, rv, p, hz⟩ := I.list hq
    obtain ⟨f0, f1, f2, f3, f4, f5⟩ := hf it (by simp)
    have hl := rv.length
    exact wpAny_pyNext_list_end (I.ok.hd hc) st p.isList (by simp; omega) fun h' eb => ⟨rfl, I.turned (t' := s.toks) (fun b o hb e => eb b o hb e) f0 f1 f3 f4 f5⟩
  self := fun _ _ _ _ _ st h => wpAny_pyIter_listiter st h
end L2

namespace L2
open PySem PySem.Spec PyProof.Rows
section
variable {X : Cx} {tg : Expr}
def iList (K : PySem.W.Frag) (tl : TE) : TI := fun σ H R => tl σ H fun x H1 => ∃ a, x = .ref a ∧ (∃ xs, SqL K H1 a xs) ∧ R (Itl K a) H1
theorem pi_list {l : Expr} {tl : TE} (hl : PE X l tl) : PI X tg l (iList X.K tl) := by
  intro pins s σ H R I h
  refine thn (hl pins s σ H _ I h) fun v s1 ⟨x, H1, I1, r1, q1⟩ => ?_
  obtain ⟨a, e, ⟨xs, hq⟩, q⟩ := q1
  subst e
  cases r1
  obtain ⟨its, rv, p, hz⟩ := I1.list hq
  refine wpAny_pyIter_list p.isList ?_
  refine ⟨s1.heap.objs.size, [s1.heap.objs.size], _, _, H1, rfl, I1.kept (t' := s1.toks) fun b o e => Heap.get?_push_of_some _ e, turn_list a _, ⟨_, Heap.get?_push_size _ rfl, rfl, rfl⟩, fun b hb => ?_, q⟩
  have e : b = s1.heap.objs.size := by simpa using hb
  subst e
  exact I1.fpOk (Nat.le_refl _) (I1.hok.fresh (Nat.le_refl _))
/-! ### for -/
/-- W: the invariant by the turn and a measure; N: what the body is to reach -/
def tFor (wi : TI) (g : TG) (tb : TS) : TS := fun D σ H => wi σ H fun J H1 => ∃ W : Nat → Nat → St → Hp → Prop, (∃ m, W 0 m σ H1) ∧ ∀ i m σ H, W i m σ H →
  (J.stop i H ∧ D.nx σ H) ∨ (J.go i H ∧ ∃ N : St → Hp → Prop, (∀ σ' H', N σ' H' → ∃ m', m' < m ∧ W (i + 1) m' σ' H') ∧ ∀ x H', J.yld i H x H' → g x σ H' fun σ2 H2 => tb { D with nx := N, ct := N, bk := D.nx } σ2 H2)
/-- the records at fp as they stand -/
def pinsAt (fp : List Addr) (h : Heap) : List (Addr × Obj) := fp.filterMap fun b => (h.get? b).map fun o => (b, o)
theorem mem_pinsAt {fp : List Addr} {h : Heap} {b : Addr} {o : Obj} (hb : b ∈ fp) (e : h.get? b = some o) : (b, o) ∈ pinsAt fp h := List.mem_filterMap.mpr ⟨b, hb, by rw [e]; rfl⟩
theorem of_pinsAt {fp : List Addr} {h : Heap} {p : Addr × Obj} (hp : p ∈ pinsAt fp h) : p.1 ∈ fp ∧ h.get? p.1 = some p.2 := by
  obtain ⟨b, hb, e⟩ := List.mem_filterMap.mp hp
  cases q : h.get? b with
  | none => rw [q] at e; cases e
  | some o =>
    rw [q] at e
    have e' : (b, o) = p := Option.some.inj e
    subst e'
    exact ⟨hb, q⟩
theorem Inv.pinned {pins : List (Addr × Obj)} {σ : St} {H : Hp} {s : Shared} {fp : List Addr} (I : Inv X pins σ H s) (hf : ∀ b ∈ fp, FpOk X pins H b) (ho : ∀ b ∈ fp, ∃ o, s.heap.get? b = some o ∧ ∀ v, o.data ≠ .cell v) : Inv X (pins ++ pinsAt fp s.heap) σ H s :=
  I.pins_of fun p hp => (List.mem_append.mp hp).elim (fun z => I.pin p (List.mem_append_right _ z)) fun z => by
    obtain ⟨hb, e⟩ := of_pinsAt z
    obtain ⟨f0, f1, f2, _⟩ := hf p.1 hb
    obtain ⟨o, e', d⟩ := ho p.1 hb
    rw [e] at e'; cases e'
    exact ⟨e, f0, f1, f2, d⟩
theorem Inv.unpinned {pins pl : List (Addr × Obj)} {σ : St} {H : Hp} {s : Shared} (I : Inv X (pins ++ pl) σ H s) : Inv X pins σ H s := I.pins_of fun p hp => I.pin p (List.mem_append_right _ (List.mem_append_left _ hp))
theorem ps_for {iter : Expr} {body : List Stmt} {wi : TI} {g : TG} {tb : TS} {pos : Pos} (hp : PassesOwn (model X.prog X.w) X.A X.env X.xe) (hc : X.calm = true) (hi : PI X tg iter wi) (hg : PG X tg g) (hb : PSs X body tb)
    (hs : ∀ x, foldedSetIterable iter X.env x = pure x := by intro _; rfl) : PS X (.For tg iter body [] pos) (tFor wi g tb) := by
  intro pins s σ H D I h
  refine wpAny_For (thn (hi pins s σ H _ I h) fun v s1 h1 => thn h1 fun itv s2 h2 => ?_) hs
  obtain ⟨it, fp, tn, J, H2, e, I2, T, st2, f2, W, ⟨m0, w0⟩, turn⟩ := h2
  subst e
  -- what stays true of the iterator's objects through the loop
  have stat : ∀ {H' : Hp}, (∀ b ∈ fp, H' b = none) → ∀ b ∈ fp, FpOk X pins H' b := fun hn b hb => ⟨hn b hb, (f2 b hb).2⟩
  refine codeAny_forLoop_any (fun n s' => ∃ i σ' H', Inv X pins σ' H' s' ∧ tn i s'.heap ∧ (∀ b ∈ fp, H' b = none) ∧ W i n σ' H') ?_ m0 ⟨0, σ, H2, I2, st2, fun b hb => (f2 b hb).1, w0⟩
  rintro n s3 ⟨i, σ3, H3, I3, st3, fr3, w3⟩
  rcases turn i n σ3 H3 w3 with ⟨stop, qn⟩ | ⟨go, N, hN, step⟩
  · refine wpAny_passesOwn hp (thn (T.done X rfl rfl rfl hc i pins s3 σ3 H3 X.xe I3 (stat fr3) st3 stop) fun r s4 ⟨hr, I4⟩ => ?_)
    subst hr
    exact wpAny_execs_nil ⟨σ3, H3, I4, qn⟩
  · refine wpAny_passesOwn hp (thn (T.item X rfl rfl rfl hc i pins s3 σ3 H3 X.xe I3 (stat fr3) st3 go) fun r s4 ⟨u, hr, h4⟩ => ?_)
    subst hr
    refine wpAny_passesOwn hp (thn h4 fun _ s5 ⟨x, H5, I5, r5, y5, st5, fr5⟩ => ?_)
    have I5' := I5.pinned (stat fr5) (T.obj _ _ st5)
    refine wpAny_passesOwn hp (thn (hg _ s5 σ3 H5 x u _ I5' r5 (step x H5 y5)) fun _ s6 ⟨σ6, H6, I6, q6⟩ => ?_)
    refine wpAny_passesOwn hp (thn (hb _ s6 σ6 H6 _ I6 q6) fun f s7 q7 => ?_)
    have again : ∀ {σ7 : St} {H7 : Hp}, Inv X (pins ++ pinsAt fp s5.heap) σ7 H7 s7 → N σ7 H7 → ∃ m, m < n ∧ ∃ i σ' H', Inv X pins σ' H' s7 ∧ tn i s7.heap ∧ (∀ b ∈ fp, H' b = none) ∧ W i m σ' H' := fun {σ7 H7} I7 n7 => by
      obtain ⟨m', hm, w7⟩ := hN σ7 H7 n7
      refine ⟨m', hm, i + 1, σ7, H7, I7.unpinned, T.keep _ _ _ st5 fun b hb o e => (I7.pin (b, o) (List.mem_append_right _ (List.mem_append_right _ (mem_pinsAt hb e)))).1, fun b hb => ?_, w7⟩
      obtain ⟨o, e, d⟩ := T.obj _ _ st5 b hb
      exact (I7.pin (b, o) (List.mem_append_right _ (List.mem_append_right _ (mem_pinsAt hb e)))).2.1
    cases f with
    | next => obtain ⟨σ7, H7, I7, n7⟩ := q7; exact again I7 n7
    | cont => obtain ⟨σ7, H7, I7, n7⟩ := q7; exact again I7 n7
    | brk => obtain ⟨σ7, H7, I7, q7⟩ := q7; exact ⟨σ7, H7, I7.unpinned, q7⟩
    | ret v => obtain ⟨x7, σ7, H7, I7, r7, q7⟩ := q7; exact ⟨x7, σ7, H7, I7.unpinned, r7, q7⟩
end

/-! ### the forms one uses -/
/-- over a list that the body leaves as it is -/
theorem for_list {K : PySem.W.Frag} {a : Addr} {xs : List V} {g : TG} {tb : TS} {D : Ends} {σ : St} {H : Hp} (Pv : Nat → St → Hp → Prop) (h0 : Pv 0 σ H) (hl : ∀ i σ H, i ≤ xs.length → Pv i σ H → SqL K H a xs)
    (hs : ∀ i x σ H, xs[i]? = some x → Pv i σ H → g x σ H fun σ2 H2 => tb { D with nx := Pv (i + 1), ct := Pv (i + 1), bk := D.nx } σ2 H2) (hd : ∀ σ H, Pv xs.length σ H → D.nx σ H) :
    ∃ W : Nat → Nat → St → Hp → Prop, (∃ m, W 0 m σ H) ∧ ∀ i m σ H, W i m σ H →
      ((Itl K a).stop i H ∧ D.nx σ H) ∨ ((Itl K a).go i H ∧ ∃ N : St → Hp → Prop, (∀ σ' H', N σ' H' → ∃ m', m' < m ∧ W (i + 1) m' σ' H') ∧ ∀ x H', (Itl K a).yld i H x H' → g x σ H' fun σ2 H2 => tb { D with nx := N, ct := N, bk := D.nx } σ2 H2) := by
  refine ⟨fun i m σ H => m = xs.length - i ∧ i ≤ xs.length ∧ Pv i σ H, ⟨xs.length, by simp, Nat.zero_le _, h0⟩, ?_⟩
  rintro i m σ H ⟨rfl, hi, p⟩
  have q := hl i σ H hi p
  by_cases hlt : i < xs.length
  · refine .inr ⟨⟨xs, xs[i], q, by simp [hlt]⟩, Pv (i + 1), fun σ' H' p' => ⟨xs.length - (i + 1), by omega, rfl, hlt, p'⟩, fun x H' y => ?_⟩
    obtain ⟨e, y⟩ := y
    subst e
    exact hs i x σ _ (y xs q) p
  · have e : i = xs.length := by omega
    subst e
    exact .inl ⟨⟨xs, q, Nat.le_refl _⟩, hd σ H p⟩
end L2

namespace L2
open PySem PySem.Spec PyProof.Rows

abbrev R2 := V → V → Hp → VK → Prop
/-- a two-place operation on values: f is binaryOp op, inplaceOp op or compareOp op -/
def OpR (X : Cx) (f : Value → Value → Sem Value) (r : R2) : Prop :=
  ∀ (pins : List (Addr × Obj)) (s : Shared) (σ : St) (H : Hp) (x y : V) (v u : Value) (Q : VK), Inv X pins σ H s → RelV x v → RelV y u → r x y H Q →
    wpAny (model X.prog X.w) X.A (f v u) (EP X pins σ Q) X.xe s
/-- a one-place operation -/
def UnR (X : Cx) (f : Value → Sem Value) (r : V → Hp → VK → Prop) : Prop :=
  ∀ (pins : List (Addr × Obj)) (s : Shared) (σ : St) (H : Hp) (x : V) (v : Value) (Q : VK), Inv X pins σ H s → RelV x v → r x H Q →
    wpAny (model X.prog X.w) X.A (f v) (EP X pins σ Q) X.xe s
/-- a call of a value that is known (a builtin, a type) with values -/
def CallR (X : Cx) (f : Value) (r : List V → Hp → VK → Prop) : Prop :=
  ∀ (pins : List (Addr × Obj)) (s : Shared) (σ : St) (H : Hp) (xs : List V) (us : List Value) (Q : VK), Inv X pins σ H s → Vals xs us → r xs H Q →
    wpAny (model X.prog X.w) X.A (call f us) (EP X pins σ Q) X.xe s
/-- a value's truth -/
def TruR (X : Cx) (r : V → Hp → (Bool → Hp → Prop) → Prop) : Prop :=
  ∀ (pins : List (Addr × Obj)) (s : Shared) (σ : St) (H : Hp) (x : V) (v : Value) (Q : Bool → Hp → Prop), Inv X pins σ H s → RelV x v → r x H Q →
    wpAny (model X.prog X.w) X.A (truthy v) (TP X pins σ Q) X.xe s

def tOp (r : R2) (ta tb : TE) : TE := fun σ H Q => ta σ H fun x H1 => tb σ H1 fun y H2 => r x y H2 Q
def tUn (r : V → Hp → VK → Prop) (ta : TE) : TE := fun σ H Q => ta σ H fun x H1 => r x H1 Q
/-- ints in, under C, and a value out -/
def rI (C : Int → Int → Prop) (g : Int → Int → V) : R2 := fun x y H Q => ∃ i j, x = .int i ∧ y = .int j ∧ C i j ∧ Q (g i j) H
def rI0 (g : Int → Int → V) : R2 := fun x y H Q => ∃ i j, x = .int i ∧ y = .int j ∧ Q (g i j) H
def rU (g : Int → V) : V → Hp → VK → Prop := fun x H Q => ∃ i, x = .int i ∧ Q (g i) H

section
variable {X : Cx} {a b c : Expr} {ta tb tc : TE} {pos : Pos}

theorem binT (ha : PE X a ta) (hb : PE X b tb) {pins : List (Addr × Obj)} {s : Shared} {σ : St} {H : Hp} {R : V → V → Hp → Prop} (I : Inv X pins σ H s)
    (h : ta σ H fun x H1 => tb σ H1 fun y H2 => R x y H2) {Q : Value → Shared → Prop} {f : Value → Value → Sem Value}
    (hf : ∀ v u s2 x y H2, Inv X pins σ H2 s2 → RelV x v → RelV y u → R x y H2 → wpAny (model X.prog X.w) X.A (f v u) Q X.xe s2) :
    wpAny (model X.prog X.w) X.A (eval a X.env) (fun v s₁ => wpAny (model X.prog X.w) X.A (eval b X.env) (fun u s₂ => wpAny (model X.prog X.w) X.A (f v u) Q X.xe s₂) X.xe s₁) X.xe s := by
  refine thn (ha pins s σ H _ I h) fun v s1 ⟨x, H1, I1, r1, q1⟩ => ?_
  refine thn (hb pins s1 σ H1 _ I1 q1) fun u s2 ⟨y, H2, I2, r2, q2⟩ => ?_
  exact hf v u s2 x y H2 I2 r1 r2 q2

theorem pe_op {op : Operator} {r : R2} (ho : OpR X (binaryOp op) r) (ha : PE X a ta) (hb : PE X b tb) : PE X (.BinOp a op b pos) (tOp r ta tb) := by
  intro pins s σ H Q I h
  exact wpAny_BinOp (binT ha hb I h fun v u s2 x y H2 I2 rx ry q => ho pins s2 σ H2 x y v u Q I2 rx ry q)
theorem pe_un {op : UnaryOp} {r : V → Hp → VK → Prop} (ho : UnR X (unaryOp op) r) (ha : PE X a ta) : PE X (.UnaryOp op a pos) (tUn r ta) := by
  intro pins s σ H Q I h
  exact UnaryOp_ (thn (ha pins s σ H _ I h) fun v s1 ⟨x, H1, I1, r1, q1⟩ => ho pins s1 σ H1 x v Q I1 r1 q1)
/-! ### ints -/
theorem opI {f : Value → Value → Sem Value} {C : Int → Int → Prop} {g : Int → Int → Int}
    (rule : ∀ (i j : Int) (t u : Tok) (s : Shared) (Q : Value → Shared → Prop) (E : Value → Shared → Prop), C i j → Q (.int (g i j) s.toks) { s with toks := s.toks + 1 } → wpAny (model X.prog X.w) X.A (f (.int i t) (.int j u)) Q E s) :
    OpR X f (rI C fun i j => .int (g i j)) := by
  intro pins s σ H x y v u Q I rx ry h
  obtain ⟨i, j, rfl, rfl, hc, q⟩ := h
  obtain ⟨t, rfl⟩ := rx
  obtain ⟨t', rfl⟩ := ry
  exact rule i j t t' s _ _ hc ⟨.int (g i j), H, I.tok _, ⟨_, rfl⟩, q⟩
theorem opI0 {f : Value → Value → Sem Value} {g : Int → Int → Int}
    (rule : ∀ (i j : Int) (t u : Tok) (s : Shared) (Q : Value → Shared → Prop) (E : Value → Shared → Prop), Q (.int (g i j) s.toks) { s with toks := s.toks + 1 } → wpAny (model X.prog X.w) X.A (f (.int i t) (.int j u)) Q E s) :
    OpR X f (rI0 fun i j => .int (g i j)) := by
  intro pins s σ H x y v u Q I rx ry h
  obtain ⟨i, j, rfl, rfl, q⟩ := h
  obtain ⟨t, rfl⟩ := rx
  obtain ⟨t', rfl⟩ := ry
  exact rule i j t t' s _ _ ⟨.int (g i j), H, I.tok _, ⟨_, rfl⟩, q⟩
theorem opB0 {f : Value → Value → Sem Value} {g : Int → Int → Bool}
    (rule : ∀ (i j : Int) (t u : Tok) (s : Shared) (Q : Value → Shared → Prop) (E : Value → Shared → Prop), Q (.bool (g i j)) s → wpAny (model X.prog X.w) X.A (f (.int i t) (.int j u)) Q E s) :
    OpR X f (rI0 fun i j => .bl (g i j)) := by
  intro pins s σ H x y v u Q I rx ry h
  obtain ⟨i, j, rfl, rfl, q⟩ := h
  obtain ⟨t, rfl⟩ := rx
  obtain ⟨t', rfl⟩ := ry
  exact rule i j t t' s _ _ ⟨.bl (g i j), H, I, rfl, q⟩

def CDiv (i j : Int) : Prop := 0 < j ∧ j < 1073741824
def CPow (i j : Int) : Prop := 0 ≤ j ∧ j ≤ 1000000 ∧ i.natAbs < 2 ^ 64
theorem op_add : OpR X (binaryOp .Add) (rI0 fun i j => .int (i + j)) := opI0 fun _ _ _ _ _ _ _ q => add_int q
theorem op_sub : OpR X (binaryOp .Sub) (rI0 fun i j => .int (i - j)) := opI0 fun _ _ _ _ _ _ _ q => sub_int q
/-- // by a positive divisor -/
theorem op_fdiv : OpR X (binaryOp .FloorDiv) (rI CDiv fun i j => .int (i / j)) := opI fun i j _ _ _ _ _ hc q => by
  have h1 : (0 : Int) < j := hc.1
  have h2 : j < 1073741824 := hc.2
  exact floordiv_int (by omega) (by rw [Int.fdiv_eq_ediv_of_nonneg i (by omega)]; exact q) (.inl (PyProof.noPylong_small (by omega)))
/-- % by a positive divisor of any size -/
theorem op_mod : OpR X (binaryOp .Mod) (rI (fun _ j => 0 < j) fun i j => .int (i % j)) := opI fun i j _ _ _ _ _ hc q => by
  have h1 : (0 : Int) < j := hc
  exact mod_int' (by omega) (by rw [Int.fmod_eq_emod_of_nonneg i (by omega)]; exact q)
theorem op_pow : OpR X (binaryOp .Pow) (rI CPow fun i j => .int (i ^ j.toNat)) := opI fun _ _ _ _ _ _ _ hc q => pow_int_small hc.1 hc.2.1 hc.2.2 q
theorem unI {f : Value → Sem Value} {g : Int → Int}
    (rule : ∀ (i : Int) (t : Tok) (s : Shared) (Q : Value → Shared → Prop) (E : Value → Shared → Prop), Q (.int (g i) s.toks) { s with toks := s.toks + 1 } → wpAny (model X.prog X.w) X.A (f (.int i t)) Q E s) :
    UnR X f (rU fun i => .int (g i)) := by
  intro pins s σ H x v Q I rx h
  obtain ⟨i, rfl, q⟩ := h
  obtain ⟨t, rfl⟩ := rx
  exact rule i t s _ _ ⟨.int (g i), H, I.tok _, ⟨_, rfl⟩, q⟩
theorem un_neg : UnR X (unaryOp .USub) (rU fun i => .int (-i)) := unI fun _ _ _ _ _ q => neg_int q
/-! ### bools among ints: n += (a < b) -/
end

/-! ### comparisons -/
/-- the scalars that == tells apart as data does -/
def scal : V → V → Bool
  | .non, .non => true | .non, .int _ => true | .int _, .non => true | .non, .bl _ => true | .bl _, .non => true | .non, .str _ => true | .str _, .non => true
  | .int _, .int _ => true | .bl _, .bl _ => true | .str _, .str _ => true | .byt _, .byt _ => true
  | .int _, .str _ => true | .str _, .int _ => true | .bl _, .str _ => true | .str _, .bl _ => true
  | _, _ => false
def rEq : R2 := fun x y H Q => scal x y = true ∧ Q (.bl (decide (x = y))) H
def rNe : R2 := fun x y H Q => scal x y = true ∧ Q (.bl (!decide (x = y))) H

theorem dec_int {i j : Int} : decide (V.int i = V.int j) = (i == j) := by
  rw [Bool.eq_iff_iff]
  simp
theorem dec_bl {i j : Bool} : decide (V.bl i = V.bl j) = (i == j) := by
  rw [Bool.eq_iff_iff]
  simp
theorem dec_str {i j : Str} : decide (V.str i = V.str j) = (i == j) := by
  rw [Bool.eq_iff_iff]
  simp
theorem dec_byt {i j : Array UInt8} : decide (V.byt i = V.byt j) = (i.toList == j.toList) := by
  rw [Bool.eq_iff_iff]
  cases i
  cases j
  simp

section
variable {X : Cx} {a b c : Expr} {ta tb tc : TE} {pos : Pos}
theorem fin_bl {pins : List (Addr × Obj)} {σ : St} {H : Hp} {s : Shared} {Q : VK} {k k' : Bool} (I : Inv X pins σ H s) (q : Q (.bl k) H) (e : k = k') : EP X pins σ Q (.bool k') s := by
  subst e
  exact ⟨.bl k, H, I, rfl, q⟩
theorem op_eq : OpR X (compareOp .Eq) rEq := by
  intro pins s σ H x y v u Q I rx ry h
  obtain ⟨hs, q⟩ := h
  cases x with
  | non =>
    cases rx
    cases y with
    | non => cases ry; exact PySem.EqNone.eq_none_none (fin_bl I q (by simp))
    | bl j => cases ry; exact PySem.EqNone.eq_none_bool (fin_bl I q (by simp))
    | int j => obtain ⟨t', rfl⟩ := ry; exact PySem.EqNone.eq_none_int (fin_bl I q (by simp))
    | str j => obtain ⟨t', rfl⟩ := ry; exact PySem.EqNone.eq_none_str (fin_bl I q (by simp))
    | _ => exact absurd (show false = true from hs) Bool.false_ne_true
  | bl i =>
    cases rx
    cases y with
    | non => cases ry; exact PySem.EqNone.eq_bool_none (fin_bl I q (by simp))
    | bl j => cases ry; exact eq_bool (fin_bl I q dec_bl)
    | str j => obtain ⟨t', rfl⟩ := ry; exact PySem.EqMixed.eq_bool_str (fin_bl I q (by simp))
    | _ => exact absurd (show false = true from hs) Bool.false_ne_true
  | int i =>
    obtain ⟨t, rfl⟩ := rx
    cases y with
    | non => cases ry; exact PySem.EqNone.eq_int_none (fin_bl I q (by simp))
    | int j => obtain ⟨t', rfl⟩ := ry; exact eq_int (fin_bl I q dec_int)
    | str j => obtain ⟨t', rfl⟩ := ry; exact PySem.EqMixed.eq_int_str (fin_bl I q (by simp))
    | _ => exact absurd (show false = true from hs) Bool.false_ne_true
  | str i =>
    obtain ⟨t, rfl⟩ := rx
    cases y with
    | non => cases ry; exact PySem.EqNone.eq_str_none (fin_bl I q (by simp))
    | bl j => cases ry; exact PySem.EqMixed.eq_str_bool (fin_bl I q (by simp))
    | int j => obtain ⟨t', rfl⟩ := ry; exact PySem.EqMixed.eq_str_int (fin_bl I q (by simp))
    | str j => obtain ⟨t', rfl⟩ := ry; exact eq_str (fin_bl I q dec_str)
    | _ => exact absurd (show false = true from hs) Bool.false_ne_true
  | byt i =>
    obtain ⟨t, rfl⟩ := rx
    cases y with
    | byt j => obtain ⟨t', rfl⟩ := ry; exact PySem.W.eq_bytes (fin_bl I q dec_byt)
    | _ => exact absurd (show false = true from hs) Bool.false_ne_true
  | _ => cases y <;> exact absurd (show false = true from hs) Bool.false_ne_true
theorem op_ne : OpR X (compareOp .NotEq) rNe := by
  intro pins s σ H x y v u Q I rx ry h
  obtain ⟨hs, q⟩ := h
  cases x with
  | non =>
    cases rx
    cases y with
    | non => cases ry; exact PySem.EqNone.ne_none_none (fin_bl I q (by simp))
    | bl j => cases ry; exact PySem.EqNone.ne_none_bool (fin_bl I q (by simp))
    | int j => obtain ⟨t', rfl⟩ := ry; exact PySem.EqNone.ne_none_int (fin_bl I q (by simp))
    | str j => obtain ⟨t', rfl⟩ := ry; exact PySem.EqNone.ne_none_str (fin_bl I q (by simp))
    | _ => exact absurd (show false = true from hs) Bool.false_ne_true
  | bl i =>
    cases rx
    cases y with
    | non => cases ry; exact PySem.EqNone.ne_bool_none (fin_bl I q (by simp))
    | bl j => cases ry; exact ne_bool (fin_bl I q (congrArg not dec_bl))
    | str j => obtain ⟨t', rfl⟩ := ry; exact PySem.EqMixed.ne_bool_str (fin_bl I q (by simp))
    | _ => exact absurd (show false = true from hs) Bool.false_ne_true
  | int i =>
    obtain ⟨t, rfl⟩ := rx
    cases y with
    | non => cases ry; exact PySem.EqNone.ne_int_none (fin_bl I q (by simp))
    | int j => obtain ⟨t', rfl⟩ := ry; exact ne_int (fin_bl I q (congrArg not dec_int))
    | str j => obtain ⟨t', rfl⟩ := ry; exact PySem.EqMixed.ne_int_str (fin_bl I q (by simp))
    | _ => exact absurd (show false = true from hs) Bool.false_ne_true
  | str i =>
    obtain ⟨t, rfl⟩ := rx
    cases y with
    | non => cases ry; exact PySem.EqNone.ne_str_none (fin_bl I q (by simp))
    | bl j => cases ry; exact PySem.EqMixed.ne_str_bool (fin_bl I q (by simp))
    | int j => obtain ⟨t', rfl⟩ := ry; exact PySem.EqMixed.ne_str_int (fin_bl I q (by simp))
    | str j => obtain ⟨t', rfl⟩ := ry; exact ne_str (fin_bl I q (congrArg not dec_str))
    | _ => exact absurd (show false = true from hs) Bool.false_ne_true
  | byt i =>
    obtain ⟨t, rfl⟩ := rx
    cases y with
    | byt j => obtain ⟨t', rfl⟩ := ry; exact PySem.W.ne_bytes (fin_bl I q (congrArg not dec_byt))
    | _ => exact absurd (show false = true from hs) Bool.false_ne_true
  | _ => cases y <;> exact absurd (show false = true from hs) Bool.false_ne_true

theorem op_lt : OpR X (compareOp .Lt) (rI0 fun i j => .bl (decide (i < j))) := opB0 fun _ _ _ _ _ _ _ q => lt_int q
theorem op_gt : OpR X (compareOp .Gt) (rI0 fun i j => .bl (decide (j < i))) := opB0 fun _ _ _ _ _ _ _ q => gt_int q
theorem op_ge : OpR X (compareOp .GtE) (rI0 fun i j => .bl (decide (j ≤ i))) := opB0 fun _ _ _ _ _ _ _ q => ge_int q
/-- the one string within the other -/
theorem op_in_str : OpR X (compareOp .In) (fun x y H Q => ∃ i j, x = .str i ∧ y = .str j ∧ Q (.bl (!(Builtin.Str.occurrences j i 0 j.length 1).isEmpty)) H) := by
  intro pins s σ H x y v u Q I rx ry h
  obtain ⟨i, j, rfl, rfl, q⟩ := h
  obtain ⟨t, rfl⟩ := rx
  obtain ⟨t', rfl⟩ := ry
  exact in_str (fin_bl I q rfl)

theorem op_notin_str : OpR X (compareOp .NotIn) (fun x y H Q => ∃ i j, x = .str i ∧ y = .str j ∧ Q (.bl (!(!(Builtin.Str.occurrences j i 0 j.length 1).isEmpty))) H) := by
  intro pins s σ H x y v u Q I rx ry h
  obtain ⟨i, j, rfl, rfl, q⟩ := h
  obtain ⟨t, rfl⟩ := rx
  obtain ⟨t', rfl⟩ := ry
  exact notIn_str (fin_bl I q rfl)
theorem nomark (b : Expr) {op : CmpOp} (h : op ≠ .In := by decide) (h2 : op ≠ .NotIn := by decide) : behindInMarks op b = false := by
  have e1 : (op == CmpOp.In) = false := by cases op <;> first | rfl | exact absurd rfl h
  have e2 : (op == CmpOp.NotIn) = false := by cases op <;> first | rfl | exact absurd rfl h2
  cases b <;> simp [behindInMarks, e1, e2]
/-- a comparison as a value; hm: nomark b, or (for in, not in) by with_unfolding_all rfl -/
theorem pe_cmpR {op : CmpOp} {r : R2} (ho : OpR X (compareOp op) r) (ha : PE X a ta) (hb : PE X b tb) (hm : behindInMarks op b = false) : PE X (.Compare a [op] [b] pos) (tOp r ta tb) := by
  intro pins s σ H Q I h
  exact wpAny_Compare1 (binT ha hb I h fun v u s2 x y H2 I2 rx ry q => ho pins s2 σ H2 x y v u Q I2 rx ry q) hm
/-- a reading of a value as a test -/
def tTest (t : TE) : TT := fun σ H Q => t σ H fun x H' => ∃ k, x = .bl k ∧ Q k H'
theorem pt_cmpR {op : CmpOp} {r : R2} (ho : OpR X (compareOp op) r) (ha : PE X a ta) (hb : PE X b tb) (hm : behindInMarks op b = false) : PT X (.Compare a [op] [b] pos) (tTest (tOp r ta tb)) := by
  intro pins s σ H Q I h
  refine wpAny_isTrue_Compare1 (thn (ha pins s σ H _ I h) fun v s1 ⟨x, H1, I1, r1, q1⟩ => thn (hb pins s1 σ H1 _ I1 q1) fun u s2 ⟨y, H2, I2, r2, q2⟩ =>
    thn (ho pins s2 σ H2 x y v u _ I2 r1 r2 q2) fun c s3 ⟨z, H3, I3, r3, k, e, q3⟩ => ?_) hm
  subst e
  cases r3
  exact wpAny_truthy_bool ⟨H3, I3, q3⟩
/-- a op1 b op2 c -/
def tChain (r r' : R2) (ta tb tc : TE) : TE := fun σ H Q => ta σ H fun x H1 => tb σ H1 fun y H2 => r x y H2 fun z H3 => ∃ k, z = .bl k ∧
  (if k = true then tc σ H3 fun w' H4 => r' y w' H4 Q else Q (.bl false) H3)
theorem pt_chain {op op' : CmpOp} {r r' : R2} (ho : OpR X (compareOp op) r) (ho' : OpR X (compareOp op') r') (ha : PE X a ta) (hb : PE X b tb) (hc : PE X c tc)
    (hm : lastMarks [op, op'] [b, c] = false := by with_unfolding_all rfl) : PT X (.Compare a [op, op'] [b, c] pos) (tTest (tChain r r' ta tb tc)) := by
  intro pins s σ H Q I h
  refine isTrue_chain (thn (ha pins s σ H _ I h) fun v s1 ⟨x, H1, I1, r1, q1⟩ => test_link (thn (hb pins s1 σ H1 _ I1 q1) fun u s2 ⟨y, H2, I2, r2, q2⟩ =>
    thn (ho pins s2 σ H2 x y v u _ I2 r1 r2 q2) fun d s3 ⟨z, H3, I3, r3, k, e, q3⟩ => ?_)) hm
  subst e
  cases r3
  refine wpAny_truthy_bool ?_
  cases k with
  | false =>
    obtain ⟨k', e', q'⟩ := q3
    cases e'
    exact ite_ff ⟨H3, I3, q'⟩
  | true =>
    refine ite_tt (test_last (thn (hc pins s3 σ H3 _ I3 q3) fun w' s4 ⟨z', H4, I4, r4, q4⟩ => thn (ho' pins s4 σ H4 y z' u w' _ I4 r2 r4 q4) fun d' s5 ⟨z2, H5, I5, r5, k2, e2, q5⟩ => ?_))
    subst e2
    cases r5
    exact wpAny_truthy_bool ⟨H5, I5, q5⟩

/-! ### truth -/
/-- a value's truth by the abstract heap -/
def TruV (K : PySem.W.Frag) (x : V) (H : Hp) (k : Bool) : Prop :=
  match x with
  | .non => k = false
  | .bl b => k = b
  | .int i => k = (i != 0)
  | .str y => y.length ≤ sizeLine ∧ k = ((y.length : Int) != 0)
  | .byt y => y.size ≤ sizeLine ∧ k = ((y.size : Int) != 0)
  | .ref p => (∃ xs, SqL K H p xs ∧ k = !xs.isEmpty) ∨ (∃ xs, SqT K H p xs ∧ k = !xs.isEmpty) ∨ ∃ kvs, H p = some (.dK kvs) ∧ k = !kvs.isEmpty
  | _ => False
theorem isEmpty_kv {κ : Type} {kvs : List (κ × V)} {vs : List (κ × Value)} (r : KV kvs vs) : (!vs.isEmpty) = !kvs.isEmpty := by
  cases r <;> rfl
theorem isEmpty_of {xs : List V} {its : List Value} (r : Vals xs its) : (!its.toArray.isEmpty) = !xs.isEmpty := by
  cases r <;> simp
theorem line63 : (sizeLine : Nat) < 2 ^ 63 := by rw [sizeLine_eq]; decide
theorem tru_ok : TruR X (fun x H Q => ∃ k, TruV X.K x H k ∧ Q k H) := by
  intro pins s σ H x v Q I rx h
  obtain ⟨k, e, q⟩ := h
  have hl := line63
  have hs : sizeLine = 16777216 := sizeLine_eq
  cases x with
  | non =>
    cases rx
    have e' : k = false := e
    subst e'
    exact truthy_none ⟨H, I, q⟩
  | bl b =>
    cases rx
    have e' : k = b := e
    subst e'
    exact wpAny_truthy_bool ⟨H, I, q⟩
  | int i =>
    obtain ⟨t, rfl⟩ := rx
    have e' : k = (i != 0) := e
    subst e'
    exact PySem.P.truthy_int ⟨H, I, q⟩
  | str y =>
    obtain ⟨t, rfl⟩ := rx
    obtain ⟨hy, e'⟩ : y.length ≤ sizeLine ∧ k = ((y.length : Int) != 0) := e
    subst e'
    exact PySem.P.truthy_str (by omega) ⟨H, I.tok _, q⟩
  | byt y =>
    obtain ⟨t, rfl⟩ := rx
    obtain ⟨hy, e'⟩ : y.size ≤ sizeLine ∧ k = ((y.size : Int) != 0) := e
    subst e'
    exact PySem.W.truthy_bytes (by omega) ⟨H, I.tok _, q⟩
  | ref p =>
    cases rx
    have e' : (∃ xs, SqL X.K H p xs ∧ k = !xs.isEmpty) ∨ (∃ xs, SqT X.K H p xs ∧ k = !xs.isEmpty) ∨ ∃ kvs, H p = some (.dK kvs) ∧ k = !kvs.isEmpty := e
    rcases e' with ⟨xs, hx, e'⟩ | ⟨xs, hx, e'⟩ | ⟨kvs, hx, e'⟩
    · subst e'
      obtain ⟨its, r, pl, hz⟩ := I.list hx
      have hlen := r.length
      exact wpAny_truthy_list pl.isList (by simp only [List.size_toArray]; omega) ⟨H, I.tok _, by rw [isEmpty_of r]; exact q⟩
    · subst e'
      obtain ⟨its, r, pl, hz⟩ := I.tuple hx
      have hlen := r.length
      exact truthy_tuple pl (by simp only [List.size_toArray]; omega) ⟨H, I.tok _, by rw [isEmpty_of r]; exact q⟩
    · subst e'
      obtain ⟨hz, hS, vs, r, m⟩ : kvs.length ≤ sizeLine ∧ (p == sysModules) = false ∧ ∃ vs, KV kvs vs ∧ s.heap.DictOf (mixKind X.prog X.w) p vs := I.hok p _ hx
      have hlen : kvs.length = vs.length := Paired.length r
      exact wpAny_truthy_dict hS m (by omega) ⟨H, I.tok _, by rw [isEmpty_kv r]; exact q⟩
  | _ => exact (show False from e).elim
/-- any expression whose test is its value's truth (a name, a call, a subscript, a field ..: he by fun _ => rfl) -/
theorem pt_truth (ha : PE X a ta) (he : ∀ whole, isTrue a X.env whole = (do let v ← whole; standAt a.pos; holding [v] (truthy v))) :
    PT X a (fun σ H Q => ta σ H fun x H' => ∃ k, TruV X.K x H' k ∧ Q k H') := by
  intro pins s σ H Q I h
  exact isTrue_plain (thn (ha pins s σ H _ I h) fun v s1 ⟨x, H1, I1, r1, q1⟩ => tru_ok pins s1 σ H1 x v Q I1 r1 q1) (he _)

/-! ### strs and bytes -/
theorem op_add_str : OpR X (binaryOp .Add) (fun x y H Q => ∃ i j, x = .str i ∧ y = .str j ∧ i.length + j.length ≤ sizeLine ∧ Q (.str (i ++ j)) H) := by
  intro pins s σ H x y v u Q I rx ry h
  obtain ⟨i, j, rfl, rfl, hz, q⟩ := h
  obtain ⟨t, rfl⟩ := rx
  obtain ⟨t', rfl⟩ := ry
  exact add_str (fun t' tk => ⟨.str (i ++ j), H, I.tok _, ⟨_, rfl⟩, q⟩) hz
/-! ### scalar builtins, by CallR -/
theorem vals1 {x : V} {us : List Value} (r : Vals [x] us) : ∃ u, us = [u] ∧ RelV x u := by
  cases r with
  | cons r1 r2 => cases r2; exact ⟨_, rfl, r1⟩
theorem vals2 {x y : V} {us : List Value} (r : Vals [x, y] us) : ∃ u w', us = [u, w'] ∧ RelV x u ∧ RelV y w' := by
  cases r with
  | cons r1 r2 =>
    cases r2 with
    | cons r3 r4 => cases r4; exact ⟨_, _, rfl, r1, r3⟩
theorem call_abs : CallR X (.builtin "abs") (fun xs H Q => ∃ i, xs = [.int i] ∧ Q (.int (if i < 0 then -i else i)) H) := by
  intro pins s σ H xs us Q I r h
  obtain ⟨i, rfl, q⟩ := h
  obtain ⟨u, rfl, t, rfl⟩ := vals1 r
  exact call_abs_int fun u tk => ⟨.int (if i < 0 then -i else i), H, I.tok _, ⟨_, rfl⟩, q⟩
theorem call_int1 : CallR X (.type "int") (fun xs H Q => (∃ i, xs = [.int i] ∧ Q (.int i) H) ∨ ∃ k, xs = [.bl k] ∧ Q (.int (if k then 1 else 0)) H) := by
  intro pins s σ H xs us Q I r h
  rcases h with ⟨i, rfl, q⟩ | ⟨k, rfl, q⟩
  · obtain ⟨u, rfl, t, rfl⟩ := vals1 r
    exact call_int_int ⟨.int i, H, I, ⟨_, rfl⟩, q⟩
  · obtain ⟨u, rfl, r1⟩ := vals1 r
    cases r1
    exact call_int_bool ⟨.int (if k then 1 else 0), H, I.tok _, ⟨_, rfl⟩, q⟩
theorem call_str_int : CallR X (.type "str") (fun xs H Q => ∃ i, xs = [.int i] ∧ i.natAbs.log2 < 1920 ∧ Q (.str (toString i)) H) := by
  intro pins s σ H xs us Q I r h
  obtain ⟨i, rfl, hz, q⟩ := h
  obtain ⟨u, rfl, t, rfl⟩ := vals1 r
  exact PySem.P.str_of_int hz ⟨.str _, H, I.tok _, ⟨_, rfl⟩, q⟩
end
end L2

namespace L2
open PySem PySem.Spec PyProof.Rows

/-! ### an instance, its attributes a map -/
structure ObjM (h : Heap) (x dx C : Addr) (mA : Str → Option Value) : Prop where
  obj : h.get? x = some (PySem.W.instObj C dx)
  ns : h.Ns1 dx mA
  ne : dx ≠ x

theorem lookIn_ns {h : Heap} {dx : Addr} {mA : Str → Option Value} (n : h.Ns1 dx mA) : ∃ od, h.get? dx = some od ∧ ∀ name, PySem.W.lookIn name od = some (mA name) := by
  obtain ⟨o, es, ep, ho, hd, hk, _, hm⟩ := n
  refine ⟨o, ho, fun name => ?_⟩
  have e := hm name
  unfold nsFind findBy at e
  rw [← Array.find?_toList] at e
  unfold PySem.W.lookIn
  rw [hd]
  dsimp only
  split
  · rename_i y q
    rw [q] at e
    exact congrArg some e
  · rename_i q
    rw [q] at e
    have a : es.toList.any (·.refKey) = false := by
      rw [List.any_eq_false]
      intro y hy
      obtain ⟨z, t, hkey⟩ := hk y (Array.mem_toList_iff.mp hy)
      simp [DictEntry.refKey, hkey]
    have a' : ¬ es.toList.any (·.refKey) = true := by rw [a]; exact Bool.false_ne_true
    rw [if_neg a']
    exact congrArg some e

theorem ObjM.look {h : Heap} {x dx C : Addr} {mA : Str → Option Value} (I : ObjM h x dx C mA) : ∃ od, PySem.W.InstAt h x (PySem.W.instObj C dx) C (some od) ∧ ∀ name, PySem.W.lookIn name od = some (mA name) :=
  let ⟨od, ho, hl⟩ := lookIn_ns I.ns
  ⟨od, ⟨I.obj, rfl, rfl, ho⟩, hl⟩

section
variable {prog : Program} {w : World} {A : Around} {E : Value → Shared → Prop} {s : Shared} {K : PySem.W.Frag} {x dx C f : Addr} {mA : Str → Option Value} {name : Str} {v : Value}

theorem get_map {expr : Bool} {Q : Value → Shared → Prop} (X : K.In s.heap) (I : ObjM s.heap x dx C mA) (hg : PySem.W.plainGet K C name = true) (hh : PySem.W.hasDictIn K C = true)
    (ha : PySem.W.findIn K (.ref C) name = some none) (hv : mA name = some v) (hv' : PySem.W.handedIn v = true) (h : Q v { s with toks := s.toks + 1 }) :
    wpAny (model prog w) A (getAttr (.ref x) name expr) Q E s := by
  obtain ⟨od, J, hl⟩ := I.look
  exact PySem.W.get_value X J (PySem.W.plainGet_of hg).1 (PySem.W.findObj_own hh ha rfl (by rw [hl, hv])) hv' h

theorem get_meth {pl : Sem Bool} {Q : Value × List Value → Shared → Prop} (X : K.In s.heap) (I : ObjM s.heap x dx C mA) (hg : PySem.W.plainGet K C name = true)
    (hf : PySem.W.findIn K (.ref C) name = some (some (.ref f))) (ht : PySem.W.isFn K (.ref f) = true) (hv : mA name = none) (h : Q (.ref f, [.ref x]) s) :
    wpAny (model prog w) A (getMethod (.ref x) name pl) Q E s := by
  obtain ⟨od, J, hl⟩ := I.look
  exact PySem.W.method_fn X J (PySem.W.plainGet_of hg).1 (PySem.W.plainGet_of hg).2 hf (beq_iff_eq.mp ht) (by show (PySem.W.lookIn name od).map (·.isSome) = some false; rw [hl, hv]; rfl) h

theorem set_map {ns : List Str} {Q : Unit → Shared → Prop} (X : K.In s.heap) (I : ObjM s.heap x dx C mA)
    (hs : PySem.W.findIn K (.ref C) "__setattr__" = some (some (.builtin "object.__setattr__"))) (hp : PySem.W.plainOver K C = true) (ht : PySem.W.takerIn K C name = some none) (hh : PySem.W.hasDictIn K C = true)
    (hw : PySem.Within mA ns) (hsz : ns.length ≤ sizeLine)
    (h : ∀ h', ObjM h' x dx C (fun y => if y = name then some v else mA y) → Heap.SameBut dx s.heap h' → Q () { s with heap := h', toks := s.toks + 2 }) :
    wpAny (model prog w) A (setAttr (.ref x) name v) Q E s := by
  obtain ⟨od, J, hl⟩ := I.look
  refine PySem.W.set_plain X J hs (PySem.W.osa_open (s := { s with toks := s.toks + 1 }) (r := none) X J hp ht fun b => ?_)
  obtain ⟨cd, hc, hd'⟩ := PySem.W.any_some hh
  have hx : s.heap.get? x = some ⟨.ref C, some dx, .plain, #[]⟩ := I.obj
  refine wpAny_bind (wpAny_pure (wpAny_bind (wpAny_bind (wpAny_loadPart hx (wpAny_bind (PySem.W.Looks.here (s := { s with toks := s.toks + 1 }) (PySem.W.looks_clsIn X hc) ?_))))))
  rw [hd']
  refine wpAny_pure (a := some dx) (wpAny_bind (wpAny_pure (wpAny_bind ?_)))
  refine wpAny_nsSet1 (s := { s with toks := s.toks + 1 }) I.ns fun h' hn2 hs2 => ?_
  obtain ⟨oD, esD, epD, hoD, hdD, hcD⟩ := hn2.count (PySem.Within.cons name v hw)
  refine wpAny_bind (wpAny_lookBehind hoD (by rw [hdD]; exact pastItsLine_dict (Nat.le_trans hcD (by rw [List.length_cons]; omega))) ?_)
  exact wpAny_pure (h _ ⟨(hs2.2 _ (Ne.symm I.ne)).trans I.obj, hn2, I.ne⟩ hs2)

/-- C(..): the dict at the heap's end, the instance behind it; then its __init__ -/
theorem make_map {R : Result → Shared → Prop} {vs : List Value} {kw : List (Str × Value)} (X : K.In s.heap) (hm : PySem.W.makesIn K C = true)
    (hi : PySem.W.findIn K (.ref C) "__init__" = some (some (.ref f))) (hf : PySem.W.typeIn K (.ref f) = some (.type "function"))
    (h : codeAny (model prog w) (A.under (.builtin "type.__call__" ⟨.ref C :: vs, kw⟩)) (.call (.ref f) ⟨.ref (s.heap.objs.size + 1) :: vs, kw⟩) (PySem.W.InitBack (s.heap.objs.size + 1) R)
      { s with heap := (s.heap.push PySem.W.emptyDict).push (PySem.W.instObj C s.heap.objs.size) }) :
    codeAny (model prog w) A (.call (.ref C) ⟨vs, kw⟩) R s := by
  obtain ⟨hh, g, d, t, os⟩ := s
  exact PySem.W.make_core (PySem.W.makes_of X hm) (PySem.W.looks_findIn X hi) (fun self => PySem.W.bind_fn X self hf) (.inl rfl) h
end

/-! ### the attributes as a list of pairs -/
def putF (f : Str) (v : V) : List (Str × V) → List (Str × V)
  | [] => [(f, v)]
  | (g, x) :: r => if g = f then (g, v) :: r else (g, x) :: putF f v r
theorem lookup_putF (f g : Str) (v : V) : ∀ fs : List (Str × V), (putF f v fs).lookup g = if g = f then some v else fs.lookup g
  | [] => by
    show List.lookup g [(f, v)] = _
    by_cases h : g = f
    · have hb : (g == f) = true := beq_iff_eq.mpr h
      simp only [List.lookup, hb, if_pos h]
    · have hb : (g == f) = false := beq_eq_false_iff_ne.mpr h
      simp only [List.lookup, hb, if_neg h]
  | (k, x) :: r => by
    have ih := lookup_putF f g v r
    rw [show putF f v ((k, x) :: r) = (if k = f then (k, v) :: r else (k, x) :: putF f v r) from rfl]
    by_cases hk : k = f
    · rw [if_pos hk]
      by_cases h : g = k
      · have hb : (g == k) = true := beq_iff_eq.mpr h
        simp only [List.lookup, hb, if_pos (h.trans hk)]
      · have hb : (g == k) = false := beq_eq_false_iff_ne.mpr h
        simp only [List.lookup, hb, if_neg (fun e : g = f => h (e.trans hk.symm))]
    · rw [if_neg hk]
      by_cases h : g = k
      · have hb : (g == k) = true := beq_iff_eq.mpr h
        simp only [List.lookup, hb, if_neg (fun e : g = f => hk (h.symm.trans e))]
      · have hb : (g == k) = false := beq_eq_false_iff_ne.mpr h
        simp only [List.lookup, hb]
        exact ih
theorem keys_putF (f : Str) (v : V) : ∀ fs : List (Str × V), f ∈ (putF f v fs).map (·.1) ∧ ∀ g, g ∈ fs.map (·.1) → g ∈ (putF f v fs).map (·.1)
  | [] => ⟨by simp [putF], fun g h => by simp at h⟩
  | (k, x) :: r => by
    obtain ⟨i1, i2⟩ := keys_putF f v r
    rw [show putF f v ((k, x) :: r) = (if k = f then (k, v) :: r else (k, x) :: putF f v r) from rfl]
    by_cases hk : k = f
    · rw [if_pos hk]
      subst hk
      exact ⟨by simp, fun g h => by simpa using h⟩
    · rw [if_neg hk]
      refine ⟨?_, fun g h => ?_⟩
      · rw [List.map_cons]
        exact List.mem_cons_of_mem _ i1
      · rw [List.map_cons] at h ⊢
        rcases List.mem_cons.mp h with e | e
        · exact List.mem_cons.mpr (.inl e)
        · exact List.mem_cons_of_mem _ (i2 g e)
theorem length_putF (f : Str) (v : V) : ∀ fs : List (Str × V), (putF f v fs).length ≤ fs.length + 1
  | [] => by simp [putF]
  | (k, x) :: r => by
    have ih := length_putF f v r
    rw [show putF f v ((k, x) :: r) = (if k = f then (k, v) :: r else (k, x) :: putF f v r) from rfl]
    by_cases hk : k = f
    · rw [if_pos hk, List.length_cons, List.length_cons]; omega
    · rw [if_neg hk, List.length_cons, List.length_cons]; omega

theorem RelO.some_of {v : V} {o : Option Value} (r : RelO (some v) o) : ∃ u, o = some u ∧ RelV v u := by
  cases o with
  | none => exact (show False from r).elim
  | some u => exact ⟨u, rfl, r⟩
theorem RelO.none_of {o : Option Value} (r : RelO none o) : o = none := by
  cases o with
  | none => rfl
  | some u => exact (show False from r).elim
theorem handed_of {v : V} {u : Value} (r : RelV v u) : PySem.W.handedIn u = true := by
  cases v with
  | non => cases (show u = Value.none from r); rfl
  | bl b => cases (show u = Value.bool b from r); rfl
  | int i => obtain ⟨t, e⟩ := (show ∃ t, u = Value.int i t from r); cases e; rfl
  | str x => obtain ⟨t, e⟩ := (show ∃ t, u = Value.str x t from r); cases e; rfl
  | byt b => obtain ⟨t, e⟩ := (show ∃ t, u = Value.bytes b t from r); cases e; rfl
  | flt b => obtain ⟨t, e⟩ := (show ∃ t, u = Value.float b t from r); cases e; rfl
  | ref a => cases (show u = Value.ref a from r); rfl
  | ty n => cases (show u = Value.type n from r); rfl

section
variable {P : Program} {w : World} {H H' : Hp} {h h' : Heap} {a C dx : Addr} {fs fs' : List (Str × V)}
theorem ins_get (hok : HOk P w H h) (e : H a = some (.ins C dx fs)) : ∃ mA, ObjM h a dx C mA ∧ (∀ f, RelO (fs.lookup f) (mA f)) ∧ PySem.Within mA (fs.map (·.1)) ∧ fs.length ≤ 1000 ∧ H dx = some (.own a) := by
  obtain ⟨d, z, ne, ob, mA, n, r, q⟩ := (show ObjOk P w H h a (.ins C dx fs) from hok a _ e)
  exact ⟨mA, ⟨ob, n, ne⟩, r, q, z, d⟩
end

/-! ### what of the text a class must have -/
structure Cls (K : PySem.W.Frag) (C : Addr) : Prop where
  pg : PySem.W.plainGet K C Str.empty = true
  hd : PySem.W.hasDictIn K C = true
  po : PySem.W.plainOver K C = true
  sa : PySem.W.findIn K (.ref C) "__setattr__" = some (some (.builtin "object.__setattr__"))
theorem Cls.get {K : PySem.W.Frag} {C : Addr} (c : Cls K C) (f : Str) : PySem.W.plainGet K C f = true := c.pg
/-- no class of it has the name -/
def NoAttr (K : PySem.W.Frag) (C : Addr) (f : Str) : Prop := PySem.W.findIn K (.ref C) f = some none
theorem NoAttr.taker {K : PySem.W.Frag} {C : Addr} {f : Str} (n : NoAttr K C f) : PySem.W.takerIn K C f = some none := by
  unfold PySem.W.takerIn
  rw [show PySem.W.findIn K (.ref C) f = some none from n]
  rfl
/-- a method: a plain def of the class or of one above it -/
structure Meth (K : PySem.W.Frag) (C : Addr) (m : Str) (f : Addr) : Prop where
  at_ : PySem.W.findIn K (.ref C) m = some (some (.ref f))
  fn : PySem.W.isFn K (.ref f) = true
  kp : PySem.W.keepIn K (.ref f) = true

section
variable {X : Cx} {pins : List (Addr × Obj)} {σ : St} {H : Hp} {s : Shared} {a C dx : Addr} {fs : List (Str × V)} {f : Str} {v : V} {A : Around} {E : Value → Shared → Prop}

theorem getattr_ok {b : Bool} {Q : Value → Shared → Prop} (I : Inv X pins σ H s) (e : H a = some (.ins C dx fs)) (c : Cls X.K C) (n : NoAttr X.K C f) (l : fs.lookup f = some v)
    (h : ∀ u s', Inv X pins σ H s' → RelV v u → Q u s') : wpAny (model X.prog X.w) A (getAttr (.ref a) f b) Q E s := by
  obtain ⟨mA, O, r, _, _, _⟩ := ins_get I.hok e
  obtain ⟨u, hu, ru⟩ := RelO.some_of (v := v) (o := mA f) (by rw [← l]; exact r f)
  exact get_map I.kIn O (c.get f) c.hd n hu (handed_of ru) (h u _ (I.tok _) ru)

theorem getmeth_ok {m : Str} {g : Addr} {pl : Sem Bool} {Q : Value × List Value → Shared → Prop} (I : Inv X pins σ H s) (e : H a = some (.ins C dx fs)) (c : Cls X.K C) (k : Meth X.K C m g) (l : fs.lookup m = none)
    (h : Q (.ref g, [.ref a]) s) : wpAny (model X.prog X.w) A (getMethod (.ref a) m pl) Q E s := by
  obtain ⟨mA, O, r, _, _, _⟩ := ins_get I.hok e
  have hn : mA m = none := RelO.none_of (by rw [← l]; exact r m)
  exact get_meth I.kIn O (c.get m) k.at_ k.fn hn h

theorem setattr_ok {y : V} {u : Value} {Q : Unit → Shared → Prop} (I : Inv X pins σ H s) (e : H a = some (.ins C dx fs)) (c : Cls X.K C) (n : NoAttr X.K C f) (hl : fs.length < 1000) (ry : RelV y u)
    (h : ∀ s', Inv X pins σ (upd H a (.ins C dx (putF f y fs))) s' → Q () s') : wpAny (model X.prog X.w) A (setAttr (.ref a) f u) Q E s := by
  obtain ⟨mA, O, r, wi, _, ho⟩ := ins_get I.hok e
  have hz : (fs.map (·.1)).length ≤ sizeLine := by rw [List.length_map, sizeLine_eq]; omega
  refine set_map I.kIn O c.sa c.po n.taker c.hd wi hz fun h' O' sb => h _ ?_
  have hd : ∃ o, h'.get? dx = some o := let ⟨o, _, _, e', _⟩ := O'.ns; ⟨o, e'⟩
  refine I.write (x := a) (e := dx) (by rw [e]; exact True.intro) (.inr ho) (fun b q hb z => (sb.2 b hb).trans z) hd ?_
  refine ⟨by rw [upd_ne O.ne]; exact ho, ?_, O.ne, O'.obj, _, O'.ns, fun g => ?_, fun g hg => ?_⟩
  · have := length_putF f y fs; omega
  · show RelO ((putF f y fs).lookup g) (if g = f then some u else mA g)
    rw [lookup_putF]
    by_cases q : g = f
    · rw [if_pos q, if_pos q]; exact ry
    · rw [if_neg q, if_neg q]; exact r g
  · by_cases q : g = f
    · rw [q]; exact (keys_putF f y fs).1
    · refine (keys_putF f y fs).2 g (wi g fun z => hg ?_)
      show (if g = f then some u else mA g) = none
      rw [if_neg q]; exact z

/-- a new instance, tracked, without attributes -/
theorem Inv.made (I : Inv X pins σ H s) : Inv X pins σ (upd (upd H s.heap.objs.size (.own (s.heap.objs.size + 1))) (s.heap.objs.size + 1) (.ins C s.heap.objs.size []))
    { s with heap := (s.heap.push PySem.W.emptyDict).push (PySem.W.instObj C s.heap.objs.size) } := by
  have e1 : (s.heap.push PySem.W.emptyDict).get? s.heap.objs.size = some PySem.W.emptyDict := Heap.get?_push_size s.heap rfl
  have e2 : ((s.heap.push PySem.W.emptyDict).push (PySem.W.instObj C s.heap.objs.size)).get? (s.heap.objs.size + 1) = some (PySem.W.instObj C s.heap.objs.size) := by
    have := Heap.get?_push_size (s.heap.push PySem.W.emptyDict) (o := PySem.W.instObj C s.heap.objs.size) rfl
    rwa [Heap.size_push] at this
  have e3 : (s.heap.push PySem.W.emptyDict).Ns s.heap.objs.size (fun _ => none) := ⟨PySem.W.emptyDict, #[], _, e1, rfl, (fun e he => absurd he (by simp)), fun _ => rfl⟩
  have I1 := I.laid (a := s.heap.objs.size) (o := .own (s.heap.objs.size + 1)) (h' := s.heap.push PySem.W.emptyDict) (t' := s.toks) (fun b u q => Heap.get?_push_of_some _ q) (Nat.le_refl _) ⟨_, e1⟩
  refine I1.laid (a := s.heap.objs.size + 1) (o := .ins C s.heap.objs.size []) (t' := s.toks) (fun b u q => Heap.get?_push_of_some _ q) (Nat.le_of_eq (Heap.size_push _ _)) ?_
  have ne : s.heap.objs.size ≠ s.heap.objs.size + 1 := Nat.ne_of_lt (Nat.lt_succ_self _)
  refine ⟨by rw [upd_ne ne, upd_same], Nat.zero_le _, ne, e2, fun _ => none, (Heap.Ns1.of_empty e3).at fun o q => Heap.get?_push_of_some _ q, fun _ => True.intro, fun y hy => absurd rfl hy⟩

/-- e.f where nothing but the object is asked: through attributeBase (super) and the last hold -/
theorem attr_of {prog : Program} {w : World} {env : Env} {e : Expr} {f : Str} {pos : Pos} {s : Shared} {Q : Value → Shared → Prop} (hb : attributeBase e f env (eval e env) = eval e env)
    (h : wpAny (model prog w) A (eval e env) (fun o s₁ => wpAny (model prog w) A (getAttr o f true) Q E s₁) E s) : wpAny (model prog w) A (eval (.Attribute e f pos) env) Q E s :=
  Attribute_any_ h (by rw [arm_eval_Attribute, hb])
end

/-! ### readings and rules -/
/-- e.f, an attribute of the instance -/
def tFld (K : PySem.W.Frag) (ta : TE) (f : Str) : TE := fun σ H Q => ta σ H fun x H1 => ∃ a C dx fs v, x = .ref a ∧ H1 a = some (.ins C dx fs) ∧ Cls K C ∧ NoAttr K C f ∧ fs.lookup f = some v ∧ Q v H1
/-- e.f = value -/
def sFld (K : PySem.W.Frag) (ta tv : TE) (f : Str) : TS := fun D σ H => tv σ H fun y H1 => ta σ H1 fun x H2 => ∃ a C dx fs, x = .ref a ∧ H2 a = some (.ins C dx fs) ∧ Cls K C ∧ NoAttr K C f ∧ fs.length < 1000 ∧
  D.nx σ (upd H2 a (.ins C dx (putF f y fs)))
/-- an augmented operator on two values -/
def InOp (X : Cx) (op : Operator) (rd : V → V → Hp → VK → Prop) : Prop :=
  ∀ (pins : List (Addr × Obj)) (s : Shared) (σ : St) (H : Hp) (x y : V) (u v : Value) (Q : VK), Inv X pins σ H s → RelV x u → RelV y v → rd x y H Q → wpAny (model X.prog X.w) X.A (inplaceOp op u v) (EP X pins σ Q) X.xe s
/-- e.f op= value -/
def sFldAug (K : PySem.W.Frag) (ta tv : TE) (rd : V → V → Hp → VK → Prop) (f : Str) : TS := fun D σ H => ta σ H fun x H1 => ∃ a C dx fs v, x = .ref a ∧ H1 a = some (.ins C dx fs) ∧ Cls K C ∧ NoAttr K C f ∧ fs.lookup f = some v ∧
  tv σ H1 fun y H2 => rd v y H2 fun z H3 => ∃ dx' fs', H3 a = some (.ins C dx' fs') ∧ fs'.length < 1000 ∧ D.nx σ (upd H3 a (.ins C dx' (putF f z fs')))

section
variable {X : Cx} {o e value : Expr} {f : Str} {pos pos' tpos : Pos} {ta tv : TE}
theorem pe_fld (he : PE X e ta) (hb : attributeBase e f X.env (eval e X.env) = eval e X.env) : PE X (.Attribute e f pos) (tFld X.K ta f) := by
  intro pins s σ H Q I h
  refine attr_of hb (thn (he pins s σ H _ I h) fun u s1 ⟨x, H1, I1, rx, a, C, dx, fs, v, ex, ea, c, n, l, q⟩ => ?_)
  subst ex
  obtain rfl : u = Value.ref a := rx
  exact getattr_ok I1 ea c n l fun u' s2 I2 ru => ⟨v, H1, I2, ru, q⟩
theorem ps_fld (ha : PE X o ta) (hv : PE X value tv) (hs : swapsWith value (some (.Attribute o f pos')) pos.line X.env = pure false) : PS X (.Assign [.Attribute o f pos'] value pos) (sFld X.K ta tv f) := by
  intro pins s σ H D I h
  refine plainObj_wpAny_Assign_Attribute (thn (hv pins s σ H _ I h) fun u s1 ⟨y, H1, I1, ry, q⟩ => thn (ha pins s1 σ H1 _ I1 q) fun ov s2 ⟨x, H2, I2, rx, a, C, dx, fs, ex, ea, c, n, l, q2⟩ => ?_) hs
  subst ex
  obtain rfl : ov = Value.ref a := rx
  exact setattr_ok I2 ea c n l ry fun s3 I3 => ⟨σ, _, I3, q2⟩
theorem ps_fldaug {op : Operator} {rd : V → V → Hp → VK → Prop} (ha : PE X o ta) (hv : PE X value tv) (hop : InOp X op rd) : PS X (.AugAssign (.Attribute o f tpos) op value pos) (sFldAug X.K ta tv rd f) := by
  intro pins s σ H D I h
  refine wpAny_AugAssign_AttributeAny (thn (ha pins s σ H _ I h) fun ov s1 ⟨x, H1, I1, rx, a, C, dx, fs, v, ex, ea, c, n, l, q⟩ => ?_)
  subst ex
  obtain rfl : ov = Value.ref a := rx
  refine getattr_ok I1 ea c n l fun u s2 I2 ru => thn (hv pins s2 σ H1 _ I2 q) fun w3 s3 ⟨y, H2, I3, ry, q3⟩ => thn (hop pins s3 σ H2 v y u w3 _ I3 ru ry q3) fun w4 s4 ⟨z, H3, I4, rz, dx', fs', ea', l', q4⟩ => ?_
  exact setattr_ok I4 ea' c n l' rz fun s5 I5 => ⟨σ, _, I5, q4⟩
def rAdd : V → V → Hp → VK → Prop := fun x y H Q => ∃ i j, x = .int i ∧ y = .int j ∧ Q (.int (i + j)) H
theorem in_add : InOp X .Add rAdd := by
  rintro pins s σ H x y u v Q I rx ry ⟨i, j, rfl, rfl, q⟩
  obtain ⟨t, rfl⟩ := (show ∃ t, u = Value.int i t from rx)
  obtain ⟨t', rfl⟩ := (show ∃ t', v = Value.int j t' from ry)
  exact PyProof.Rows.iadd_int ⟨.int (i + j), H, I.tok _, ⟨_, rfl⟩, q⟩
end

/-! ### isinstance -/
section
variable {X : Cx} {pins : List (Addr × Obj)} {σ : St} {H : Hp} {s : Shared} {A : Around} {E : Value → Shared → Prop} {Q : Value → Shared → Prop} {c : Value} {b : Bool}
/-- the type of a value, as the fragment's deciders take it; for an instance its class -/
inductive TyOf (K : PySem.W.Frag) (H : Hp) : V → Value → Prop where
  | non : TyOf K H .non (.type "NoneType")
  | bl (x : Bool) : TyOf K H (.bl x) (.type "bool")
  | int (i : Int) : TyOf K H (.int i) (.type "int")
  | str (x : Str) : TyOf K H (.str x) (.type "str")
  | flt (x : UInt64) : TyOf K H (.flt x) (.type "float")
  | lst {a : Addr} {xs : List V} (e : H a = some (.lst xs)) : TyOf K H (.ref a) (.type "list")
  | frz {a : Addr} {o : Obj} {xs : List V} (e : H a = some (.frz o (.lst xs))) : TyOf K H (.ref a) (.type "list")
  | tup {a : Addr} {xs : List V} (e : H a = some (.tup xs)) : TyOf K H (.ref a) (.type "tuple")
  | dK {a : Addr} {kvs : List (Key × V)} (e : H a = some (.dK kvs)) : TyOf K H (.ref a) (.type "dict")
  | dT {a : Addr} {kvs : List (List Key × V)} (e : H a = some (.dT kvs)) : TyOf K H (.ref a) (.type "dict")
  | ins {a C dx : Addr} {fs : List (Str × V)} (e : H a = some (.ins C dx fs)) (cl : Cls K C) (ha : PySem.W.findIn K (.ref C) "__class__" = some (some (.builtin "object.__class__")))
      (hn : PySem.W.specialIn K (.builtin "object.__class__") "__get__" = some (some (.builtin "getset_descriptor.__get__"))) (htk : PySem.W.takesIn K (.builtin "object.__class__") = some true)
      (hm : PySem.W.mroIn K C (.type "object") = some true) : TyOf K H (.ref a) (.ref C)
/-- isinstance(x, c) for one class c, a built-in or an own one: kitOne's answer -/
theorem isinst_ok {x : V} {u t : Value} (I : Inv X pins σ H s) (rx : RelV x u) (ty : TyOf X.K H x t) (e : PySem.W.kitOne X.K t c = some b) (h : ∀ tk, Q (.bool b) { s with toks := tk }) :
    wpAny (model X.prog X.w) A (call (.builtin "isinstance") [u, c]) Q E s := by
  cases ty with
  | non => cases (show u = Value.none from rx); exact PySem.W.kia_one PySem.W.kitx_none I.kIn True.intro e (fun z => nomatch z) h
  | bl y => cases (show u = Value.bool y from rx); exact PySem.W.kia_one PySem.W.kitx_bool I.kIn True.intro e (fun z => nomatch z) h
  | int i => obtain ⟨t, q⟩ := (show ∃ t, u = Value.int i t from rx); cases q; exact PySem.W.kia_one PySem.W.kitx_int I.kIn True.intro e (fun z => nomatch z) h
  | str y => obtain ⟨t, q⟩ := (show ∃ t, u = Value.str y t from rx); cases q; exact PySem.W.kia_one PySem.W.kitx_str I.kIn True.intro e (fun z => nomatch z) h
  | flt y => obtain ⟨t, q⟩ := (show ∃ t, u = Value.float y t from rx); cases q; exact PySem.W.kia_one PySem.W.kitx_float I.kIn True.intro e (fun z => nomatch z) h
  | @lst a xs ea =>
    cases (show u = Value.ref a from rx)
    obtain ⟨_, _, n, _, h1⟩ := (show ObjOk X.prog X.w H s.heap a (.lst xs) from I.hok a _ ea)
    exact PySem.W.kia_one PySem.W.kitx_list I.kIn ⟨_, h1, rfl⟩ e (fun z => nomatch z) h
  | @frz a ob xs ea =>
    cases (show u = Value.ref a from rx)
    obtain ⟨_, _, _, n, _, h1⟩ := (show ObjOk X.prog X.w H s.heap a (.frz ob (.lst xs)) from I.hok a _ ea)
    exact PySem.W.kia_one PySem.W.kitx_list I.kIn ⟨_, h1, rfl⟩ e (fun z => nomatch z) h
  | @tup a xs ea =>
    cases (show u = Value.ref a from rx)
    obtain ⟨_, _, _, p⟩ := (show ObjOk X.prog X.w H s.heap a (.tup xs) from I.hok a _ ea)
    obtain ⟨o, h1, h2, _⟩ := p
    exact PySem.W.kia_one PySem.W.kitx_tuple I.kIn ⟨o, h1, h2⟩ e (fun z => nomatch z) h
  | @dK a kvs ea =>
    cases (show u = Value.ref a from rx)
    obtain ⟨_, _, vs, _, p⟩ := (show ObjOk X.prog X.w H s.heap a (.dK kvs) from I.hok a _ ea)
    obtain ⟨o, es, ep, h1, h2, _⟩ := p
    exact PySem.W.kia_one PySem.W.kitx_dict I.kIn ⟨o, h1, h2.1⟩ e (fun z => nomatch z) h
  | @dT a kvs ea =>
    cases (show u = Value.ref a from rx)
    obtain ⟨_, _, xs, _, o, es, ep, h1, h2, _⟩ := (show ObjOk X.prog X.w H s.heap a (.dT kvs) from I.hok a _ ea)
    exact PySem.W.kia_one PySem.W.kitx_dict I.kIn ⟨o, h1, h2.1⟩ e (fun z => nomatch z) h
  | @ins a C dx fs ea cl ha hn htk hm =>
    cases (show u = Value.ref a from rx)
    obtain ⟨mA, O, _⟩ := ins_get I.hok ea
    obtain ⟨od, J, _⟩ := O.look
    exact PySem.W.kia_one (PySem.W.kitx_own (cl.get _) cl.hd ha hn htk hm) I.kIn J e (fun z => nomatch z) h
end
end L2

namespace L2
open PySem PySem.Spec PyProof.Rows

/-! ### room -/
structure Room (k : Nat) (A : Around) : Prop where
  hd : A.handled = none
  dp : A.depth + 3 * k + 5 < recursionLimit
  un : A.units + 16 * k + 200 < cLine
theorem Room.mono {j k : Nat} {A : Around} (r : Room k A) (h : j ≤ k) : Room j A := ⟨r.hd, by have := r.dp; omega, by have := r.un; omega⟩
theorem Room.deeper {k : Nat} {A : Around} (r : Room (k + 1) A) (env : Env) : Room k (A.deeper env) :=
  ⟨r.hd, by have := r.dp; show A.depth + 1 + 3 * k + 5 < _; omega, by have := r.un; show A.units + 3 + 16 * k + 200 < _; omega⟩
theorem make_depth {A : Around} {C : Addr} {us : List Value} {kw : List (Str × Value)} : (A.under (.builtin "type.__call__" ⟨.ref C :: us, kw⟩)).depth = A.depth + 1 := by
  first | rfl | simp [Around.under, Code.weight, Code.isCreation, Code.isGuard, Code.isCaller, Code.frames, Code.isFrame, guardIds]
theorem make_units {A : Around} {C : Addr} {us : List Value} {kw : List (Str × Value)} : (A.under (.builtin "type.__call__" ⟨.ref C :: us, kw⟩)).units = A.units + 1 := by
  first | rfl | simp [Around.under, Code.cUnits, Code.frames, Code.isFrame]
theorem Room.make {k : Nat} {A : Around} (r : Room (k + 1) A) (C : Addr) (us : List Value) (kw : List (Str × Value)) : Room k (A.under (.builtin "type.__call__" ⟨.ref C :: us, kw⟩)) :=
  ⟨r.hd, by have := r.dp; rw [make_depth]; omega, by have := r.un; rw [make_units]; omega⟩
theorem Room.depth {k : Nat} {A : Around} (r : Room k A) : A.depth < recursionLimit := by have := r.dp; omega
theorem Room.units0 {k : Nat} {A : Around} (r : Room k A) : A.units < cLine := by have := r.un; omega

/-! ### argument lists and displays -/
def tNil : TA := fun _ H Q => Q [] H
def tCons (ta : TE) (tr : TA) : TA := fun σ H Q => ta σ H fun x H1 => tr σ H1 fun xs H2 => Q (x :: xs) H2
section
variable {X : Cx} {e : Expr} {es : List Expr} {te : TE} {t : TA} {pos : Pos}
theorem pa_nil : PA X [] tNil := fun _ _ _ _ H Q I h => Calls.spliced_nil ⟨[], H, I, .nil, h⟩
theorem pa_cons (ha : PE X e te) (hr : PA X es t) (hs : starEach (e :: es) X.env = (false, eval e X.env) :: starEach es X.env := by rfl) : PA X (e :: es) (tCons te t) := by
  intro pos pins s σ H Q I h
  rw [hs]
  show wpAny _ _ (spliced ((false, eval e X.env) :: backTo pos (starEach es X.env))) _ _ s
  refine Calls.spliced_cons (thn (ha pins s σ H _ I h) fun u s1 ⟨x, H1, I1, r1, q1⟩ => ?_)
  exact thn (hr pos pins s1 σ H1 _ I1 q1) fun us s2 ⟨xs, H2, I2, r2, q2⟩ => ⟨x :: xs, H2, I2, .cons r1 r2, q2⟩

/-- a tuple, a list of written items -/
def tTup (t : TA) : TE := fun σ H Q => t σ H fun xs H1 => xs.length ≤ sizeLine ∧ ∀ p, H1 p = none → Q (.ref p) (upd H1 p (.tup xs))
def tLst (t : TA) : TE := fun σ H Q => t σ H fun xs H1 => xs.length ≤ sizeLine ∧ ∀ p, H1 p = none → Q (.ref p) (upd H1 p (.lst xs))
theorem pe_tup {x1} (h : PA X es t) : PE X (.Tuple es x1 pos) (tTup t) := by
  intro pins s σ H Q I hq
  refine wpAny_Tuple_spliced (thn (h pos pins s σ H _ I hq) fun us s1 ⟨xs, H1, I1, r, z, q⟩ => ⟨by rw [← r.length]; exact z, ?_⟩)
  have hf : H1 s1.heap.objs.size = none := I1.hok.fresh (Nat.le_refl _)
  refine ⟨.ref s1.heap.objs.size, upd H1 s1.heap.objs.size (.tup xs), I1.laid (t' := s1.toks) (fun b u e => Heap.get?_push_of_some _ e) (Nat.le_refl _) ?_, rfl, q _ hf⟩
  exact ⟨z, us, r, ⟨_, Heap.get?_push_size _ rfl, rfl, _, rfl⟩⟩
theorem pe_lst (h : PA X es t) : PE X (.List es pos) (tLst t) := by
  intro pins s σ H Q I hq
  refine wpAny_List_spliced (thn (h pos pins s σ H _ I hq) fun us s1 ⟨xs, H1, I1, r, z, q⟩ => ⟨by rw [← r.length]; exact z, ?_⟩)
  have hf : H1 s1.heap.objs.size = none := I1.hok.fresh (Nat.le_refl _)
  refine ⟨.ref s1.heap.objs.size, upd H1 s1.heap.objs.size (.lst xs), I1.laid (t' := s1.toks) (fun b u e => Heap.get?_push_of_some _ e) (Nat.le_refl _) ?_, rfl, q _ hf⟩
  exact ⟨z, us, 0, r, Heap.get?_push_size _ rfl⟩
end

/-! ### what a def promises -/
/-- a def's promise: the bound arguments in the parameters' order, the heap, the wanted end, the wanted exception -/
abbrev Sp := List V → Hp → VK → XK → Prop
/-- how an exception lies behind a call (file 08 gives it): the callers' frames, abstract heap and state ahead of the call, the wish, the exception, the state -/
abbrev CXT := List Env → Hp → Shared → XK → Value → Shared → Prop

/-- the state at a call -/
structure Env0 (P : Program) (w : World) (K : PySem.W.Frag) (mg : Str → Option Value) (base : Heap) (A : Around) (outer : List Env) (s : Shared) (H : Hp) : Prop where
  frames : A.frames = some outer
  mod : Mod K mg base
  bs : ∀ b o, base.get? b = some o → s.heap.get? b = some o ∧ H b = none
  bsz : base.objs.size ≤ s.heap.objs.size
  funs : s.heap.FunFrames base outer
  frf : ∀ b ∈ frs outer, H b = none
  hok : HOk P w H s.heap
  bare : AllBare s.gens
/-- a call's end -/
def CE (outer : List Env) (P : Program) (w : World) (H : Hp) (s : Shared) (Q : VK) (u : Value) (s' : Shared) : Prop :=
  ∃ v H', s'.os = s.os ∧ AllBare s'.gens ∧ Un (frs outer) [] H H' s.heap s'.heap ∧ HOk P w H' s'.heap ∧ RelV v u ∧ Q v H'
def CR (CX : CXT) (outer : List Env) (P : Program) (w : World) (H : Hp) (s : Shared) (Q : VK) (E : XK) (r : Result) (s' : Shared) : Prop :=
  match r with
  | .ok (.ret u) => CE outer P w H s Q u s'
  | .ok _ => False
  | .error e => CX outer H s E e s'
structure FnOk (P : Program) (w : World) (K : PySem.W.Frag) (mg : Str → Option Value) (base : Heap) (CX : CXT) (k : Nat) (f : Addr) (fd : FuncData) (ps : List Str) (sp : Sp) : Prop where
  len : ∀ vs H Q E, sp vs H Q E → vs.length = ps.length
  run : ∀ (A : Around) (outer : List Env) (s : Shared) (H : Hp) (args : Args) (us : List Value) (vs : List V) (Q : VK) (E : XK), Room k A → Env0 P w K mg base A outer s H → BindsTo s fd args (ps.zip us) → Vals vs us → sp vs H Q E →
    codeAny (model P w) A (.call (.ref f) args) (CR CX outer P w H s Q E) s
theorem Env0.make {P : Program} {w : World} {K : PySem.W.Frag} {mg : Str → Option Value} {base : Heap} {A : Around} {outer : List Env} {s : Shared} {H : Hp} (e : Env0 P w K mg base A outer s H) (C : Addr) (us : List Value) (kw : List (Str × Value)) :
    Env0 P w K mg base (A.under (.builtin "type.__call__" ⟨.ref C :: us, kw⟩)) outer s H := ⟨by first | exact e.frames | (simpa [Around.under, Code.envs, Code.isFrame, pushEnvs] using e.frames), e.mod, e.bs, e.bsz, e.funs, e.frf, e.hok, e.bare⟩
section
variable {X : Cx} {pins : List (Addr × Obj)} {σ : St} {H : Hp} {s s' : Shared}
/-- from a body: what a callee wants -/
theorem Inv.env0 (I : Inv X pins σ H s) : Env0 X.prog X.w X.K X.mg X.base X.A X.stack s H :=
  ⟨I.ok.frames, I.ok.mod, I.bs, Nat.le_trans I.ok.bsz I.sz, I.stack, I.stkFree, I.hok, I.bare⟩
/-- behind a call -/
theorem Inv.after {Q : VK} {u : Value} (I : Inv X pins σ H s) (h : CE X.stack X.prog X.w H s Q u s') : EP X pins σ Q u s' := by
  obtain ⟨v, H', os, bare, un, hok, r, q⟩ := h
  obtain ⟨hh, g, d, t, os'⟩ := s'
  obtain rfl : os' = s.os := os
  exact ⟨v, H', I.call (h' := hh) (g' := g) (d' := d) (t' := t) (ch := []) un hok bare (fun b z => absurd z (by simp)), r, q⟩
end

/-! ### calls -/
/-- f(..): the written arguments, then the defaults dvs; E: what is wanted of an exception -/
def tCall (sp : Sp) (dvs : List V) (E : XK) (t : TA) : TE := fun σ H Q => t σ H fun vs H1 => sp (vs ++ dvs) H1 Q E
/-- o.m(..) of an instance of the class at C -/
def tMeth (C : Addr) (m : Str) (sp : Sp) (dvs : List V) (E : XK) (ta : TE) (t : TA) : TE := fun σ H Q => ta σ H fun x H1 => ∃ a dx fs, x = .ref a ∧ H1 a = some (.ins C dx fs) ∧ fs.lookup m = none ∧
  t σ H1 fun vs H2 => sp (x :: (vs ++ dvs)) H2 Q E
/-- C(..): a new instance and its dict, then __init__ -/
def tMake (C : Addr) (sp : Sp) (dvs : List V) (E : XK) (t : TA) : TE := fun σ H Q => t σ H fun vs H1 => ∀ x dx, H1 x = none → H1 dx = none → dx ≠ x →
  sp (.ref x :: (vs ++ dvs)) (upd (upd H1 dx (.own x)) x (.ins C dx [])) (fun v H2 => v = .non ∧ Q (.ref x) H2) E

/-- how the parameters are bound: us the positional arguments, kw the keywords' values by name, ds the defaults that fill up -/
def Binds (K : PySem.W.Frag) (fd : FuncData) (ps : List Str) (ds : List Value) : Prop :=
  ∀ (s : Shared) (us : List Value), K.In s.heap → (us ++ ds).length = ps.length → BindsTo s fd ⟨us, []⟩ (ps.zip (us ++ ds))
/-- every parameter is given -/
theorem Binds.all {K : PySem.W.Frag} {fd : FuncData} {ps : List Str} (h : ∀ us : List Value, us.length = ps.length → bindArgs fd ⟨us, []⟩ = pure (ps.zip us)) : Binds K fd ps [] := fun s us _ hl => by
  rw [List.append_nil] at hl ⊢
  exact .of_eq (h us hl)

/-- an exception of a callee reaches what this body wants of exceptions -/
def Passes (CX : CXT) (X : Cx) (E : XK) : Prop := ∀ (pins : List (Addr × Obj)) (σ : St) (H : Hp) (s : Shared) (e : Value) (s' : Shared), Inv X pins σ H s → CX X.stack H s E e s' → X.xe e s'

section
variable {X : Cx} {CX : CXT} {k : Nat} {f C : Addr} {fd : FuncData} {ps : List Str} {sp : Sp} {dvs : List V} {ds : List Value} {E : XK} {x m : Str} {p pos apos : Pos} {e o : Expr} {es : List Expr} {ta : TE} {t : TA}

/-- the callee runs -/
theorem run_fn {pins : List (Addr × Obj)} {σ : St} {H : Hp} {s : Shared} {Q : VK} {us : List Value} {vs : List V} (F : FnOk X.prog X.w X.K X.mg X.base CX k f fd ps sp) (hr : Room k X.A) (hb : Binds X.K fd ps ds) (hd : Vals dvs ds) (hx : Passes CX X E)
    (I : Inv X pins σ H s) (r : Vals vs us) (h : sp (vs ++ dvs) H Q E) : wpAny (model X.prog X.w) X.A (call (.ref f) us) (EP X pins σ Q) X.xe s := by
  have r2 : Vals (vs ++ dvs) (us ++ ds) := r.append hd
  have hl : (us ++ ds).length = ps.length := by rw [← r2.length]; exact F.len _ _ _ _ h
  refine wpAny_call (codeAny_mono (F.run X.A X.stack s H ⟨us, []⟩ (us ++ ds) (vs ++ dvs) Q E hr I.env0 (hb s us I.kIn hl) r2 h) fun r s' hq => ?_)
  cases r with
  | error e => exact hx pins σ H s e s' I hq
  | ok fl =>
    cases fl with
    | ret u => exact I.after hq
    | next => exact False.elim hq
    | brk => exact False.elim hq
    | cont => exact False.elim hq

theorem pe_call (F : FnOk X.prog X.w X.K X.mg X.base CX k f fd ps sp) (hr : Room k X.A) (hg : Gl X x) (hm : X.mg x = some (.ref f)) (hk : PySem.W.keepIn X.K (.ref f) = true) (hb : Binds X.K fd ps ds) (hd : Vals dvs ds) (hx : Passes CX X E)
    (ha : PA X (e :: es) t) (hdb : (x == ("__debug__" : Str)) = false := by decide) (he : starEach (e :: es) X.env = (false, eval e X.env) :: starEach es X.env := by rfl) (hpl : (backTo pos (starEach es X.env)).any (·.1) = false := by rfl) :
    PE X (.Call (.Name x p) (e :: es) [] pos) (tCall sp dvs E t) := by
  intro pins s σ H Q I h
  refine wpAny_Call_Name_kw (ld_glob I hg hm ?_ hdb)
  refine PySem.W.callWith_K (h₀ := X.base) I.ok.mod.kin hk (thn (ha pos pins s σ H _ I h) fun us s1 ⟨vs, H1, I1, r, q⟩ => ⟨I1.kIn, ?_⟩) he hpl
  exact run_fn F hr hb hd hx I1 r q
/-- o.m(e, ..) -/
theorem pe_meth {pl : Sem Bool} (he : PE X o ta) (c : Cls X.K C) (hm : Meth X.K C m f) (F : FnOk X.prog X.w X.K X.mg X.base CX k f fd ps sp) (hr : Room k X.A) (hb : Binds X.K fd ps ds) (hd : Vals dvs ds) (hx : Passes CX X E) (ha : PA X (e :: es) t)
    (hst : starEach (e :: es) X.env = (false, eval e X.env) :: starEach es X.env := by rfl) (hpl : (backTo pos (starEach es X.env)).any (·.1) = false := by rfl)
    (ht : eval (.Call (.Attribute o m apos) (e :: es) [] pos) X.env = (do
      let ov ← eval o X.env
      standAt apos.atName
      let (f, first) ← holding [ov] (getMethod ov m pl)
      callWith pos f first (backTo pos (starEach (e :: es) X.env)) (backToKw pos (keywordEach [] X.env))) := by rfl) :
    PE X (.Call (.Attribute o m apos) (e :: es) [] pos) (tMeth C m sp dvs E ta t) := by
  intro pins s σ H Q I h
  refine PySem.W.methodCall_KW (pl := pl) (thn (he pins s σ H _ I h) fun u s1 ⟨x, H1, I1, rx, a, dx, fs, ex, ea, l, q⟩ => ?_) ht
  subst ex
  obtain rfl : u = Value.ref a := rx
  refine getmeth_ok I1 ea c hm l ?_
  refine PySem.W.callWith_K (first := [.ref a]) (h₀ := X.base) I.ok.mod.kin hm.kp (thn (ha pos pins s1 σ H1 _ I1 q) fun us s2 ⟨vs, H2, I2, r, q2⟩ => ⟨I2.kIn, ?_⟩) hst hpl
  exact run_fn (us := .ref a :: us) (vs := .ref a :: vs) F hr hb hd hx I2 (.cons rfl r) q2
/-- o.m() -/
theorem pe_meth0 {pl : Sem Bool} (he : PE X o ta) (c : Cls X.K C) (hm : Meth X.K C m f) (F : FnOk X.prog X.w X.K X.mg X.base CX k f fd ps sp) (hr : Room k X.A) (hb : Binds X.K fd ps ds) (hd : Vals dvs ds) (hx : Passes CX X E)
    (ht : eval (.Call (.Attribute o m apos) [] [] pos) X.env = (do
      let ov ← eval o X.env
      standAt apos.atName
      let (f, first) ← holding [ov] (getMethod ov m pl)
      callWith pos f first (backTo pos (starEach [] X.env)) (backToKw pos (keywordEach [] X.env))) := by rfl) :
    PE X (.Call (.Attribute o m apos) [] [] pos) (tMeth C m sp dvs E ta tNil) := by
  intro pins s σ H Q I h
  refine PySem.W.methodCall_KW (pl := pl) (thn (he pins s σ H _ I h) fun u s1 ⟨x, H1, I1, rx, a, dx, fs, ex, ea, l, q⟩ => ?_) ht
  subst ex
  obtain rfl : u = Value.ref a := rx
  refine getmeth_ok I1 ea c hm l ?_
  exact PySem.W.callWith_K0 (first := [.ref a]) I1.kIn hm.kp (run_fn (us := [.ref a]) (vs := [.ref a]) F hr hb hd hx I1 (.cons rfl .nil) q)

/-- what a class must have to be made -/
structure Mk (K : PySem.W.Frag) (C f : Addr) : Prop where
  makes : PySem.W.makesIn K C = true
  init : PySem.W.findIn K (.ref C) "__init__" = some (some (.ref f))
  fn : PySem.W.isFn K (.ref f) = true
  kp : PySem.W.keepIn K (.ref C) = true

theorem run_make {pins : List (Addr × Obj)} {σ : St} {H : Hp} {s : Shared} {Q : VK} {us : List Value} {vs : List V} (M : Mk X.K C f) (F : FnOk X.prog X.w X.K X.mg X.base CX k f fd ps sp) (hr : Room (k + 1) X.A) (hb : Binds X.K fd ps ds) (hd : Vals dvs ds)
    (hx : Passes CX X E) (I : Inv X pins σ H s) (r : Vals vs us)
    (h : ∀ x dx, H x = none → H dx = none → dx ≠ x → sp (.ref x :: (vs ++ dvs)) (upd (upd H dx (.own x)) x (.ins C dx [])) (fun v H2 => v = .non ∧ Q (.ref x) H2) E) :
    wpAny (model X.prog X.w) X.A (call (.ref C) us) (EP X pins σ Q) X.xe s := by
  have hq := h (s.heap.objs.size + 1) s.heap.objs.size (I.hok.fresh (Nat.le_succ _)) (I.hok.fresh (Nat.le_refl _)) (Nat.ne_of_lt (Nat.lt_succ_self _))
  have I2 := Inv.made (C := C) I
  have r2 : Vals (V.ref (s.heap.objs.size + 1) :: (vs ++ dvs)) (Value.ref (s.heap.objs.size + 1) :: (us ++ ds)) := .cons rfl (r.append hd)
  have hl : (Value.ref (s.heap.objs.size + 1) :: us ++ ds).length = ps.length := by
    have e := r2.length
    rw [F.len _ _ _ _ hq] at e
    exact e.symm
  refine wpAny_call (make_map (f := f) I.kIn M.makes M.init (beq_iff_eq.mp M.fn) (codeAny_mono (F.run _ X.stack _ _ ⟨Value.ref (s.heap.objs.size + 1) :: us, []⟩ (Value.ref (s.heap.objs.size + 1) :: (us ++ ds)) _ _ E (hr.make C us [])
    (I2.env0.make C us []) (hb _ (Value.ref (s.heap.objs.size + 1) :: us) I2.kIn hl) r2 hq) fun r s' hq' => ?_))
  cases r with
  | error e => exact hx pins σ _ _ e s' I2 hq'
  | ok fl =>
    cases fl with
    | ret u =>
      obtain ⟨v, H', I3, rv, ev, q3⟩ := I2.after hq'
      subst ev
      exact ⟨rv, ⟨V.ref (s.heap.objs.size + 1), H', I3, rfl, q3⟩⟩
    | next => exact False.elim hq'
    | brk => exact False.elim hq'
    | cont => exact False.elim hq'
theorem pe_make (M : Mk X.K C f) (F : FnOk X.prog X.w X.K X.mg X.base CX k f fd ps sp) (hr : Room (k + 1) X.A) (hg : Gl X x) (hm : X.mg x = some (.ref C)) (hb : Binds X.K fd ps ds) (hd : Vals dvs ds) (hx : Passes CX X E)
    (ha : PA X (e :: es) t) (hdb : (x == ("__debug__" : Str)) = false := by decide) (he : starEach (e :: es) X.env = (false, eval e X.env) :: starEach es X.env := by rfl) (hpl : (backTo pos (starEach es X.env)).any (·.1) = false := by rfl) :
    PE X (.Call (.Name x p) (e :: es) [] pos) (tMake C sp dvs E t) := by
  intro pins s σ H Q I h
  refine wpAny_Call_Name_kw (ld_glob I hg hm ?_ hdb)
  refine PySem.W.callWith_K (h₀ := X.base) I.ok.mod.kin M.kp (thn (ha pos pins s σ H _ I h) fun us s1 ⟨vs, H1, I1, r, q⟩ => ⟨I1.kIn, ?_⟩) he hpl
  exact run_make M F hr hb hd hx I1 r q
end

/-! ### keywords -/
section
variable {X : Cx} {CX : CXT} {k : Nat} {f C : Addr} {fd : FuncData} {ps ks : List Str} {sp : Sp} {E : XK} {x m : Str} {p pos apos kpos : Pos} {e o : Expr} {es : List Expr} {kws : List Keyword} {te ta : TE} {t tk : TA} {nm : Option Str}
variable {g : List Value → List Value → List Value} {gV : List V → List V → List V}
end

/-! ### a def's body keeps its promise -/
/-- names: the parameters first -/
structure FnScope (N P : List Str) (sc : Scope) : Prop where
  kind : sc.kind = .function
  co : sc.isCoroutine = false
  gen : sc.isGenerator = false
  nd : N.Nodup
  pre : N.take P.length = P
  par : ∀ x ∈ P, sc.names.lookup x = some .local ∨ sc.names.lookup x = some .cell
  nofree : ∀ y ∈ sc.names, y.2 ≠ .free

theorem bindL_out {kindOf : Str → Option NameKind} {x : Str} : ∀ {binds : List (Str × Value)} {m : Str → Option Value}, (∀ v, (x, v) ∉ binds) → bindL kindOf binds m x = m x
  | [], _, _ => rfl
  | (n, v) :: r, m, h => by
    unfold bindL
    rw [bindL_out fun w hw => h w (List.mem_cons_of_mem _ hw)]
    split
    · have : x ≠ n := by rintro rfl; exact h v List.mem_cons_self
      simp [this]
    · rfl
theorem bindC_out {kindOf : Str → Option NameKind} {x : Str} : ∀ {binds : List (Str × Value)} {m : Str → Option Value}, (∀ v, (x, v) ∉ binds) → bindC kindOf binds m x = m x
  | [], _, _ => rfl
  | (n, v) :: r, m, h => by
    unfold bindC
    rw [bindC_out fun w hw => h w (List.mem_cons_of_mem _ hw)]
    split
    · rfl
    · have : x ≠ n := by rintro rfl; exact h v List.mem_cons_self
      simp [this]
theorem bindL_get {kindOf : Str → Option NameKind} {x : Str} {v : Value} : ∀ {P : List Str} {vs : List Value} {i : Nat} {m : Str → Option Value}, P.Nodup → P[i]? = some x → vs[i]? = some v → kindOf x = some .local →
    bindL kindOf (P.zip vs) m x = some v
  | [], _, _, _, _, h, _, _ => by simp at h
  | _ :: _, [], _, _, _, _, h, _ => by simp at h
  | p :: P, w :: vs, 0, m, nd, h1, h2, hk => by
    simp at h1 h2; subst h1; subst h2
    show bindL kindOf ((p, w) :: P.zip vs) m p = _
    unfold bindL
    rw [bindL_out fun v hv => (List.nodup_cons.mp nd).1 (List.of_mem_zip hv).1, if_pos hk]
    simp
  | p :: P, w :: vs, i + 1, m, nd, h1, h2, hk => by
    show bindL kindOf ((p, w) :: P.zip vs) m x = _
    unfold bindL
    exact bindL_get (i := i) (List.nodup_cons.mp nd).2 (by simpa using h1) (by simpa using h2) hk
theorem bindC_get {kindOf : Str → Option NameKind} {x : Str} {v : Value} : ∀ {P : List Str} {vs : List Value} {i : Nat} {m : Str → Option Value}, P.Nodup → P[i]? = some x → vs[i]? = some v → kindOf x ≠ some .local →
    bindC kindOf (P.zip vs) m x = some v
  | [], _, _, _, _, h, _, _ => by simp at h
  | _ :: _, [], _, _, _, _, h, _ => by simp at h
  | p :: P, w :: vs, 0, m, nd, h1, h2, hk => by
    simp at h1 h2; subst h1; subst h2
    show bindC kindOf ((p, w) :: P.zip vs) m p = _
    unfold bindC
    rw [bindC_out fun v hv => (List.nodup_cons.mp nd).1 (List.of_mem_zip hv).1, if_neg hk]
    simp
  | p :: P, w :: vs, i + 1, m, nd, h1, h2, hk => by
    show bindC kindOf ((p, w) :: P.zip vs) m x = _
    unfold bindC
    exact bindC_get (i := i) (List.nodup_cons.mp nd).2 (by simpa using h1) (by simpa using h2) hk

/-- the names' values at the entry -/
def start (N : List Str) (vs : List V) : St := vs.map some ++ List.replicate (N.length - vs.length) none

/-- the context of a def's body, at its entry; an exception leaves the frame, then lies as CX says -/
def cxOf (CX : CXT) (P : Program) (w : World) (K : PySem.W.Frag) (mg : Str → Option Value) (base : Heap) (N : List Str) (qual : Str) (scope : Scope) (f : Addr) (cd : Value) (A : Around) (outer : List Env) (s : Shared) (H : Hp) (E : XK) : Cx where
  prog := P
  w := w
  K := K
  mg := mg
  base := base
  A := A.deeper (envOfC qual scope s.heap.objs.size f cd)
  N := N
  s₀ := s
  H₀ := H
  env := envOfC qual scope s.heap.objs.size f cd
  outer := outer
  stack := envOfC qual scope s.heap.objs.size f cd :: outer
  ex := []
  calm := true
  fn := fun _ => true
  pn := []
  xe := fun e s' => wpAny (model P w) (A.deeper (envOfC qual scope s.heap.objs.size f cd)) (leaving (envOfC qual scope s.heap.objs.size f cd) e) (fun _ s'' => CX outer H s E e s'') (fun e' s'' => CX outer H s E e' s'') s'

theorem cell_has {sc : Scope} {n : Nat} {x : Str} (h : sc.names.lookup x = some .cell) : ∃ c, (cellsFrom n sc.names []).lookup x = some c := by
  have q := PySem.W.cellsFrom_some sc.names n [] (.inl h)
  exact Option.isSome_iff_exists.mp q

theorem inv_start {CX : CXT} {P : Program} {w : World} {K : PySem.W.Frag} {mg : Str → Option Value} {base : Heap} {N ps : List Str} {qual : Str} {scope : Scope} {f : Addr} {cd : Value} {A : Around} {outer : List Env} {s s1 : Shared} {H : Hp} {E : XK} {us : List Value} {vs : List V}
    (S : FnScope N ps scope) (hd : A.handled = none) (e0 : Env0 P w K mg base A outer s H) (hl : vs.length = ps.length) (r : Vals vs us)
    (x : InCallC s s.heap.objs.size (bindL (envOfC qual scope s.heap.objs.size f cd).kindOf (ps.zip us) fun _ => none) (cellsFrom (s.heap.objs.size + 1) scope.names []) (bindC (envOfC qual scope s.heap.objs.size f cd).kindOf (ps.zip us) fun _ => none) s1) :
    Inv (cxOf CX P w K mg base N qual scope f cd A outer s H E) [] (start N vs) H s1 := by
  have hpl : ps.length ≤ N.length := by have := congrArg List.length S.pre; rw [List.length_take] at this; omega
  obtain ⟨h1, tk, rfl, hk⟩ := x.done
  have noA : ∀ b : Addr, b ∉ (cxOf CX P w K mg base N qual scope f cd A outer s H E).ex := fun b z => absurd (show b ∈ ([] : List Addr) from z) (by simp)
  refine ⟨⟨e0.mod, S.kind, rfl, rfl, Nat.le_refl _, fun y z c h1 h2 => ?_, fun y hy => ?_, fun y c _ h => ?_, fun _ => hd, Around.frames_deeper e0.frames, .inr ⟨rfl, rfl⟩, fun b z => absurd z (noA b), e0.bs, e0.bsz, fun b _ _ => noA b, fun b z => absurd z (noA b), e0.funs, e0.frf⟩,
    rfl, e0.bare, Un.kept hk, ⟨_, x.toInCall.ns, fun i y v h1 h2 h3 => ?_⟩, fun y c h => ⟨_, x.cell y c h⟩, e0.hok.fresh (Nat.le_refl _), fun y c h => ?_, fun p hp => absurd (show p ∈ ([] : List (Addr × Obj)) from hp) (by simp), e0.hok.kept hk, ?_⟩
  · exact name_of_addr x.apart (PySem.mem_of_lookup h1) (PySem.mem_of_lookup h2)
  · have hy : scope.names.lookup y = some .cell ∨ scope.names.lookup y = some .free := hy
    rcases hy with hy | hy
    · exact cell_has hy
    · exact absurd rfl (S.nofree _ (PySem.mem_of_lookup hy))
  · exact Nat.le_of_lt (x.above y c (PySem.mem_of_lookup h))
  · have hi : i < vs.length := by
      unfold start at h2
      by_cases hi : i < vs.length
      · exact hi
      · rw [List.getElem?_append_right (by simpa using hi)] at h2
        rw [List.getElem?_replicate] at h2
        split at h2 <;> cases h2
    have ha : vs[i]? = some v := by
      unfold start at h2
      rw [List.getElem?_append_left (by simpa using hi), List.getElem?_map] at h2
      cases e : vs[i]? with
      | none => rw [e] at h2; cases h2
      | some a => rw [e] at h2; cases h2; rfl
    obtain ⟨u, hu, rv⟩ := r.get ha
    have hp : ps[i]? = some y := by
      rw [← S.pre, List.getElem?_take_of_lt (by omega)]; exact h1
    have ndP : ps.Nodup := by rw [← S.pre]; exact S.nd.sublist (List.take_sublist _ _)
    refine ⟨u, rv, ?_⟩
    rcases S.par y (List.mem_of_getElem? hp) with k | k
    · exact .inl ⟨k, bindL_get ndP hp hu k⟩
    · obtain ⟨c, e⟩ := cell_has (n := s.heap.objs.size + 1) k
      refine .inr ⟨.inl k, c, e, ?_⟩
      have q := x.cell y c e
      rw [bindC_get ndP hp hu (by show scope.names.lookup y ≠ _; rw [k]; decide)] at q
      exact q
  · exact e0.hok.fresh (Nat.le_of_lt (x.above y c (PySem.mem_of_lookup h)))
  · unfold start
    show _ = N.length
    rw [List.length_append, List.length_map, List.length_replicate]
    omega

/-- THE RULE: a def (or a method) of the text, by its body. The body's reading t is chosen for each entry; it is run at the parameters' values -/
theorem fn_of {CX : CXT} {P : Program} {w : World} {K : PySem.W.Frag} {mg : Str → Option Value} {base : Heap} {k : Nat} {f : Addr} {name qual : Str} {params : Arguments} {body : List Stmt} {scope : Scope} {dV kV doc pm cdv ct oc : Value} {an od : Option Addr}
    {osl : Array (Option Value)} {N ps : List Str} {sp : Sp} (lk : K.lookup f = some ⟨oc, od, .func (PySem.W.fnOf name qual params body scope dV kV doc pm an cdv ct), osl⟩) (hcd : PySem.W.codeIn K cdv qual = true) (S : FnScope N ps scope)
    (len : ∀ vs H Q E, sp vs H Q E → vs.length = ps.length)
    (hbody : ∀ (A : Around) (outer : List Env) (s : Shared) (H : Hp) (vs : List V) (Q : VK) (E : XK), Room k (A.deeper (envOfC qual scope s.heap.objs.size f cdv)) → sp vs H Q E →
      ∃ t, PSs (cxOf CX P w K mg base N qual scope f cdv A outer s H E) body t ∧ t { nx := fun _ H' => Q .non H', rt := Q } (start N vs) H) :
    FnOk P w K mg base CX (k + 1) f (PySem.W.fnOf name qual params body scope dV kV doc pm an cdv ct) ps sp := by
  refine ⟨len, fun A outer s H args us vs Q E hr e0 hb r hsp => ?_⟩
  have hl := len _ _ _ _ hsp
  have KX : K.In s.heap := e0.mod.kin.keeps fun b o e => (e0.bs b o e).1
  have lim : s.heap.NoLimit := e0.mod.nolimit.keeps fun b o e => (e0.bs b o e).1
  have hkind : ∀ y ∈ ps.zip us, scope.names.lookup y.1 = some .local ∨ (scope.names.lookup y.1 = some .cell ∧ ((cellsFrom (s.heap.objs.size + 1) scope.names []).lookup y.1).isSome = true) := fun ⟨n, v⟩ hy => by
    rcases S.par n (List.of_mem_zip hy).1 with q | q
    · exact .inl q
    · exact .inr ⟨q, PySem.W.cellsFrom_some _ _ _ (.inl q)⟩
  refine codeAny_call_function hr.depth (KX _ _ lk) rfl S.co S.gen rfl (PySem.W.codeRec_of KX hcd) (hb _ _ _ _ ?_)
  refine wpAny_newFunctionEnv_cells S.kind hkind fun env he s1 x => ?_
  subst he
  refine ⟨lim.keeps x.toInCall.keep, codeAny_func ?_⟩
  obtain ⟨t, ht, hq⟩ := hbody A outer s H vs Q E (hr.deeper _) hsp
  have I : Inv (cxOf CX P w K mg base N qual scope f cdv A outer s H E) [] (start N vs) H s1 := inv_start S hr.hd e0 hl r x
  refine wpAny_mono (ht [] s1 (start N vs) H _ I hq) (fun fl s' hs => ?_) fun e s' hs => hs
  have fin : ∀ {σ' : St} {H' : Hp} {v : V} {u : Value}, Inv (cxOf CX P w K mg base N qual scope f cdv A outer s H E) [] σ' H' s' → RelV v u → Q v H' → CE outer P w H s Q u s' :=
    fun {σ' H' v u} J rv q => ⟨v, H', J.os, J.bare, J.base, J.hok, rv, q⟩
  cases fl with
  | ret u =>
    obtain ⟨v, σ', H', J, rv, q⟩ := hs
    exact fin J rv q
  | next =>
    obtain ⟨σ', H', J, q⟩ := hs
    exact fin (v := V.non) (u := Value.none) J rfl q
  | brk =>
    obtain ⟨_, _, _, q⟩ := hs
    exact False.elim q
  | cont =>
    obtain ⟨_, _, _, q⟩ := hs
    exact False.elim q
end L2

namespace L2
open PySem PySem.Spec PyProof.Rows
section
variable {X : Cx} {x : Str} {p pos : Pos} {e : Expr} {es : List Expr} {t : TA} {id T : String} {r : List V → Hp → VK → Prop}

def tCB (r : List V → Hp → VK → Prop) (t : TA) : TE := fun σ H Q => t σ H fun vs H1 => r vs H1 Q
/-- f(e, ..), f a built-in function -/
theorem pe_callB (hc : CallR X (.builtin id) r) (hg : Gl X x) (hm : X.mg x = none) (hv : bootBuiltins x = some (.builtin id)) (ha : PA X (e :: es) t) (hn : x ≠ "__name__" := by decide) (hdb : (x == ("__debug__" : Str)) = false := by decide)
    (he : starEach (e :: es) X.env = (false, eval e X.env) :: starEach es X.env := by rfl) (hpl : (backTo pos (starEach es X.env)).any (·.1) = false := by rfl) : PE X (.Call (.Name x p) (e :: es) [] pos) (tCB r t) := by
  intro pins s σ H Q I h
  refine wpAny_Call_Name_kw (ld_blt I hg hm hv ?_ hn hdb)
  exact PyProof.Rows.callWith_builtin1 (thn (ha pos pins s σ H _ I h) fun us s1 ⟨vs, H1, I1, r1, q1⟩ => hc pins s1 σ H1 vs us Q I1 r1 q1) he hpl
/-- T(e, ..), T a built-in type -/
theorem pe_callTy (hc : CallR X (.type T) r) (hg : Gl X x) (hm : X.mg x = none) (hv : bootBuiltins x = some (.type T)) (ha : PA X (e :: es) t) (hn : x ≠ "__name__" := by decide) (hdb : (x == ("__debug__" : Str)) = false := by decide)
    (he : starEach (e :: es) X.env = (false, eval e X.env) :: starEach es X.env := by rfl) (hpl : (backTo pos (starEach es X.env)).any (·.1) = false := by rfl) : PE X (.Call (.Name x p) (e :: es) [] pos) (tCB r t) := by
  intro pins s σ H Q I h
  refine wpAny_Call_Name_kw (ld_blt I hg hm hv ?_ hn hdb)
  exact PyProof.Rows.callWith_type1 (thn (ha pos pins s σ H _ I h) fun us s1 ⟨vs, H1, I1, r1, q1⟩ => hc pins s1 σ H1 vs us Q I1 r1 q1) he hpl
end
end L2

namespace HT
open PySem PyProof.Rows

section
open PySem.SeqAt
open PySem.AutoSeq1 (wpAny_loadPart')
open PySem.MeetsSeq PySem.MeetsSeq2 PySem.MeetsSeq3

end

section
variable {prog : Program} {w : World} {A : Around} {E : Value → Shared → Prop} {s : Shared}

/-! ### t[a:b], not the whole -/
/-- a slice's bound as a place among n (d where it is left out) -/
def sIx (n d : Nat) : Option Int → Nat
  | none => d
  | some v => if v < 0 then (v + (n : Int)).toNat else min v.toNat n
theorem sIx_none (n d : Nat) : sIx n d none = d := rfl
theorem sIx_nat (n d k : Nat) : sIx n d (some (k : Int)) = min k n := by
  show (if (k : Int) < 0 then ((k : Int) + (n : Int)).toNat else min (k : Int).toNat n) = min k n
  rw [if_neg (by omega), Int.toNat_natCast]
theorem sIx_le (n d : Nat) (hd : d ≤ n) (o : Option Int) : sIx n d o ≤ n := by
  cases o with
  | none => exact hd
  | some v =>
    show (if v < 0 then (v + (n : Int)).toNat else min v.toNat n) ≤ n
    by_cases hv : v < 0
    · rw [if_pos hv]; omega
    · rw [if_neg hv]; exact Nat.min_le_right _ _
theorem clip_eq (v : Int) (n d : Nat) : (if v < 0 then max (v + (n : Int)) 0 else min v (n : Int)) = ((sIx n d (some v) : Nat) : Int) := by
  show (if v < 0 then max (v + (n : Int)) 0 else min v (n : Int)) = (((if v < 0 then (v + (n : Int)).toNat else min v.toNat n) : Nat) : Int)
  by_cases hv : v < 0
  · simp only [if_pos hv]; omega
  · simp only [if_neg hv]; omega
theorem adjust_gen (lo hi : Option Int) (n : Nat) : Builtin.Slice.sliceAdjust lo hi 1 (n : Int) = (((sIx n 0 lo : Nat) : Int), ((sIx n n hi : Nat) : Int)) := by
  have h1 : ¬ ((1 : Int) < 0) := by omega
  unfold Builtin.Slice.sliceAdjust
  simp only [h1, if_false]
  refine Prod.ext ?_ ?_
  · cases lo with
    | none => rfl
    | some v => exact clip_eq v n 0
  · cases hi with
    | none => rfl
    | some v => exact clip_eq v n n
theorem places_gen (i j : Nat) : Builtin.Slice.slicePlaces (i : Int) (j : Int) 1 = j - i := by
  unfold Builtin.Slice.slicePlaces
  have h1 : (1 : Int) > 0 := by omega
  simp only [h1, if_true, Int.ediv_one]
  split <;> omega
theorem slicePart_ {v : Value} {o : Option Int} {Q : Option Int → Shared → Prop} (p : IsPart v o) (h : Q o s) : wpAny (model prog w) A (Builtin.Slice.slicePartIndex v) Q E s := by
  cases p with
  | none => exact slicePart_none h
  | int i t => exact slicePart_int h
theorem sliceApplied_gen {sl : Addr} {vl vu : Value} {lo hi : Option Int} {n : Nat} {Q : Int × Int × Nat → Shared → Prop} (hs : s.heap.IsSliceOf sl vl vu .none) (pl : IsPart vl lo) (pu : IsPart vu hi)
    (h : Q (((sIx n 0 lo : Nat) : Int), 1, sIx n n hi - sIx n 0 lo) s) : wpAny (model prog w) A (Builtin.Slice.sliceApplied (.ref sl) (pure (n : Int))) Q E s := by
  obtain ⟨os, hos, hcs, hds⟩ := id hs
  unfold Builtin.Slice.sliceApplied Builtin.Slice.sliceFields
  refine wpAny_bind (wpAny_bind (wpAny_field hos hds (x := vl) rfl (wpAny_bind (wpAny_field hos hds (x := vu) rfl (wpAny_bind (wpAny_field hos hds (x := .none) rfl (wpAny_pure ?_)))))))
  refine wpAny_bind (slicePart_none ?_)
  show wpAny _ _ (if ((1 : Int) == 0) = true then _ else _) _ _ s
  rw [if_neg (by decide)]
  refine wpAny_bind (slicePart_ pl (wpAny_bind (slicePart_ pu (wpAny_bind (wpAny_pure ?_)))))
  show wpAny _ _ (match Builtin.Slice.sliceAdjust lo hi 1 (n : Int) with | (lo, hi) => pure (lo, (1 : Int), Builtin.Slice.slicePlaces lo hi 1)) _ _ s
  rw [adjust_gen lo hi n]
  show wpAny _ _ (pure (((sIx n 0 lo : Nat) : Int), (1 : Int), Builtin.Slice.slicePlaces ((sIx n 0 lo : Nat) : Int) ((sIx n n hi : Nat) : Int) 1)) _ _ s
  rw [places_gen]
  exact wpAny_pure h
theorem pick_gen (xs : Array Value) (i k : Nat) : ((List.range k).filterMap fun (m : Nat) => xs[((i : Int) + (m : Int) * 1).toNat]?).toArray = ((xs.toList.drop i).take k).toArray := by
  have e : (fun (m : Nat) => xs[((i : Int) + (m : Int) * 1).toNat]?) = fun m => xs[i + m]? := by
    funext m
    have : ((i : Int) + (m : Int) * 1).toNat = i + m := by omega
    rw [this]
  rw [e]
  have := pick_run xs i k
  rw [List.filterMap_map] at this
  have e2 : ((fun x => xs[x]?) ∘ fun x => i + x) = fun m => xs[i + m]? := rfl
  rw [e2] at this
  rw [this]

theorem getItem_tuple_cut {t sl : Addr} {items : Array Value} {vl vu : Value} {lo hi : Option Int} {Q : Value → Shared → Prop} (ht : IsTup s.heap t items) (hs : s.heap.IsSliceOf sl vl vu .none) (pl : IsPart vl lo) (pu : IsPart vu hi)
    (hw : ¬ (sIx items.size 0 lo = 0 ∧ sIx items.size items.size hi = items.size))
    (h : Q (.ref s.heap.objs.size) { s with heap := s.heap.push { cls := .type "tuple", data := .seq ((items.toList.drop (sIx items.size 0 lo)).take (sIx items.size items.size hi - sIx items.size 0 lo)).toArray } })
    (hsz : items.size ≤ sizeLine) : wpAny (model prog w) A (getItem (.ref t) (.ref sl)) Q E s := by
  have htake : sizeOk (.seq ((items.toList.drop (sIx items.size 0 lo)).take (sIx items.size items.size hi - sIx items.size 0 lo)).toArray) := by
    show ((items.toList.drop (sIx items.size 0 lo)).take (sIx items.size items.size hi - sIx items.size 0 lo)).toArray.size ≤ sizeLine
    rw [List.size_toArray, List.length_take, List.length_drop, Array.length_toList]
    omega
  have hj : sIx items.size items.size hi ≤ items.size := sIx_le _ _ (Nat.le_refl _) hi
  obtain ⟨os, hos, hcs, hds⟩ := id hs
  have hTs : s.TypeIs (.ref sl) "slice" := ⟨os, hos, hcs⟩
  unfold getItem
  try with_reducible refine wpAny_holding ?_
  first | refine wpAny_bind (wpAny_pure ?_) | skip
  refine wpAny_bind (wpAny_sequenceKey ht.typeIs (by decide) ?_)
  refine wpAny_bind (wpAny_callSpecial?_slot (name := Str.ofString "__getitem__") ht.typeIs PyProof.Rows.slot_tuple_getitem
    (wpAny_call_entry PyProof.Rows.slot_tuple_getitem ht.typeIs entry_tuple_getitem ?_ (args_tuple_getitem _ _)))
  show wpAny _ _ (Builtin.Tuple.tupleItemsOf (.ref t) >>= _) _ _ s
  refine wpAny_bind (tupleItemsOf_ ht ?_)
  refine wpAny_bind (wpAny_typeOf hTs ?_)
  rw [if_pos (by decide)]
  refine wpAny_bind (sliceApplied_gen hs pl pu ?_)
  have hno : ¬ ((((sIx items.size 0 lo : Nat) : Int) == 0 && (1 : Int) == 1 && (sIx items.size items.size hi - sIx items.size 0 lo) == items.size) = true) := by
    intro q
    rw [Bool.and_eq_true, Bool.and_eq_true] at q
    have q1 : ((sIx items.size 0 lo : Nat) : Int) = 0 := eq_of_beq q.1.1
    have q2 : sIx items.size items.size hi - sIx items.size 0 lo = items.size := eq_of_beq q.2
    exact hw ⟨by omega, by omega⟩
  show wpAny _ _ (if (((sIx items.size 0 lo : Nat) : Int) == 0 && (1 : Int) == 1 && (sIx items.size items.size hi - sIx items.size 0 lo) == items.size) = true then _ else _) _ _ s
  rw [if_neg hno, pick_gen]
  first
    | exact wpAny_bind (m := Builtin.Tuple.tupleExact _) (wpAny_newObj_type (wpAny_pure ⟨_, rfl, wpAny_pure h⟩) htake)
    | exact wpAny_bind (m := Builtin.Tuple.tupleExact _) (wpAny_newObj_type (wpAny_bind (wpAny_pure (wpAny_pure ⟨_, rfl, wpAny_pure h⟩))) htake)
    | exact wpAny_bind (wpAny_bind (m := Builtin.Tuple.tupleExact _) (wpAny_newObj_type (wpAny_pure (wpAny_pure ⟨_, rfl, wpAny_pure h⟩)) htake))
    | exact wpAny_bind (wpAny_bind (m := Builtin.Tuple.tupleExact _) (wpAny_newObj_type (wpAny_pure ⟨_, rfl, wpAny_pure h⟩) htake))
end
end HT

namespace L2
open PySem PySem.Spec PyProof.Rows

/-! ### the parts of a slice -/
abbrev TO := St → Hp → (Option Int → Hp → Prop) → Prop
/-- a slice's part (left out, or an int) -/
def PO (X : Cx) (e : Option Expr) (t : TO) : Prop :=
  ∀ (pins : List (Addr × Obj)) (s : Shared) (σ : St) (H : Hp) (Q : Option Int → Hp → Prop), Inv X pins σ H s → t σ H Q →
    wpAny (model X.prog X.w) X.A (evalPart e X.env) (fun u s' => ∃ o H', Inv X pins σ H' s' ∧ IsPart u o ∧ Q o H') X.xe s
def tNoPart : TO := fun _ H Q => Q none H
def tPart (t : TE) : TO := fun σ H Q => t σ H fun x H1 => ∃ i, x = .int i ∧ Q (some i) H1

section
variable {X : Cx} {e : Expr} {te : TE} {lo hi : Option Expr} {tl th : TO} {pos p2 : Pos}

theorem po_none : PO X none tNoPart := by
  intro pins s σ H Q I h
  rw [evalPart_none]
  exact wpAny_pure ⟨none, H, I, .none, h⟩
theorem po_some (h : PE X e te) : PO X (some e) (tPart te) := by
  intro pins s σ H Q I hw
  rw [evalPart_some]
  refine thn (h pins s σ H _ I hw) fun u s1 ⟨x, H1, I1, r1, q1⟩ => ?_
  obtain ⟨i, rfl, q⟩ := q1
  obtain ⟨t, rfl⟩ := r1
  exact ⟨some i, H1, I1, .int i t, q⟩

/-- what a slice of a value is, by values: the slice object stands at sl -/
def SlR (X : Cx) (r : V → Option Int → Option Int → Hp → VK → Prop) : Prop :=
  ∀ (pins : List (Addr × Obj)) (s : Shared) (σ : St) (H : Hp) (x : V) (v vl vu : Value) (lo hi : Option Int) (sl : Addr) (Q : VK), Inv X pins σ H s → RelV x v → s.heap.IsSliceOf sl vl vu .none → IsPart vl lo → IsPart vu hi → r x lo hi H Q →
    ∃ T id, typeLookup (.type T) "__getitem__" = pure (some (.builtin id)) ∧ s.TypeIs v T ∧ wpAny (model X.prog X.w) X.A (getItem v (.ref sl)) (EP X pins σ Q) X.xe s
def tSl (r : V → Option Int → Option Int → Hp → VK → Prop) (te : TE) (tl th : TO) : TE := fun σ H Q => te σ H fun x H1 => tl σ H1 fun l H2 => th σ H2 fun u H3 => r x l u H3 Q
/-- a[lo:hi], any a -/
theorem pe_slice {r : V → Option Int → Option Int → Hp → VK → Prop} (hr : SlR X r) (he : PE X e te) (hl : PO X lo tl) (hu : PO X hi th) : PE X (.Subscript e (.Slice lo hi none p2) pos) (tSl r te tl th) := by
  intro pins s σ H Q I h
  refine Subscript_ (thn (he pins s σ H _ I h) fun v s1 ⟨x, H1, I1, r1, q1⟩ => ?_)
  refine wpAny_Slice (thn (hl pins s1 σ H1 _ I1 q1) fun vl s2 ⟨l, H2, I2, pl, q2⟩ => thn (hu pins s2 σ H2 _ I2 q2) fun vu s3 ⟨u, H3, I3, pu, q3⟩ => ?_)
  rw [evalPart_none]
  refine wpAny_pure ?_
  have I4 : Inv X pins σ H3 { s3 with heap := s3.heap.push { cls := .type "slice", data := .fields #[vl, vu, .none] } } := I3.kept (t' := s3.toks) fun b ob q => Heap.get?_push_of_some _ q
  obtain ⟨T, id, hT, ht, hg⟩ := hr pins { s3 with heap := s3.heap.push { cls := .type "slice", data := .fields #[vl, vu, .none] } } σ H3 x v vl vu l u s3.heap.objs.size Q I4 r1 (Heap.IsSliceOf.new ..) pl pu q3
  show wpAny (model X.prog X.w) X.A (subscriptTail e (.Slice lo hi none p2) v (.ref s3.heap.objs.size)) (EP X pins σ Q) X.xe { s3 with heap := s3.heap.push { cls := .type "slice", data := .fields #[vl, vu, .none] } }
  exact tail_any (ops := [.ref s3.heap.objs.size, v]) ht hT hg (by with_unfolding_all rfl)

/-- the items of xs[lo:hi] -/
def cutV (xs : List V) (lo hi : Option Int) : List V := (xs.drop (HT.sIx xs.length 0 lo)).take (HT.sIx xs.length xs.length hi - HT.sIx xs.length 0 lo)
theorem cutV_length (xs : List V) (lo hi : Option Int) : (cutV xs lo hi).length ≤ xs.length := by
  unfold cutV
  rw [List.length_take, List.length_drop]
  omega
/-- t[lo:hi], not the whole of it (the whole would be t itself) -/
def rSlT (K : PySem.W.Frag) : V → Option Int → Option Int → Hp → VK → Prop := fun x lo hi H Q => ∃ a xs, x = .ref a ∧ SqT K H a xs ∧
  ¬ (HT.sIx xs.length 0 lo = 0 ∧ HT.sIx xs.length xs.length hi = xs.length) ∧ ∀ p, H p = none → Q (.ref p) (upd H p (.tup (cutV xs lo hi)))
theorem sl_tup : SlR X (rSlT X.K) := by
  intro pins s σ H x v vl vu lo hi sl Q I rx hs pl pu h
  obtain ⟨a, xs, rfl, hx, hw, q⟩ := h
  cases rx
  obtain ⟨its, r, ht, hz⟩ := I.tuple hx
  have hlen : its.toArray.size = xs.length := by rw [List.size_toArray]; exact r.length.symm
  refine ⟨"tuple", _, PyProof.Rows.slot_tuple_getitem.lookup, ht.typeIs, ?_⟩
  refine HT.getItem_tuple_cut ht hs pl pu (by rw [hlen]; exact hw) ?_ (by rw [hlen]; exact hz)
  rw [hlen]
  refine ⟨.ref s.heap.objs.size, _, I.laid (t' := s.toks) (o := .tup (cutV xs lo hi)) (fun b ob q => Heap.get?_push_of_some _ q) (Nat.le_refl _) ?_, rfl, q _ (I.hok.fresh (Nat.le_refl _))⟩
  exact ⟨Nat.le_trans (cutV_length xs lo hi) hz, _, (r.drop (HT.sIx xs.length 0 lo)).take (HT.sIx xs.length xs.length hi - HT.sIx xs.length 0 lo), IsTup.new _ _⟩

/-! ### t < u, t + u -/
end
end L2

namespace L2
open PySem PySem.Spec PyProof.Rows

/-! ### places -/
/-- the place that an index of any sign means -/
def ixN (n : Nat) (i : Int) : Option Nat := if 0 ≤ i then (if i < n then some i.toNat else none) else if -(n : Int) ≤ i then some (i + n).toNat else none
def atI {α : Type} (xs : List α) (i : Int) : Option α := (ixN xs.length i).bind fun j => xs[j]?
theorem ixN_seq {n : Nat} {i : Int} {j : Nat} (h : ixN n i = some j) : seqIndex? i n = some j ∧ j < n ∧ -(n : Int) ≤ i ∧ i < n := by
  unfold ixN at h
  by_cases h0 : 0 ≤ i
  · rw [if_pos h0] at h
    by_cases h1 : i < n
    · rw [if_pos h1] at h
      have e : i.toNat = j := Option.some.inj h
      exact ⟨by rw [seqIndex_of h0 h1, e], by omega, by omega, h1⟩
    · rw [if_neg h1] at h; cases h
  · rw [if_neg h0] at h
    by_cases h1 : -(n : Int) ≤ i
    · rw [if_pos h1] at h
      have e : (i + n).toNat = j := Option.some.inj h
      exact ⟨by rw [seqIndex_neg (by omega) h1, e], by omega, h1, by omega⟩
    · rw [if_neg h1] at h; cases h
theorem atI_get {α : Type} {xs : List α} {i : Int} {v : α} (h : atI xs i = some v) : ∃ j, seqIndex? i xs.length = some j ∧ xs[j]? = some v ∧ j < xs.length ∧ -(xs.length : Int) ≤ i ∧ i < xs.length := by
  unfold atI at h
  cases e : ixN xs.length i with
  | none => rw [e] at h; cases h
  | some j =>
    rw [e] at h
    obtain ⟨h1, h2, h3, h4⟩ := ixN_seq e
    exact ⟨j, h1, h, h2, h3, h4⟩
theorem atI_nat {α : Type} {xs : List α} {j : Nat} {v : α} (h : xs[j]? = some v) : atI xs (j : Int) = some v := by
  have hj : j < xs.length := (List.getElem?_eq_some_iff.mp h).1
  have e : ixN xs.length (j : Int) = some j := by
    unfold ixN
    rw [if_pos (by omega), if_pos (by omega)]; simp
  unfold atI; rw [e]; exact h
theorem atI_last {α : Type} (xs : List α) (v : α) : atI (xs ++ [v]) (-1) = some v := by
  have hl : (xs ++ [v]).length = xs.length + 1 := by simp
  have e : ixN (xs ++ [v]).length (-1) = some xs.length := by
    unfold ixN
    rw [hl, if_neg (by decide), if_pos (by omega)]
    congr 1
    omega
  unfold atI
  rw [e]
  show (xs ++ [v])[xs.length]? = some v
  simp

/-! ### what may be subscripted -/
/-- what stands as an index of a plain subscript -/
def PlainIx (b : Expr) : Prop := ∀ o i, subscripted b false o i = operate [o, i] (getItem o i)
/-- a subscript by values -/
def IxR (X : Cx) (r : R2) : Prop :=
  ∀ (value slice : Expr) (pins : List (Addr × Obj)) (s : Shared) (σ : St) (H : Hp) (x y : V) (v u : Value) (Q : VK), Inv X pins σ H s → RelV x v → RelV y u → r x y H Q →
    subscripted slice false v u = operate [v, u] (getItem v u) → wpAny (model X.prog X.w) X.A (subscriptTail value slice v u) (EP X pins σ Q) X.xe s
/-- a call of a builtin's method by values: the receiver, the arguments -/
def MtR (X : Cx) (id : String) (r : V → List V → Hp → VK → Prop) : Prop :=
  ∀ (pins : List (Addr × Obj)) (s : Shared) (σ : St) (H : Hp) (x : V) (xs : List V) (v : Value) (us : List Value) (Q : VK), Inv X pins σ H s → RelV x v → Vals xs us → r x xs H Q →
    wpAny (model X.prog X.w) X.A (call (.builtin id) (v :: us)) (EP X pins σ Q) X.xe s
section
variable {X : Cx} {a b : Expr} {ta tb : TE} {pos : Pos}
/-- a[b] -/
theorem pe_ix {r : R2} (hr : IxR X r) (ha : PE X a ta) (hb : PE X b tb) (hs : PlainIx b) : PE X (.Subscript a b pos) (tOp r ta tb) := by
  intro pins s σ H Q I h
  exact Subscript_ (binT ha hb I h fun v u s2 x y H2 I2 rx ry q => hr a b pins s2 σ H2 x y v u Q I2 rx ry q (hs _ _))

def rIxL (K : PySem.W.Frag) : R2 := fun x y H Q => ∃ p xs i v, x = .ref p ∧ y = .int i ∧ SqL K H p xs ∧ atI xs i = some v ∧ Q v H
def rIxT (K : PySem.W.Frag) : R2 := fun x y H Q => ∃ p xs i v, x = .ref p ∧ y = .int i ∧ SqT K H p xs ∧ atI xs i = some v ∧ Q v H
def rIxS : R2 := fun x y H Q => ∃ z i c, x = .str z ∧ y = .int i ∧ z.length ≤ sizeLine ∧ atI z.cps.toList i = some c ∧ Q (.str ⟨#[c]⟩) H
theorem ix_list : IxR X (rIxL X.K) := by
  intro value slice pins s σ H x y v u Q I rx ry h hs
  obtain ⟨p, xs, i, z, rfl, rfl, hq, he, q⟩ := h
  cases rx
  obtain ⟨t, rfl⟩ := ry
  obtain ⟨its, r, pl, hz⟩ := I.list hq
  obtain ⟨j, h1, h2, h3, h4, h5⟩ := atI_get he
  obtain ⟨w, ew, rw'⟩ := r.get h2
  have hl := r.length
  have hn := line63
  have fin : EP X pins σ Q w s := ⟨z, H, I, rw', q⟩
  by_cases h0 : 0 ≤ i
  · have hj : i.toNat = j := by
      rw [seqIndex_of h0 h5] at h1
      exact Option.some.inj h1
    exact item_listR pl.isList h0 (by omega) (by rw [hj]; simpa using ew) fin hs
  · have hj : (i + (its.toArray.size : Int)).toNat = j := by
      rw [seqIndex_neg (by omega) h4] at h1
      rw [List.size_toArray, ← hl]
      exact Option.some.inj h1
    exact subscriptTail_builtinR (x := w) pl.isList.typeIs slot_list_getitem.lookup
      (wpAny_getItem_list_neg (Q := fun r s' => r = w ∧ EP X pins σ Q r s') pl.isList (by omega) (by rw [List.size_toArray] <;> omega) (by omega) (by rw [hj]; simpa using ew) ⟨rfl, fin⟩) hs
theorem ix_tup : IxR X (rIxT X.K) := by
  intro value slice pins s σ H x y v u Q I rx ry h hs
  obtain ⟨p, xs, i, z, rfl, rfl, hq, he, q⟩ := h
  cases rx
  obtain ⟨t, rfl⟩ := ry
  obtain ⟨its, r, pl, hz⟩ := I.tuple hq
  obtain ⟨j, h1, h2, h3, h4, h5⟩ := atI_get he
  obtain ⟨w, ew, rw'⟩ := r.get h2
  have hl := r.length
  have hn := line63
  have fin : EP X pins σ Q w s := ⟨z, H, I, rw', q⟩
  exact subscriptTail_builtinR (x := w) pl.typeIs slot_tuple_getitem.lookup
    (getItem_tuple (j := j) (Q := fun r s' => r = w ∧ EP X pins σ Q r s') pl (by omega) (by omega) (by rw [List.size_toArray, ← hl]; exact h1) (by simpa using ew) ⟨rfl, fin⟩) hs
theorem ix_str : IxR X rIxS := by
  intro value slice pins s σ H x y v u Q I rx ry h hs
  obtain ⟨z, i, c, rfl, rfl, hz, he, q⟩ := h
  obtain ⟨t, rfl⟩ := rx
  obtain ⟨t', rfl⟩ := ry
  obtain ⟨j, h1, h2, h3, h4, h5⟩ := atI_get he
  have hl : z.cps.toList.length = z.length := by simp [Str.length]
  rw [hl] at h1 h4 h5
  have hn := line63
  exact tail_any (typeIs_str s z t) slot_str_getitem.lookup (getItem_str (c := c) (by
    have e1 : decide (i < -(2 ^ 63 : Int)) = false := decide_eq_false (by omega)
    have e2 : decide (i ≥ 2 ^ 63) = false := decide_eq_false (by omega)
    rw [e1, e2, Bool.or_false]) (by rw [h1]; simpa using h2) ⟨.str ⟨#[c]⟩, H, I.tok _, ⟨_, rfl⟩, q⟩) hs
/-! ### xs[i] = v, any sign -/
/-! ### slices -/
theorem slice_bounds (lo hi : Option Int) (n : Nat) : (sliceBounds lo hi none n).1 = ((HT.sIx n 0 lo : Nat) : Int) ∧ (sliceBounds lo hi none n).2.1 = ((HT.sIx n n hi : Nat) : Int) ∧ (sliceBounds lo hi none n).2.2 = 1 := by
  refine ⟨?_, ?_, rfl⟩
  · cases lo with
    | none => simp [sliceBounds, HT.sIx]
    | some i =>
      simp only [sliceBounds, HT.sIx, Option.getD_none, show (1 : Int) > 0 by decide, if_true]
      by_cases h : i < 0
      · simp only [h, if_true] <;> omega
      · simp only [h, if_false] <;> omega
  · cases hi with
    | none => simp [sliceBounds, HT.sIx]
    | some i =>
      simp only [sliceBounds, HT.sIx, Option.getD_none, show (1 : Int) > 0 by decide, if_true]
      by_cases h : i < 0
      · simp only [h, if_true] <;> omega
      · simp only [h, if_false] <;> omega
theorem slicePick_cut (its : List Value) (lo hi : Option Int) : slicePick its.toArray lo hi none = ((its.drop (HT.sIx its.length 0 lo)).take (HT.sIx its.length its.length hi - HT.sIx its.length 0 lo)).toArray := by
  obtain ⟨h1, h2, h3⟩ := slice_bounds lo hi its.toArray.size
  unfold slicePick
  rw [h1, h2, h3]
  simp only [sliceRange_one, pick_run, List.size_toArray] <;> rfl
/-- xs[lo:hi] of a list: a new list -/
def rSlL (K : PySem.W.Frag) : V → Option Int → Option Int → Hp → VK → Prop := fun x lo hi H Q => ∃ a xs, x = .ref a ∧ SqL K H a xs ∧ ∀ p, H p = none → Q (.ref p) (upd H p (.lst (cutV xs lo hi)))
theorem sl_list : SlR X (rSlL X.K) := by
  intro pins s σ H x v vl vu lo hi sl Q I rx hs pl pu h
  obtain ⟨a, xs, rfl, hx, q⟩ := h
  cases rx
  obtain ⟨its, r, ht, hz⟩ := I.list hx
  have hlen := r.length
  refine ⟨"list", _, slot_list_getitem.lookup, ht.isList.typeIs, ?_⟩
  refine wpAny_getItem_list_slice ht.isList hs pl pu .none (by simp) ?_ (by rw [List.size_toArray] <;> omega)
  rw [slicePick_cut, ← hlen]
  refine ⟨.ref s.heap.objs.size, _, I.laid (t' := s.toks) (o := .lst (cutV xs lo hi)) (fun b ob q => Heap.get?_push_of_some _ q) (Nat.le_refl _) ?_, rfl, q _ (I.hok.fresh (Nat.le_refl _))⟩
  exact ⟨Nat.le_trans (cutV_length xs lo hi) hz, _, 0, (r.drop (HT.sIx xs.length 0 lo)).take (HT.sIx xs.length xs.length hi - HT.sIx xs.length 0 lo), Heap.get?_push_size _ rfl⟩

/-! ### in, not in: flat items -/
def flatV : V → Bool
  | .non => true
  | .bl _ => true
  | .int _ => true
  | .str _ => true
  | _ => false
/-- == of flat values -/
def eqV : V → V → Bool
  | .non, .non => true
  | .bl a, .bl b => a == b
  | .bl a, .int b => (if a then 1 else 0) == b
  | .int a, .bl b => a == (if b then 1 else 0)
  | .int a, .int b => a == b
  | .str a, .str b => a == b
  | _, _ => false
theorem eqAt_V {A : Around} {s : Shared} {y x : V} {u v : Value} (ry : RelV y u) (rx : RelV x v) (fy : flatV y = true) (fx : flatV x = true) : SeqAt.EqAt A s u v (eqV y x) := by
  cases y with
  | non =>
    cases ry
    cases x with
    | non => cases rx; exact SeqAt.EqAt.same _
    | bl b => cases rx; exact SeqAt.EqAt.none_bool b
    | int b => obtain ⟨t, rfl⟩ := rx; exact SeqAt.EqAt.none_int b t
    | str b => obtain ⟨t, rfl⟩ := rx; exact SeqAt.EqAt.none_str b t
    | _ => exact absurd (show false = true from fx) Bool.false_ne_true
  | bl a =>
    cases ry
    cases x with
    | non => cases rx; exact SeqAt.EqAt.bool_none a
    | bl b => cases rx; exact SeqAt.EqAt.bool_bool a b
    | int b => obtain ⟨t, rfl⟩ := rx; exact SeqAt.EqAt.bool_int a b t
    | str b => obtain ⟨t, rfl⟩ := rx; exact SeqAt.EqAt.bool_str a b t
    | _ => exact absurd (show false = true from fx) Bool.false_ne_true
  | int a =>
    obtain ⟨t', rfl⟩ := ry
    cases x with
    | non => cases rx; exact SeqAt.EqAt.int_none a t'
    | bl b => cases rx; exact SeqAt.EqAt.int_bool a t' b
    | int b => obtain ⟨t, rfl⟩ := rx; exact SeqAt.EqAt.int_int a t' b t
    | str b => obtain ⟨t, rfl⟩ := rx; exact SeqAt.EqAt.int_str a t' b t
    | _ => exact absurd (show false = true from fx) Bool.false_ne_true
  | str a =>
    obtain ⟨t', rfl⟩ := ry
    cases x with
    | non => cases rx; exact SeqAt.EqAt.str_none a t'
    | bl b => cases rx; exact SeqAt.EqAt.str_bool a t' b
    | int b => obtain ⟨t, rfl⟩ := rx; exact SeqAt.EqAt.str_int a t' b t
    | str b => obtain ⟨t, rfl⟩ := rx; exact SeqAt.EqAt.str_str a t' b t
    | _ => exact absurd (show false = true from fx) Bool.false_ne_true
  | _ => exact absurd (show false = true from fy) Bool.false_ne_true
/-- the items' answers, read off the values (a value's own answer does not lean on its token) -/
def eqU (x : V) (u : Value) : Bool := match u with
  | .none => eqV .non x
  | .bool b => eqV (.bl b) x
  | .int i _ => eqV (.int i) x
  | .str z _ => eqV (.str z) x
  | _ => false
theorem eqU_of {x y : V} {u : Value} (r : RelV y u) (f : flatV y = true) : eqU x u = eqV y x := by
  cases y with
  | non => cases r; rfl
  | bl b => cases r; rfl
  | int i => obtain ⟨t, rfl⟩ := r; rfl
  | str z => obtain ⟨t, rfl⟩ := r; rfl
  | _ => exact absurd (show false = true from f) Bool.false_ne_true
theorem any_eqU {x : V} : ∀ {xs : List V} {us : List Value}, Vals xs us → xs.all flatV = true → us.any (eqU x) = xs.any fun y => eqV y x
  | _, _, .nil, _ => rfl
  | y :: xs, u :: us, .cons r t, f => by
    rw [List.all_cons, Bool.and_eq_true] at f
    rw [List.any_cons, List.any_cons, eqU_of r f.1, any_eqU t f.2]
theorem mem_eqAt {A : Around} {s : Shared} {x : V} {v : Value} (rx : RelV x v) (fx : flatV x = true) : ∀ {xs : List V} {us : List Value}, Vals xs us → xs.all flatV = true → ∀ u ∈ us, SeqAt.EqAt A s u v (eqU x u)
  | _, _, .nil, _ => fun u hu => by cases hu
  | y :: xs, u :: us, .cons r t, f => fun u' hu => by
    rw [List.all_cons, Bool.and_eq_true] at f
    rcases List.mem_cons.mp hu with rfl | hu
    · rw [eqU_of r f.1]; exact eqAt_V r rx f.1 fx
    · exact mem_eqAt rx fx t f.2 u' hu
def inV (x : V) (xs : List V) : Bool := xs.any fun y => eqV y x
/-- x in a list or tuple of flat items -/
def rIn (K : PySem.W.Frag) (neg : Bool) : R2 := fun x y H Q => ∃ p xs, y = .ref p ∧ (SqL K H p xs ∨ SqT K H p xs) ∧ flatV x = true ∧ xs.all flatV = true ∧ Q (.bl (if neg then !inV x xs else inV x xs)) H
theorem op_in_seq : OpR X (compareOp .In) (rIn X.K false) := by
  intro pins s σ H x y v u Q I rx ry h
  obtain ⟨p, xs, rfl, hq, fx, fs, q⟩ := h
  cases ry
  rcases hq with hq | hq
  · obtain ⟨its, r, pl, hz⟩ := I.list hq
    refine SeqAt.in_listAt (eqU x) pl.isList (fun w hw => mem_eqAt rx fx r fs w (by simpa using hw)) ⟨.bl _, H, I, rfl, ?_⟩
    rw [show its.toArray.any (eqU x) = its.any (eqU x) by simp, any_eqU r fs]
    exact q
  · obtain ⟨its, r, pl, hz⟩ := I.tuple hq
    refine SeqAt.in_tupleAt (eqU x) pl (fun w hw => mem_eqAt rx fx r fs w (by simpa using hw)) ⟨.bl _, H, I, rfl, ?_⟩
    rw [show its.toArray.any (eqU x) = its.any (eqU x) by simp, any_eqU r fs]
    exact q
theorem op_notIn_seq : OpR X (compareOp .NotIn) (rIn X.K true) := by
  intro pins s σ H x y v u Q I rx ry h
  obtain ⟨p, xs, rfl, hq, fx, fs, q⟩ := h
  cases ry
  rcases hq with hq | hq
  · obtain ⟨its, r, pl, hz⟩ := I.list hq
    refine SeqAt.notIn_listAt (eqU x) pl.isList (fun w hw => mem_eqAt rx fx r fs w (by simpa using hw)) ⟨.bl _, H, I, rfl, ?_⟩
    rw [show its.toArray.any (eqU x) = its.any (eqU x) by simp, any_eqU r fs]
    exact q
  · obtain ⟨its, r, pl, hz⟩ := I.tuple hq
    refine SeqAt.notIn_tupleAt (eqU x) pl (fun w hw => mem_eqAt rx fx r fs w (by simpa using hw)) ⟨.bl _, H, I, rfl, ?_⟩
    rw [show its.toArray.any (eqU x) = its.any (eqU x) by simp, any_eqU r fs]
    exact q
/-! ### len, list(x), tuple(x) of any list or tuple that is read -/
theorem call_len_seq : CallR X (.builtin "len") (fun xs H Q => ∃ p ys, xs = [.ref p] ∧ (SqL X.K H p ys ∨ SqT X.K H p ys) ∧ Q (.int ys.length) H) := by
  intro pins s σ H xs us Q I r h
  obtain ⟨p, ys, rfl, hq, q⟩ := h
  obtain ⟨u, rfl, rx⟩ := vals1 r
  cases rx
  have hn := line63
  rcases hq with hq | hq
  · obtain ⟨its, r', pl, hz⟩ := I.list hq
    have hlen := r'.length
    exact Calls.call_len_list pl.isList (by simp only [List.size_toArray] <;> omega) ⟨.int ys.length, H, I.tok _, ⟨s.toks + 1, by rw [List.size_toArray, hlen]⟩, q⟩
  · obtain ⟨its, r', pl, hz⟩ := I.tuple hq
    have hlen := r'.length
    exact len_tuple pl (by simp only [List.size_toArray] <;> omega) ⟨.int ys.length, H, I.tok _, ⟨s.toks + 1, by rw [List.size_toArray, hlen]⟩, q⟩
theorem call_len_str : CallR X (.builtin "len") (fun xs H Q => ∃ z, xs = [.str z] ∧ z.length ≤ sizeLine ∧ Q (.int z.length) H) := by
  intro pins s σ H xs us Q I r h
  obtain ⟨z, rfl, hz, q⟩ := h
  obtain ⟨u, rfl, t, rfl⟩ := vals1 r
  have hn := line63
  exact len_str (by omega) ⟨.int z.length, H, I.tok _, ⟨_, rfl⟩, q⟩
theorem call_list_of : CallR X (.type "list") (fun xs H Q => ∃ p ys, xs = [.ref p] ∧ (SqL X.K H p ys ∨ SqT X.K H p ys) ∧ ∀ l, H l = none → Q (.ref l) (upd H l (.lst ys))) := by
  intro pins s σ H xs us Q I r h
  obtain ⟨p, ys, rfl, hq, q⟩ := h
  obtain ⟨u, rfl, rx⟩ := vals1 r
  cases rx
  have fin : ∀ (its : List Value), Vals ys its → ys.length ≤ sizeLine → ∀ (h' : Heap) (c' : Nat), (∀ b o', s.heap.get? b = some o' → h'.get? b = some o') →
      h'.get? s.heap.objs.size = some { cls := .type "list", dict := none, data := .seq its.toArray c', slots := #[] } → EP X pins σ Q (.ref s.heap.objs.size) { s with heap := h' } := fun its r' hz h' c' kp e =>
    ⟨.ref s.heap.objs.size, _, I.laid (t' := s.toks) kp (Nat.le_refl _) (show ObjOk X.prog X.w _ h' _ (.lst ys) from ⟨hz, its, c', r', e⟩), rfl, q _ (I.hok.fresh (Nat.le_refl _))⟩
  rcases hq with hq | hq
  · obtain ⟨its, r', pl, hz⟩ := I.list hq
    have hlen := r'.length
    obtain ⟨o, ho, hc, n, hd⟩ := pl.isList
    exact call_list_seq p (.inl rfl) ho hc hd (fun h' c' kp e => fin its r' hz h' c' kp e) (by simp only [List.size_toArray] <;> omega)
  · obtain ⟨its, r', pl, hz⟩ := I.tuple hq
    have hlen := r'.length
    obtain ⟨o, ho, hc, n, hd⟩ := pl
    exact call_list_seq p (.inr rfl) ho hc hd (fun h' c' kp e => fin its r' hz h' c' kp e) (by simp only [List.size_toArray] <;> omega)
theorem call_tuple_of : CallR X (.type "tuple") (fun xs H Q => ∃ p ys, xs = [.ref p] ∧ ((SqL X.K H p ys ∧ ∀ l, H l = none → Q (.ref l) (upd H l (.tup ys))) ∨ (SqT X.K H p ys ∧ Q (.ref p) H))) := by
  intro pins s σ H xs us Q I r h
  obtain ⟨p, ys, rfl, h⟩ := h
  obtain ⟨u, rfl, rx⟩ := vals1 r
  cases rx
  rcases h with ⟨hq, q⟩ | ⟨hq, q⟩
  · obtain ⟨its, r', pl, hz⟩ := I.list hq
    have hlen := r'.length
    refine call_tuple_list pl.isList (fun h' kp => ?_) (by simp only [List.size_toArray] <;> omega)
    have I1 : Inv X pins σ H { s with heap := h' } := I.kept (t' := s.toks) kp
    have I2 : Inv X pins σ (upd H h'.objs.size (.tup ys)) { s with heap := h'.push { cls := .type "tuple", data := .seq its.toArray } } :=
      I1.laid (t' := s.toks) (fun b o e => Heap.get?_push_of_some _ e) (Nat.le_refl _) (show ObjOk X.prog X.w _ _ _ (.tup ys) from ⟨hz, its, r', IsTup.new _ _⟩)
    exact ⟨.ref h'.objs.size, _, I2, rfl, q _ (I1.hok.fresh (Nat.le_refl _))⟩
  · obtain ⟨its, r', pl, hz⟩ := I.tuple hq
    exact call_tuple_same pl ⟨.ref p, H, I, rfl, q⟩

/-! ### the call of a builtin's method: o.m(..) -/
/-- the value is of that builtin type -/
def tyV (K : PySem.W.Frag) (T : String) (x : V) (H : Hp) : Prop := match x with
  | .str _ => T = "str"
  | .int _ => T = "int"
  | .ref p => (T = "list" ∧ ∃ xs, SqL K H p xs) ∨ (T = "tuple" ∧ ∃ o, K.lookup p = some o ∧ o.cls = .type "tuple" ∧ o.dict = none) ∨
      (T = "dict" ∧ ((∃ kvs, H p = some (.dK kvs)) ∨ ∃ kvs, H p = some (.dT kvs))) ∨ (T = "set" ∧ ∃ S n, H p = some (.set S n))
  | _ => False
theorem tyV_is {pins : List (Addr × Obj)} {σ : St} {H : Hp} {s : Shared} {T : String} {x : V} {v : Value} (I : Inv X pins σ H s) (r : RelV x v) (ty : tyV X.K T x H) :
    s.TypeIs v T ∧ ∀ a, v = .ref a → ∃ ob, s.heap.get? a = some ob ∧ ob.dict = none := by
  cases x with
  | str z =>
    obtain ⟨t, rfl⟩ := r
    cases (show T = "str" from ty)
    exact ⟨typeIs_str s z t, fun _ e => nomatch e⟩
  | int i =>
    obtain ⟨t, rfl⟩ := r
    cases (show T = "int" from ty)
    exact ⟨typeIs_int s i t, fun _ e => nomatch e⟩
  | ref p =>
    cases r
    rcases ty with ⟨rfl, xs, hq⟩ | ⟨rfl, o, hk, hc, hd⟩ | ⟨rfl, hk⟩ | ⟨rfl, S, n, hk⟩
    · obtain ⟨its, _, pl, _⟩ := I.list hq
      refine ⟨pl.isList.typeIs, fun a e => ?_⟩
      cases e
      obtain ⟨o, n, e, c, hd, _⟩ := pl
      exact ⟨o, e, hd⟩
    · refine ⟨⟨o, I.kIn p o hk, hc⟩, fun a e => ?_⟩
      cases e
      exact ⟨o, I.kIn _ o hk, hd⟩
    · have z : ∃ o, s.heap.get? p = some o ∧ o.ExactDict := by
        rcases hk with ⟨kvs, hk⟩ | ⟨kvs, hk⟩
        · obtain ⟨_, _, _, _, o, _, _, e, ex, _⟩ := I.hok p _ hk
          exact ⟨o, e, ex⟩
        · obtain ⟨_, _, _, _, o, _, _, e, ex, _⟩ := I.hok p _ hk
          exact ⟨o, e, ex⟩
      obtain ⟨o, e, ex⟩ := z
      refine ⟨⟨o, e, ex.1⟩, fun a e2 => ?_⟩
      cases e2
      exact ⟨o, e, ex.2.1⟩
    · obtain ⟨o, _, _, _, e, ex, _⟩ := I.hok p _ hk
      refine ⟨⟨o, e, ex.1⟩, fun a e2 => ?_⟩
      cases e2
      exact ⟨o, e, ex.2.1⟩
  | _ => exact False.elim ty
def tBM0 (K : PySem.W.Frag) (T : String) (r : V → List V → Hp → VK → Prop) (to : TE) : TE := fun σ H Q => to σ H fun x H1 => tyV K T x H1 ∧ r x [] H1 Q
def tBM (K : PySem.W.Frag) (T : String) (r : V → List V → Hp → VK → Prop) (to : TE) (t : TA) : TE := fun σ H Q => to σ H fun x H1 => tyV K T x H1 ∧ t σ H1 fun xs H2 => r x xs H2 Q
variable {o e : Expr} {es : List Expr} {to : TE} {t : TA} {name : Str} {apos cpos : Pos} {T id : String} {r : V → List V → Hp → VK → Prop}
theorem pe_bm0 (pa : PlainAttrs T) (slot : Slot T name id) (hty : typeOf (.builtin id) = pure (.type "method_descriptor")) (hm : MtR X id r) (ho : PE X o to)
    (hbase : attributeBase o name X.env (eval o X.env) = eval o X.env := by rfl) (hline : (apos.endLine == cpos.line) = true := by rfl) : PE X (.Call (.Attribute o name apos) [] [] cpos) (tBM0 X.K T r to) := by
  intro pins s σ H Q I h
  refine wpAny_Call_method0_late hbase hline (thn (ho pins s σ H _ I h) fun v s1 ⟨x, H1, I1, r1, ty, q1⟩ => ?_)
  obtain ⟨h1, h2⟩ := tyV_is I1 r1 ty
  exact ⟨T, id, pa, slot, hty, h1, h2, Calls.callWith_builtin rfl (PySem.evalArgs_none (hm pins s1 σ H1 x [] v [] Q I1 r1 .nil q1))⟩
theorem pe_bm (pa : PlainAttrs T) (slot : Slot T name id) (hty : typeOf (.builtin id) = pure (.type "method_descriptor")) (hm : MtR X id r) (ho : PE X o to) (ha : PA X (e :: es) t)
    (hbase : attributeBase o name X.env (eval o X.env) = eval o X.env := by rfl)
    (hfew : ((backTo cpos (starEach (e :: es) X.env)).all (fun x => !x.1) && (backToKw cpos (keywordEach [] X.env)).all (fun x => x.1.isSome)
      && decide ((e :: es).length + ([] : List Keyword).length + (if ([] : List Keyword).isEmpty then 0 else 1) < 30)) = true := by rfl)
    (hline : (apos.endLine == cpos.line) = true := by rfl) (hs : starEach (e :: es) X.env = (false, eval e X.env) :: starEach es X.env := by rfl) (hplain : (backTo cpos (starEach es X.env)).any (·.1) = false := by rfl) :
    PE X (.Call (.Attribute o name apos) (e :: es) [] cpos) (tBM X.K T r to t) := by
  intro pins s σ H Q I h
  refine wpAny_Call_method_late hbase hfew hline rfl (thn (ho pins s σ H _ I h) fun v s1 ⟨x, H1, I1, r1, ty, q1⟩ => ?_)
  obtain ⟨h1, h2⟩ := tyV_is I1 r1 ty
  refine ⟨T, id, pa, slot, hty, h1, h2, ?_⟩
  have hA := ha cpos pins s1 σ H1 _ I1 q1
  rw [hs] at hA ⊢
  refine Calls.callWith_builtin (by show (false || (backTo cpos (starEach es X.env)).any (·.1)) = false; rw [hplain] <;> rfl) (Calls.evalArgs_plain ?_)
  exact thn hA fun us s2 ⟨vs, H2, I2, r2, q2⟩ => hm pins s2 σ H2 x vs v us Q I2 r1 r2 q2
/- xs.append(e), list.index on a module's tuple .. are MtR facts of 06m -/
end
end L2

namespace L2
open PySem PySem.Spec PyProof.Rows

def MtM (X : Cx) (id : String) (r : V → List V → Hp → VK → Prop) : Prop :=
  ∀ (pins : List (Addr × Obj)) (s : Shared) (σ : St) (H : Hp) (x : V) (xs : List V) (v : Value) (us : List Value) (Q : VK), Inv X pins σ H s → RelV x v → Vals xs us → r x xs H Q →
    wpAny (model X.prog X.w) X.A (call (.builtin id) (v :: us)) (EP X pins σ Q) X.xe s

/-! ### lists of values -/
theorem Vals.one : ∀ {x : V} {us : List Value}, Vals [x] us → ∃ u, us = [u] ∧ RelV x u
  | _, _, .cons r .nil => ⟨_, rfl, r⟩
theorem Vals.zero : ∀ {us : List Value}, Vals [] us → us = []
  | _, .nil => rfl
theorem Vals.dropLast {xs : List V} {us : List Value} (h : Vals xs us) : Vals xs.dropLast us.dropLast := by
  induction h with
  | nil => exact .nil
  | cons r t ih =>
    cases t with
    | nil => exact .nil
    | cons q t' => exact .cons r ih
theorem erase_last {α : Type} (l : List α) : l.eraseIdx (l.length - 1) = l.dropLast := by
  induction l with
  | nil => rfl
  | cons a r ih =>
    cases r with
    | nil => rfl
    | cons b r =>
      have e : (a :: b :: r).length - 1 = ((b :: r).length - 1) + 1 := by
        have h1 : (a :: b :: r).length = r.length + 2 := rfl
        have h2 : (b :: r).length = r.length + 1 := rfl
        omega
      rw [e, List.eraseIdx_cons_succ, ih]
      all_goals rfl
section
variable {X : Cx} {pins : List (Addr × Obj)} {σ : St} {H : Hp} {s : Shared} {l b : Addr} {xs ys zs : List V}

/-! ### the two steps: a tracked list is rewritten, a new list is laid -/
theorem Inv.lset {its its' : List Value} {n : Nat} {f : Array Value → Array Value} {t' : Nat} (I : Inv X pins σ H s) (hH : H l = some (.lst xs))
    (e : s.heap.get? l = some { cls := .type "list", data := .seq its.toArray n }) (hf : f its.toArray = its'.toArray) (hv : Vals ys its') (hz : ys.length ≤ sizeLine) :
    Inv X pins σ (upd H l (.lst ys)) { s with heap := s.heap.update l (Obj.mapSeq f), toks := t' } := by
  have q := PySem.IsL.update e f
  rw [hf] at q
  refine I.write (x := l) (e := l) (by rw [hH]; exact trivial) (.inl rfl) (fun b' u hb hu => (Heap.get?_update_other s.heap (Obj.mapSeq f) (Ne.symm hb)).trans hu) ⟨_, q⟩ ?_
  exact ⟨hz, its', _, hv, q⟩
theorem Inv.lnew {its : List Value} {t' : Nat} (I : Inv X pins σ H s) (hv : Vals ys its) (hz : ys.length ≤ sizeLine) :
    Inv X pins σ (upd H s.heap.objs.size (.lst ys)) { s with heap := s.heap.push { cls := .type "list", data := .seq its.toArray }, toks := t' } :=
  I.laid (fun _ _ q => Heap.get?_push_of_some _ q) (Nat.le_refl _) ⟨hz, its, 0, hv, Heap.get?_push_size _ rfl⟩
theorem Inv.fresh (I : Inv X pins σ H s) : H s.heap.objs.size = none := I.hok.fresh (Nat.le_refl _)
theorem Inv.lstM (I : Inv X pins σ H s) (hH : H l = some (.lst xs)) : xs.length ≤ sizeLine ∧ ∃ (its : List Value) (n : Nat), Vals xs its ∧ xs.length = its.length ∧ s.heap.get? l = some { cls := .type "list", data := .seq its.toArray n } := by
  obtain ⟨z, its, n, r, e⟩ := I.hok l _ hH
  exact ⟨z, its, n, r, r.length, e⟩

theorem notLongL {n : Nat} (h : n ≤ sizeLine) : Builtin.List.listTooLong n = false := by
  unfold Builtin.List.listTooLong
  exact decide_eq_false (by omega)
end

section
variable {X : Cx}

/-! ### methods -/
def rAppend : V → List V → Hp → VK → Prop := fun x vs H Q => ∃ l xs y, x = .ref l ∧ vs = [y] ∧ H l = some (.lst xs) ∧ xs.length < sizeLine ∧ Q .non (upd H l (.lst (xs ++ [y])))
theorem mt_append : MtM X "list.append" rAppend := by
  intro pins s σ H x vs v us Q I rx rv h
  obtain ⟨l, xs, y, rfl, rfl, hH, hz, q⟩ := h
  cases rx
  obtain ⟨u, rfl, ru⟩ := rv.one
  obtain ⟨z, its, n, r, hl, e⟩ := I.lstM hH
  refine call_meets F.slot_list_append ⟨_, e, rfl⟩ F.entry_list_append (F.args_list_append_2 _ _) (PySem.list_append l its.toArray n u (by rw [List.size_toArray]; omega)) ⟨e, ?_⟩
  refine ⟨.non, _, I.lset (its' := its ++ [u]) hH e (by simp) (r.append (.cons ru .nil)) ?_, rfl, q⟩
  rw [List.length_append, List.length_singleton]
  omega

def rExtend : V → List V → Hp → VK → Prop := fun x vs H Q => ∃ l b xs zs, x = .ref l ∧ vs = [.ref b] ∧ H l = some (.lst xs) ∧ H b = some (.lst zs) ∧ xs.length + zs.length ≤ sizeLine ∧ Q .non (upd H l (.lst (xs ++ zs)))
theorem mt_extend : MtM X "list.extend" rExtend := by
  intro pins s σ H x vs v us Q I rx rv h
  obtain ⟨l, b, xs, zs, rfl, rfl, hH, hB, hz, q⟩ := h
  cases rx
  obtain ⟨u, rfl, ru⟩ := rv.one
  cases ru
  obtain ⟨z, its, n, r, hl, e⟩ := I.lstM hH
  obtain ⟨z2, its2, n2, r2, hl2, e2⟩ := I.lstM hB
  have hsz : its.toArray.size + its2.toArray.size ≤ sizeLine := by rw [List.size_toArray, List.size_toArray]; omega
  have hlong : ¬ (!its.toArray.isEmpty && Builtin.List.listTooLong (its.toArray.size + its2.toArray.size)) = true := by
    rw [notLongL hsz, Bool.and_false]
    exact Bool.false_ne_true
  refine call_meets F.slot_list_extend ⟨_, e, rfl⟩ F.entry_list_extend (F.args_list_extend_2 _ _)
    (AutoSeq1.list_extend_list_list_0 l its.toArray n b its2.toArray n2 hlong (by rw [List.size_toArray]; omega) (by omega)) ⟨e, e2, ?_⟩
  refine ⟨.non, _, I.lset (its' := its ++ its2) hH e (by simp) (r.append r2) ?_, rfl, q⟩
  rw [List.length_append]
  omega

def rPop : V → List V → Hp → VK → Prop := fun x vs H Q => ∃ l xs y, x = .ref l ∧ vs = [] ∧ H l = some (.lst xs) ∧ xs[xs.length - 1]? = some y ∧ Q y (upd H l (.lst xs.dropLast))
theorem mt_pop : MtM X "list.pop" rPop := by
  intro pins s σ H x vs v us Q I rx rv h
  obtain ⟨l, xs, y, rfl, rfl, hH, hy, q⟩ := h
  cases rx
  have hus := rv.zero
  subst hus
  obtain ⟨z, its, n, r, hl, e⟩ := I.lstM hH
  obtain ⟨u, hu, ru⟩ := r.get hy
  have hy' : its.toArray[its.toArray.size - 1]? = some u := by
    show its.toArray[its.length - 1]? = some u
    rw [← Array.getElem?_toList, ← hl]
    exact hu
  refine call_meets F.slot_list_pop ⟨_, e, rfl⟩ F.entry_list_pop (F.args_list_pop_1 _) (MeetsSeq.list_pop_last l its.toArray n u hy' (by rw [List.size_toArray]; omega)) ⟨e, ?_⟩
  refine ⟨y, _, I.lset (its' := its.dropLast) hH e ?_ r.dropLast ?_, ru, q⟩
  · show its.toArray.eraseIdxIfInBounds (its.toArray.size - 1) = its.dropLast.toArray
    rw [List.size_toArray, List.eraseIdxIfInBounds_toArray, erase_last]
  · rw [List.length_dropLast]
    omega

/-! ### list + list, list += list, list * int -/
def rCat : R2 := fun x y H Q => ∃ l b xs zs, x = .ref l ∧ y = .ref b ∧ H l = some (.lst xs) ∧ H b = some (.lst zs) ∧ xs.length + zs.length ≤ sizeLine ∧ ∀ p, H p = none → Q (.ref p) (upd H p (.lst (xs ++ zs)))
theorem op_cat : OpR X (binaryOp .Add) rCat := by
  intro pins s σ H x y v u Q I rx ry h
  obtain ⟨l, b, xs, zs, rfl, rfl, hH, hB, hz, q⟩ := h
  cases rx
  cases ry
  obtain ⟨z, its, n, r, hl, e⟩ := I.lstM hH
  obtain ⟨z2, its2, n2, r2, hl2, e2⟩ := I.lstM hB
  refine PySem.P.add_list e e2 ?_ (by rw [List.size_toArray, List.size_toArray]; omega)
  have ea : its.toArray ++ its2.toArray = (its ++ its2).toArray := by simp
  rw [ea]
  exact ⟨.ref _, _, I.lnew (t' := s.toks) (r.append r2) (by rw [List.length_append]; omega), rfl, q _ I.fresh⟩
/-! ### del xs[i] -/
end

/-! ### xs[a:b] = ys -/
section
variable {prog : Program} {w : World} {A : Around} {E : Value → Shared → Prop} {s : Shared}
end

section
variable {X : Cx}
end
end L2

namespace L2
open PySem PySem.Spec PyProof.Rows

/-! ### lists of pairs as tables -/
section
variable {κ : Type} [DecidableEq κ]
end


/-! ### a tracked dict, its keys ints and texts or tuples of these -/
section
variable {P : Program} {w : World} {H : Hp} {h : Heap} {a : Addr}
end

section
variable {X : Cx} {pins : List (Addr × Obj)} {σ : St} {H : Hp} {s : Shared} {a : Addr} {y v : V} {u r : Value} {o : Option V} {A : Around} {E : Value → Shared → Prop}

end

section
variable {X : Cx} {pins : List (Addr × Obj)} {σ : St} {H : Hp} {s : Shared} {a : Addr} {kvs : List (Key × V)} {k : Key} {u : Value} {A : Around} {E : Value → Shared → Prop}
end


/-! ### readings and rules -/
section
variable {X : Cx} {o i e value : Expr} {pos pos' tpos : Pos} {td ty tv : TE}
end


/-! ### displays -/
section
variable {X : Cx} {pos : Pos}
end

/-! ### methods -/
section
variable {X : Cx} {pins : List (Addr × Obj)} {σ : St} {H : Hp} {s : Shared} {a : Addr} {y d : V} {u r : Value} {o : Option V} {A : Around} {E : Value → Shared → Prop}
end

section
variable {X : Cx} {o e f : Expr} {apos cpos : Pos} {td ty tx : TE}
end

/-! ### dict(d): a copy -/
section
variable {X : Cx} {pins : List (Addr × Obj)} {σ : St} {H : Hp} {s : Shared} {a : Addr} {kvs : List (Key × V)} {A : Around} {E : Value → Shared → Prop}
end


section
variable {X : Cx} {pins : List (Addr × Obj)} {σ : St} {H : Hp} {s : Shared} {a : Addr} {y : V} {u : Value} {A : Around} {E : Value → Shared → Prop}
end
end L2

namespace Att
open PySem PySem.W PySem.Calls PyProof.Rows

/-! ### the script -/
theorem ints_of_wellAll {P : Params} {h : Heap} : ∀ (ns : List Int) (vs : List Value), WellAll P h vs (ns.map WData.int) → IntsAre vs ns := by
  intro ns
  induction ns with
  | nil =>
    intro vs w
    rw [List.map_nil] at w
    cases w
    exact .nil
  | cons n ns ih =>
    intro vs w
    rw [List.map_cons] at w
    cases w with
    | cons a b =>
      cases a
      exact .cons _ _ (ih _ b)

theorem script_of {l : OpenLaw} {n : Nat} (hn : l.most = some n) {P : Params} {h : Heap} {args : List WData} {vals : List Value}
    (hpre : l.row.toRowW.claim.pre args = true) (hwl : WellAll P h vals args) :
    ∃ a vs ns, vals = [Value.ref a] ∧ args = [WData.list (ns.map WData.int)] ∧ h.get? a = some { cls := .type "list", data := .seq vs.toArray } ∧ IntsAre vs ns ∧ ns.length ≤ n := by
  have hsh : WShape.hasAll [] args [.list .int] = true := (pre_splitW hpre).1
  have hc : l.pre.holds [] { args := args } = true := (pre_splitW hpre).2
  obtain ⟨d, r, rfl, h1, h2⟩ := hasAllW_cons hsh
  obtain rfl := hasAllW_nil h2
  obtain ⟨xs, rfl, h3⟩ := hasW_list h1
  obtain ⟨ns, rfl⟩ := items_int h3
  have hlen : ns.length ≤ n := by
    unfold OpenLaw.pre at hc
    have h4 : (WTm.not (.lt (.lit (.int (n : Int))) (.len (.arg 0)))).holds [] { args := [.list (ns.map .int)] } = true := by
      have h4 := (holds_andW hc).1
      rw [hn] at h4
      exact h4
    have h5 := condW_of h4 (w_not (w_lt w_lit (w_len_list (w_arg rfl))))
    rw [List.length_map] at h5
    refine Nat.le_of_not_lt fun q => ?_
    have q' : (n : Int) < ((ns.length : Nat) : Int) := by omega
    first
      | (rw [decide_eq_true q'] at h5; exact absurd h5 (by decide))
      | (simp at h5; omega)
  cases hwl with
  | cons w1 w2 =>
    cases w2
    cases w1 with
    | list ho hall => exact ⟨_, _, ns, rfl, rfl, ho, ints_of_wellAll ns _ hall, hlen⟩

theorem post_true (l : OpenLaw) (args : List WData) : l.row.toRowW.claim.post args (.bool true) args = true :=
  postW_of (r := l.row.toRowW) (X := (true == true))
    (show WShape.has [] (.bool true) .bool = true by first | rfl | decide | simp [WShape.has, WShape.arms, WShape.armsAll])
    (show (WTm.eq .res (.lit (.bool true))).value [] { args := args, res := some (.bool true), after := args } = some (.bool (true == true)) from w_eq_bool (w_res rfl) w_lit) rfl

/-! ### the attachment: holds_open's last premise (the goal 'hc' behind k_head) from a wpAny of the law's body -/
/-- the same from a codeAny of the CALL (for a layer whose function contracts speak of calls) -/
theorem attach_call {l : OpenLaw} {n : Nat} {q : Program} {loose : List Str} {XP : (Str → Option Value) → Heap → Prop} {YP : World → Heap → Prop} {d : DefRec}
    (hn : l.most = some n) (hdf : d.params.defaults = [])
    (call : ∀ (w : World) (s₀ s₁ : Shared) (mg mb : Str → Option Value) (fa : Addr) (o : Obj) (pm cd doc : Value) (a : Addr) (vs : List Value) (ns : List Int),
      Ground q loose [] XP w s₀ mg mb s₁.heap → YP w s₁.heap →
      s₁.heap.get? fa = some o → o.data = .func (docDef d.name d.params d.body d.scope pm cd doc) → s₁.heap.CodeRec cd d.name → mg d.name = some (.ref fa) →
      s₁.heap.get? a = some { cls := .type "list", data := .seq vs.toArray } → IntsAre vs ns → ns.length ≤ n → s₁.gens = #[] →
      codeAny (model l.prog w) callerA (.call (.ref fa) ⟨[.ref a], []⟩) (fun r s' => r = .ok (.ret (.bool true)) ∧ OldK s₁.heap s'.heap ∧ s'.os = s₁.os ∧ AllBare s'.gens) s₁) :
    WalkO q loose XP YP l.row.toRowW d [] (fun f vs => PySem.call f vs) := by
  intro w s₀ s₁ mg mb G Y fa o pm cd doc dV kV ho hd hcd hD hmg hg args vals as hpre hlay hrd hwl hlo
  obtain rfl : dV = .none := Dflts.none hD hdf
  obtain rfl : kV = .none := Dflts.noKw hD
  obtain ⟨a, vs, ns, rfl, rfl, hobj, hints, hlen⟩ := script_of hn hpre hwl
  refine enter_call (codeAny_mono (call w s₀ s₁ mg mb fa o pm cd doc a vs ns G Y ho (fd_plain hd) hcd hmg hobj hints hlen hg) fun r s' hq => ?_)
  obtain ⟨rfl, h2, h3, h4⟩ := hq
  exact ⟨.inl ⟨.bool true, .bool true, [], rfl, fun _ => rfl, .bool true, post_true l _, fun _ => ⟨List.Pairwise.nil, fun _ hm => (nomatch hm)⟩⟩, h2, h3, h4⟩

/-! ### rules over ANY heap (no ledger) from facts about the written part K: the library's own take a ledger (News) for what they write -/
section
variable {prog : Program} {w : World} {A : Around} {E : Value → Shared → Prop} {s : Shared} {K : Frag}

/-! the whole heap as the ledger: makes every rule that writes through a ledger a rule over any heap -/
end
end Att

namespace L2
open PySem PySem.Spec PyProof.Rows

theorem vals_ints : ∀ {vs : List Value} {ns : List Int}, IntsAre vs ns → Vals (ns.map V.int) vs
  | _, _, .nil => .nil
  | _, _, .cons n t h => .cons ⟨t, rfl⟩ (vals_ints h)

/-- nothing is tracked but the script, known to the object (or it is an object of the module) -/
def Only (H : Hp) : Prop := ∀ b, H b = none ∨ ∃ o xs, H b = some (.frz o (.lst xs))

/-- THE HEAD: the law's promise, at the heap behind the top. F, the promise of the law's def, may use that base is part of the heap (so K.In base, base.Ns mainGlobals mg stand in Mod) -/
theorem law_call {P : Program} {w : World} {K : PySem.W.Frag} {mg mb : Str → Option Value} {CX : CXT} {k : Nat} {fa a : Addr} {fd : FuncData} {x : Str} {sp : Sp} {s₁ : Shared} {vs : List Value} {ns : List Int}
    (KX : K.In s₁.heap) (hns : s₁.heap.Ns mainGlobals mg) (hb : s₁.heap.Ns builtinsNs mb) (hbb : ∀ x : Str, x ≠ "__name__" → mb x = bootBuiltins x) (hlim : s₁.heap.NoLimit) (hg : s₁.gens = #[])
    (ha : s₁.heap.get? a = some { cls := .type "list", data := .seq vs.toArray }) (hi : IntsAre vs ns) (hl : ns.length ≤ sizeLine) (hr : Room k callerA)
    (F : ∀ base : Heap, K.In base → base.Ns mainGlobals mg → FnOk P w K mg base CX k fa fd [x] sp) (hbind : ∀ (s : Shared) (u : Value), BindsTo s fd ⟨[u], []⟩ [(x, u)])
    (hsp : ∀ H : Hp, Only H → SqL K H a (ns.map V.int) → sp [.ref a] H (fun v _ => v = .bl true) fun _ _ _ => False)
    (hCX : ∀ H e s', CX [] H s₁ (fun _ _ _ => False) e s' → False) :
    codeAny (model P w) callerA (.call (.ref fa) ⟨[.ref a], []⟩) (fun r s' => r = .ok (.ret (.bool true)) ∧ OldK s₁.heap s'.heap ∧ s'.os = s₁.os ∧ AllBare s'.gens) s₁ := by
  have rv := vals_ints hi
  have lenV := hi.length
  -- from an abstract heap in which nothing but the script may be tracked
  have core : ∀ H : Hp, Only H → SqL K H a (ns.map V.int) → HOk P w H s₁.heap → (∀ b, H b ≠ none → b = a) → (H a ≠ none → K.lookup a = none) →
      codeAny (model P w) callerA (.call (.ref fa) ⟨[.ref a], []⟩) (fun r s' => r = .ok (.ret (.bool true)) ∧ OldK s₁.heap s'.heap ∧ s'.os = s₁.os ∧ AllBare s'.gens) s₁ := by
    intro H hO hS hok hA hK
    have base_of : ∀ {b : Addr} {o : Obj}, s₁.heap.get? b = some o → H b = none → (hidT s₁.heap H).get? b = some o := fun e n => hidT_get e n
    have noA : ∀ {b : Addr} {o : Obj} {es : Array DictEntry} {ep : Nat}, s₁.heap.get? b = some o → o.data = .dict es ep → H b = none := fun {b o es ep} e d => by
      cases q : H b with
      | none => rfl
      | some u =>
        have e' : b = a := hA b (by rw [q]; simp)
        subst e'
        rw [ha] at e; cases e
        have d' : Data.seq vs.toArray _ = Data.dict es ep := d
        cases d'
    have nsK : ∀ {b : Addr} {m : Str → Option Value}, s₁.heap.Ns b m → (hidT s₁.heap H).Ns b m := fun {b m} ⟨o, es, ep, e, d, r⟩ => ⟨o, es, ep, base_of e (noA e d), d, r⟩
    have hKb : K.In (hidT s₁.heap H) := fun b o e => base_of (KX b o e) (by
      cases q : H b with
      | none => rfl
      | some u =>
        have e' : b = a := hA b (by rw [q]; simp)
        subst e'
        rw [hK (by rw [q]; simp)] at e; cases e)
    have hM : Mod K mg (hidT s₁.heap H) := ⟨hKb, nsK hns, ⟨mb, nsK hb, hbb⟩, let ⟨mc, h1, h2⟩ := hlim; ⟨mc, nsK h1, h2⟩⟩
    have e0 : Env0 P w K mg (hidT s₁.heap H) callerA [] s₁ H := ⟨rfl, hM, fun b o e => of_hidT e, Nat.le_of_eq (hidT_size _ _), trivial, fun b hb => absurd (show b ∈ ([] : List Addr) from hb) (by simp), hok, .of_eq hg⟩
    refine codeAny_mono ((F _ hKb (nsK hns)).run callerA [] s₁ H ⟨[.ref a], []⟩ [.ref a] [.ref a] _ _ hr e0 (hbind s₁ (.ref a)) (.cons rfl .nil) (hsp H hO hS)) fun r s' h => ?_
    cases r with
    | error e => exact (hCX H e s' h).elim
    | ok fl =>
      cases fl with
      | next => exact False.elim h
      | brk => exact False.elim h
      | cont => exact False.elim h
      | ret u =>
        obtain ⟨v, H', os, bare, un, hok', r', q⟩ := h
        have q' : v = .bl true := q
        subst q'
        obtain rfl : u = Value.bool true := r'
        refine ⟨rfl, OldK.of_keep fun b o e => ?_, os, bare⟩
        cases q : H b with
        | none => exact un.keep b o e q (by intro z; exact absurd (show b ∈ ([] : List Addr) from z) (by simp)) (by simp)
        | some u =>
          rcases hO b with z | ⟨ob, xs, z⟩
          · rw [q] at z; cases z
          · have z2 := un.frzs b ob _ z
            obtain ⟨e1, _⟩ := hok b _ z
            obtain ⟨e2, _⟩ := hok' b _ z2
            rw [e] at e1; cases e1
            exact e2
  cases hk : K.lookup a with
  | some o =>
    -- the script is one of the module's own objects
    have e := KX a o hk
    rw [ha] at e
    cases e
    refine core (fun _ => none) (fun _ => .inl rfl) (.inr ⟨_, vs.toArray, _, hk, rfl, rfl, rfl, by rw [List.size_toArray, lenV]; exact hl, by simpa using rv⟩) (fun b u z => by have z' : (none : Option HO) = some u := z; cases z') (fun b z => absurd rfl z) fun z => absurd rfl z
  | none =>
    refine core (fun b => if b = a then some (.frz { cls := .type "list", data := .seq vs.toArray } (.lst (ns.map V.int))) else none) (fun b => ?_) (.inl (.inr ⟨{ cls := .type "list", data := .seq vs.toArray }, if_pos rfl⟩)) (fun b u z => ?_) (fun b z => ?_) fun _ => hk
    · by_cases hb : b = a
      · exact .inr ⟨_, _, if_pos hb⟩
      · exact .inl (if_neg hb)
    · by_cases hb : b = a
      · have z' := (if_pos hb).symm.trans z
        cases z'
        subst hb
        exact ⟨ha, by rw [List.length_map]; exact hl, vs, _, rv, ha⟩
      · have z' := (if_neg hb).symm.trans z
        cases z'
    · by_cases hb : b = a
      · exact hb
      · exact absurd (if_neg hb) z
end L2

namespace L2
open PySem PySem.Spec PyProof.Rows

/-- the goal that k_head leaves (case hc), from the law's promise. F gives the function object fd (K's own) once, then the promise over every base -/
theorem walk_of {l : PySem.W.OpenLaw} {n k : Nat} {q : Program} {loose : List Str} {XP : (Str → Option Value) → Heap → Prop} {YP : World → Heap → Prop} {d : DefRec} {K : Params → PySem.W.Frag} {CX : World → CXT} {sp : World → Sp} {x : Str}
    (hn : l.most = some n) (hn2 : n ≤ sizeLine) (hdf : d.params.defaults = []) (hr : Room k callerA)
    (hY : ∀ (w : World) (h : Heap), YP w h → (K w.params).In h)
    (F : ∀ (w : World) (mg : Str → Option Value) (fa : Addr) (h : Heap), (K w.params).In h → h.Ns mainGlobals mg → mg d.name = some (.ref fa) →
      ∃ fd : FuncData, (∀ (s : Shared) (u : Value), BindsTo s fd ⟨[u], []⟩ [(x, u)]) ∧
        ∀ base : Heap, (K w.params).In base → base.Ns mainGlobals mg → FnOk l.prog w (K w.params) mg base (CX w) k fa fd [x] (sp w))
    (hsp : ∀ (w : World) (H : Hp) (a : Addr) (ns : List Int), ns.length ≤ n → Only H → SqL (K w.params) H a (ns.map V.int) → sp w [.ref a] H (fun v _ => v = .bl true) fun _ _ _ => False)
    (hCX : ∀ (w : World) (H : Hp) (s : Shared) (e : Value) (s' : Shared), CX w [] H s (fun _ _ _ => False) e s' → False) :
    PySem.W.WalkO q loose XP YP l.row.toRowW d [] (fun f vs => PySem.call f vs) := by
  refine Att.attach_call hn hdf fun w s₀ s₁ mg mb fa o pm cd doc a vs ns G Y ho hd hcd hmg hobj hints hlen hg => ?_
  have KX := hY w _ Y
  obtain ⟨fd, hb, hF⟩ := F w mg fa _ KX G.T.g hmg
  exact law_call KX G.T.g G.T.b G.T.builtins G.T.nolimit hg hobj hints (Nat.le_trans hlen hn2) hr hF hb (fun H hO hS => hsp w H a ns hlen hO hS) fun H e s' => hCX w H s₁ e s'
end L2

/- THE LAST THEOREM (shape; LID, My.* are yours):
   My.Adr: a structure of the addresses that your layer names (classes, functions); My.Txt K t: a structure (Prop) of the equations over K;
   My.txt_mk : {K} {implicit addresses ..} (e1 : nsIn K mainGlobals "law" = some (some (.ref f))) (e2 : K.lookup f = some ⟨oc, od, .func (fnOf "law" "law" params body scope dV kV doc pm an cdv ct), sl⟩) (e3 : codeIn K cdv "law" = true) .. : ∃ t, My.Txt K t

(the tactic k_is has no namespace: write k_is) -/

/-! SHORT WORDS over the layer: a def of the text, its body, what a loop and a test want. -/
namespace L2
open PySem PySem.Spec PyProof.Rows

/-! ### the text by places -/
/-- the j-th statement of a class's body -/
def inClass (s : Stmt) (j : Nat) : Stmt := match s with
  | .ClassDef _ _ _ body _ _ _ _ _ _ _ => body.getD j (.Pass ⟨0, 0, 0, 0⟩)
  | _ => .Pass ⟨0, 0, 0, 0⟩
def defArgs (s : Stmt) : Arguments := match s with
  | .FunctionDef _ a _ _ _ _ _ _ _ _ => a
  | _ => { posonlyargs := [], args := [], vararg := none, kwonlyargs := [], kw_defaults := [], kwarg := none, defaults := [] }
def defBody (s : Stmt) : List Stmt := match s with
  | .FunctionDef _ _ b _ _ _ _ _ _ _ => b
  | _ => []
def defScope (s : Stmt) : Scope := match s with
  | .FunctionDef _ _ _ _ _ _ sc _ _ _ => sc
  | _ => { kind := .function, names := [], isGenerator := false, isCoroutine := false }

/-! ### no exception leaves a def -/
abbrev CX0 : CXT := fun _ _ _ _ _ _ => False
abbrev E0 : XK := fun _ _ _ => False
theorem pass0 {X : Cx} : Passes CX0 X E0 := fun _ _ _ _ _ _ _ h => h.elim

/-! ### a def (or method) of the text as it stands behind the top -/
structure Fun (K : PySem.W.Frag) (x qual : Str) (st : Stmt) (f : Addr) (fd : FuncData) : Prop where
  ex : ∃ (oc : Value) (od : Option Addr) (kV doc pm : Value) (an : Option Addr) (cdv ct : Value) (osl : Array (Option Value)),
    fd = PySem.W.fnOf x qual (defArgs st) (defBody st) (defScope st) .none kV doc pm an cdv ct ∧ K.lookup f = some ⟨oc, od, .func fd, osl⟩ ∧ PySem.W.codeIn K cdv qual = true
  kp : PySem.W.keepIn K (.ref f) = true
section
variable {P : Program} {w : World} {K : PySem.W.Frag} {mg : Str → Option Value} {base : Heap}
/-- THE RULE for a def: its body as a term of rules, and the reading of that term -/
theorem Fun.ok {x qual : Str} {st : Stmt} {f : Addr} {fd : FuncData} {N ps : List Str} {k : Nat} {sp : Sp} (F : Fun K x qual st f fd) (S : FnScope N ps (defScope st)) (len : ∀ vs H Q E, sp vs H Q E → vs.length = ps.length)
    (hbody : ∀ (cdv : Value) (A : Around) (outer : List Env) (s : Shared) (H : Hp) (vs : List V) (Q : VK) (E : XK), Room k (A.deeper (envOfC qual (defScope st) s.heap.objs.size f cdv)) → sp vs H Q E →
      ∃ t, PSs (cxOf CX0 P w K mg base N qual (defScope st) f cdv A outer s H E).nox (defBody st) t ∧ t { nx := fun _ H' => Q .non H', rt := Q } (start N vs) H) : FnOk P w K mg base CX0 (k + 1) f fd ps sp := by
  obtain ⟨oc, od, kV, doc, pm, an, cdv, ct, osl, rfl, lk, hcd⟩ := F.ex
  refine fn_of lk hcd S len fun A outer s H vs Q E hr hsp => ?_
  obtain ⟨t, h, q⟩ := hbody cdv A outer s H vs Q E hr hsp
  exact ⟨t, h.nox, q⟩
/-- how its arguments bind (no defaults): h is «fun _ _ _ _ _ _ us hl => match us, hl with | [_, _], _ => rfl», one _ a parameter -/
theorem Fun.binds {x qual : Str} {st : Stmt} {f : Addr} {fd : FuncData} {ps : List Str} (F : Fun K x qual st f fd)
    (h : ∀ (kV doc pm : Value) (an : Option Addr) (cdv ct : Value) (us : List Value), us.length = ps.length → bindArgs (PySem.W.fnOf x qual (defArgs st) (defBody st) (defScope st) .none kV doc pm an cdv ct) ⟨us, []⟩ = pure (ps.zip us)) : Binds K fd ps [] := by
  obtain ⟨oc, od, kV, doc, pm, an, cdv, ct, osl, rfl, lk, hcd⟩ := F.ex
  exact .all (h kV doc pm an cdv ct)
theorem fun_mk {x qual : Str} {st : Stmt} {f : Addr} {oc : Value} {od an : Option Addr} {osl : Array (Option Value)} {kV doc pm cdv ct : Value} (l : K.lookup f = some ⟨oc, od, .func (PySem.W.fnOf x qual (defArgs st) (defBody st) (defScope st) .none kV doc pm an cdv ct), osl⟩)
    (c : PySem.W.codeIn K cdv qual = true) (k : PySem.W.keepIn K (.ref f) = true) : Fun K x qual st f (PySem.W.fnOf x qual (defArgs st) (defBody st) (defScope st) .none kV doc pm an cdv ct) := ⟨⟨oc, od, kV, doc, pm, an, cdv, ct, osl, rfl, l, c⟩, k⟩
end
theorem small1000 {n : Nat} (h : n ≤ 1000) : n < sizeLine := Nat.lt_of_le_of_lt h (by decide)

/-! ### expressions in short: the name that stands in the i-th slot -/
section
variable {X : Cx}
theorem pv (i : Nat) {x : Str} {pos : Pos} (hN : X.N[i]? = some x := by rfl) (hv : Vis X.env.scope x := by first | exact Or.inl rfl | exact Or.inr (Or.inl rfl) | exact Or.inr (Or.inr rfl)) (hd : (x == ("__debug__" : Str)) = false := by decide)
    (hcd : (x == ("__classdict__" : Str)) = false := by decide) : PE X (.Name x pos) (tVar i) := pe_var hN hv hd hcd
end

/-! ### tests -/
theorem iteF {A B : Prop} (h : B) : if false = true then A else B := by
  rw [if_neg Bool.false_ne_true]
  exact h
theorem iteT {A B : Prop} (h : A) : if true = true then A else B := by
  rw [if_pos rfl]
  exact h
theorem ite2 {c A B : Prop} [Decidable c] (h1 : c → A) (h2 : ¬ c → B) : if c then A else B := by
  by_cases h : c
  · rw [if_pos h]
    exact h1 h
  · rw [if_neg h]
    exact h2 h
/-! ### heaps -/
/-- all that was tracked is as it was -/
def Same (H H' : Hp) : Prop := ∀ b o, H b = some o → H' b = some o
theorem Same.refl (H : Hp) : Same H H := fun _ _ h => h
theorem Same.trans {H H1 H2 : Hp} (a : Same H H1) (b : Same H1 H2) : Same H H2 := fun c o h => b c o (a c o h)
theorem Same.free {H H' : Hp} (e : Same H H') {l : Addr} (h : H' l = Option.none) : H l = Option.none := by
  cases q : H l with
  | none => rfl
  | some o =>
    rw [e l o q] at h
    cases h
theorem Same.seq {K : PySem.W.Frag} {H H' : Hp} {a : Addr} {xs : List V} (e : Same H H') (h : SqL K H a xs) : SqL K H' a xs := by
  rcases h with (h | ⟨o, h⟩) | h
  · exact .inl (.inl (e _ _ h))
  · exact .inl (.inr ⟨o, e _ _ h⟩)
  · exact .inr h

section
variable {X : Cx}
end
/-! ### a dict's pairs: keys that differ -/
section
variable {κ : Type} [DecidableEq κ]
end
end L2
namespace BF
open PySem

/-- a word: letters from a to z, one at least -/
def Wd (w : Str) : Prop := 1 ≤ w.cps.toList.length ∧ w.cps.toList.length ≤ 40 ∧ ∀ c ∈ w.cps.toList, 97 ≤ c ∧ c ≤ 122

inductive Tm where
  | num (n : Int)
  | name (w : Str)
  | blank (w : Str)
  | thing (w : Str) (ps : List Tm)

mutual
def Tm.nodes : Tm → Nat
  | .num _ => 1
  | .name _ => 1
  | .blank _ => 1
  | .thing _ ps => 1 + nodesL ps
def nodesL : List Tm → Nat
  | [] => 0
  | p :: r => p.nodes + nodesL r
end
mutual
def Tm.Ok : Tm → Prop
  | .num n => -(10 ^ 61) ≤ n ∧ n ≤ 10 ^ 61
  | .name w => Wd w
  | .blank w => Wd w
  | .thing w ps => Wd w ∧ ps ≠ [] ∧ OkL ps
def OkL : List Tm → Prop
  | [] => True
  | p :: r => p.Ok ∧ OkL r
end
theorem Tm.nodes_pos (t : Tm) : 1 ≤ t.nodes := by
  cases t <;> simp only [Tm.nodes] <;> omega
theorem nodesL_append (a b : List Tm) : nodesL (a ++ b) = nodesL a + nodesL b := by
  induction a with
  | nil => simp [nodesL]
  | cons x r ih => simp only [List.cons_append, nodesL, ih]; omega
theorem okL_append (a b : List Tm) : OkL (a ++ b) ↔ OkL a ∧ OkL b := by
  induction a with
  | nil => simp [OkL]
  | cons x r ih => simp only [List.cons_append, OkL, ih, and_assoc]
theorem okL_iff (a : List Tm) : OkL a ↔ ∀ t ∈ a, t.Ok := by
  induction a with
  | nil => simp [OkL]
  | cons x r ih => simp [OkL, ih]
theorem len_le_nodes (a : List Tm) : a.length ≤ nodesL a := by
  induction a with
  | nil => simp [nodesL]
  | cons x r ih => have := x.nodes_pos; simp only [List.length_cons, nodesL]; omega
/-- induction -/
theorem Tm.ind {P : Tm → Prop} (h1 : ∀ n, P (.num n)) (h2 : ∀ w, P (.name w)) (h3 : ∀ w, P (.blank w)) (h4 : ∀ w ps, (∀ p ∈ ps, P p) → P (.thing w ps)) : ∀ t, P t
  | .num n => h1 n
  | .name w => h2 w
  | .blank w => h3 w
  | .thing w ps => h4 w ps fun p hp => Tm.ind h1 h2 h3 h4 p
termination_by t => sizeOf t
decreasing_by
  have := List.sizeOf_lt_of_mem hp
  simp only [Tm.thing.sizeOf_spec]; omega

/-- plain data -/
inductive Dt where
  | int (i : Int)
  | str (x : Str)
  | tup (l : List Dt)
  | lst (l : List Dt)
mutual
def Tm.dt : Tm → Dt
  | .num n => .tup [.str "number", .int n]
  | .name w => .tup [.str "name", .str w]
  | .blank w => .tup [.str "blank", .str w]
  | .thing w ps => .tup [.str "thing", .str w, .tup (dtL ps)]
def dtL : List Tm → List Dt
  | [] => []
  | p :: r => p.dt :: dtL r
end
theorem dtL_map (ps : List Tm) : dtL ps = ps.map Tm.dt := by
  induction ps with
  | nil => rfl
  | cons p r ih => simp only [dtL, List.map_cons, ih]
end BF
namespace BF
open PySem

def numS (n : Int) : List Nat := (Str.ofString (toString n)).cps.toList
mutual
def Tm.line : Tm → List Nat
  | .num n => numS n
  | .name w => w.cps.toList
  | .blank w => 63 :: w.cps.toList
  | .thing w ps => w.cps.toList ++ 40 :: (lineL ps ++ [41])
def lineL : List Tm → List Nat
  | [] => []
  | p :: r => p.line ++ tailL r
def tailL : List Tm → List Nat
  | [] => []
  | p :: r => 44 :: (p.line ++ tailL r)
end
/-! ### pieces on a pile: a text, or a term -/
inductive Pc where
  | sg (x : Str)
  | tm (u : Tm)
def Pc.out : Pc → List Nat
  | .sg x => x.cps.toList
  | .tm u => u.line
def Pc.wt : Pc → Nat
  | .sg _ => 1
  | .tm u => 3 * u.nodes - 1
def outs (l : List Pc) : List Nat := l.reverse.flatMap Pc.out
def wts (l : List Pc) : Nat := (l.map Pc.wt).sum
theorem outs_snoc (l : List Pc) (p : Pc) : outs (l ++ [p]) = p.out ++ outs l := by
  simp [outs]
theorem wts_snoc (l : List Pc) (p : Pc) : wts (l ++ [p]) = wts l + p.wt := by
  simp [wts]
theorem wts_append (l m : List Pc) : wts (l ++ m) = wts l + wts m := by
  simp [wts]
theorem outs_append (l m : List Pc) : outs (l ++ m) = outs m ++ outs l := by
  simp [outs]
theorem len_le_wts : ∀ l : List Pc, l.length ≤ wts l
  | [] => by simp [wts]
  | p :: r => by
    have := len_le_wts r
    have h : 1 ≤ p.wt := by
      cases p with
      | sg x => simp [Pc.wt]
      | tm u => have := u.nodes_pos; simp only [Pc.wt]; omega
    simp only [wts, List.map_cons, List.sum_cons, List.length_cons] at *
    omega
/-- what the parts but the first come to on a pile -/
def commas (r : List Tm) : List Pc := r.reverse.flatMap fun p => [Pc.tm p, Pc.sg ","]
def pushed (p : Tm) (r : List Tm) : List Pc := [Pc.sg ")"] ++ commas r ++ [Pc.tm p]
theorem comma_cps : (Str.ofString ",").cps.toList = [44] := by decide +kernel
theorem close_cps : (Str.ofString ")").cps.toList = [41] := by decide +kernel
theorem open_cps : (Str.ofString "(").cps.toList = [40] := by decide +kernel
theorem quest_cps : (Str.ofString "?").cps.toList = [63] := by decide +kernel
theorem outs_commas (r : List Tm) : outs (commas r) = tailL r := by
  induction r with
  | nil => rfl
  | cons p r ih =>
    have e : commas (p :: r) = commas r ++ [Pc.tm p] ++ [Pc.sg ","] := by simp [commas]
    rw [e, outs_snoc, outs_snoc, ih]
    simp only [Pc.out, comma_cps, tailL, List.cons_append, List.nil_append]
theorem outs_pushed (p : Tm) (r : List Tm) : outs (pushed p r) = lineL (p :: r) ++ [41] := by
  unfold pushed
  rw [outs_append, outs_append, outs_commas]
  simp [outs, Pc.out, close_cps, lineL]
theorem wts_commas (r : List Tm) : wts (commas r) = 3 * nodesL r := by
  induction r with
  | nil => rfl
  | cons p r ih =>
    have e : commas (p :: r) = commas r ++ [Pc.tm p] ++ [Pc.sg ","] := by simp [commas]
    have := p.nodes_pos
    rw [e, wts_snoc, wts_snoc, ih]
    simp only [Pc.wt, nodesL]; omega
theorem wts_pushed (p : Tm) (r : List Tm) : wts (pushed p r) = 3 * nodesL (p :: r) := by
  unfold pushed
  rw [wts_snoc, wts_append, wts_commas]
  have := p.nodes_pos
  simp [wts, Pc.wt, nodesL]; omega

/-! ### things begun: the word, the parts that are read, the parts to come; the innermost first -/
structure Fm where
  w : Str
  d : List Tm
  p : List Tm
/-- what may follow a term -/
def Stop (k : List Nat) : Prop := k = [] ∨ ∃ r, k = 44 :: r ∨ k = 41 :: r
theorem takeWhile_stop {p : Nat → Bool} {a k : List Nat} (ha : ∀ c ∈ a, p c = true) (hk : k = [] ∨ ∃ c r, k = c :: r ∧ p c = false) : (a ++ k).takeWhile p = a := by
  induction a with
  | nil =>
    rcases hk with rfl | ⟨c, r, rfl, h⟩
    · rfl
    · simp [h]
  | cons x r ih => 
    have := ha x (by simp)
    rw [List.cons_append, List.takeWhile_cons, this]
    simp only [if_true]
    rw [ih fun c hc => ha c (by simp [hc])]
end BF
set_option Elab.async false
set_option linter.all false
set_option maxRecDepth 100000
namespace BF
open PySem PySem.Spec PyProof.Rows L2

/-! ### plain data on the heap -/
mutual
def DatAt (H : Hp) : V → Dt → Prop
  | v, .int i => v = .int i
  | v, .str x => v = .str x
  | v, .tup l => ∃ a vs, v = .ref a ∧ H a = some (.tup vs) ∧ DatsAt H vs l
  | v, .lst l => ∃ a vs, v = .ref a ∧ H a = some (.lst vs) ∧ DatsAt H vs l
def DatsAt (H : Hp) : List V → List Dt → Prop
  | vs, [] => vs = []
  | vs, d :: r => ∃ v us, vs = v :: us ∧ DatAt H v d ∧ DatsAt H us r
end
theorem Dt.ind {P : Dt → Prop} (h1 : ∀ n, P (.int n)) (h2 : ∀ w, P (.str w)) (h3 : ∀ l, (∀ p ∈ l, P p) → P (.tup l)) (h4 : ∀ l, (∀ p ∈ l, P p) → P (.lst l)) : ∀ t, P t
  | .int n => h1 n
  | .str w => h2 w
  | .tup l => h3 l fun p hp => Dt.ind h1 h2 h3 h4 p
  | .lst l => h4 l fun p hp => Dt.ind h1 h2 h3 h4 p
termination_by t => sizeOf t
decreasing_by
  · have := List.sizeOf_lt_of_mem hp
    simp only [Dt.tup.sizeOf_spec]; omega
  · have := List.sizeOf_lt_of_mem hp
    simp only [Dt.lst.sizeOf_spec]; omega
theorem DatsAt.length {H : Hp} : ∀ {vs : List V} {l : List Dt}, DatsAt H vs l → vs.length = l.length
  | vs, [], h => by simp only [DatsAt] at h; subst h; rfl
  | vs, d :: r, h => by
    simp only [DatsAt] at h
    obtain ⟨v, us, rfl, _, h2⟩ := h
    simp only [List.length_cons, h2.length]
theorem DatsAt.get {H : Hp} : ∀ {vs : List V} {l : List Dt}, DatsAt H vs l → ∀ (i : Nat) (h1 : i < vs.length) (h2 : i < l.length), DatAt H vs[i] l[i]
  | vs, [], h, i, h1, h2 => absurd h2 (Nat.not_lt_zero _)
  | vs, d :: r, h, i, h1, h2 => by
    simp only [DatsAt] at h
    obtain ⟨v, us, rfl, h3, h4⟩ := h
    cases i with
    | zero => exact h3
    | succ i => exact h4.get i _ _
theorem DatsAt.of_get {H : Hp} : ∀ {vs : List V} {l : List Dt}, vs.length = l.length → (∀ (i : Nat) (h1 : i < vs.length) (h2 : i < l.length), DatAt H vs[i] l[i]) → DatsAt H vs l
  | [], [], _, _ => by simp only [DatsAt]
  | v :: us, d :: r, hl, h => by
    simp only [DatsAt]
    refine ⟨v, us, rfl, h 0 (by simp) (by simp), DatsAt.of_get (by simpa using hl) fun i h1 h2 => h (i + 1) (by simpa using h1) (by simpa using h2)⟩
  | [], _ :: _, hl, _ => by simp at hl
  | _ :: _, [], hl, _ => by simp at hl
theorem DatsAt.append {H : Hp} : ∀ {vs us : List V} {l m : List Dt}, DatsAt H vs l → DatsAt H us m → DatsAt H (vs ++ us) (l ++ m)
  | vs, us, [], m, h, h' => by simp only [DatsAt] at h; subst h; exact h'
  | vs, us, d :: r, m, h, h' => by
    simp only [DatsAt] at h
    obtain ⟨v, ws, rfl, h1, h2⟩ := h
    simp only [List.cons_append, DatsAt]
    exact ⟨v, ws ++ us, rfl, h1, h2.append h'⟩
/-- tuples stay -/
def TSame (H H' : Hp) : Prop := ∀ b xs, H b = some (.tup xs) → H' b = some (.tup xs)
theorem TSame.refl (H : Hp) : TSame H H := fun _ _ h => h
theorem TSame.trans {H H1 H2 : Hp} (a : TSame H H1) (b : TSame H1 H2) : TSame H H2 := fun c o h => b c o (a c o h)
theorem TSame.of {H H' : Hp} (e : Same H H') : TSame H H' := fun b xs h => e b _ h
theorem same_new {H : Hp} {p : Addr} (h : H p = none) (o : HO) : Same H (upd H p o) := fun b u q => by rw [upd_ne (ne_of_none q h)]; exact q
theorem TSame.lst {H : Hp} {a : Addr} {xs : List V} {o : HO} (h : H a = some (.lst xs)) : TSame H (upd H a o) := fun b ys q => by
  rw [upd_ne (ne_of q h (by intro z; cases z))]; exact q
theorem TSame.new {H : Hp} {a : Addr} {o : HO} (h : H a = none) : TSame H (upd H a o) := fun b ys q => by
  rw [upd_ne (ne_of_none q h)]; exact q
/-! no list within -/
mutual
def Dt.noL : Dt → Prop
  | .int _ => True
  | .str _ => True
  | .tup l => noLs l
  | .lst _ => False
def noLs : List Dt → Prop
  | [] => True
  | d :: r => d.noL ∧ noLs r
end
theorem noLs_iff (l : List Dt) : noLs l ↔ ∀ d ∈ l, d.noL := by
  induction l with
  | nil => simp [noLs]
  | cons d r ih => simp [noLs, ih]
theorem Tm.noL (t : Tm) : t.dt.noL := by
  induction t using Tm.ind with
  | h1 n => simp [Tm.dt, Dt.noL, noLs]
  | h2 n => simp [Tm.dt, Dt.noL, noLs]
  | h3 n => simp [Tm.dt, Dt.noL, noLs]
  | h4 w ps ih =>
    simp only [Tm.dt, Dt.noL, noLs, true_and, and_true]
    rw [noLs_iff, dtL_map]
    intro d hd
    obtain ⟨p, hp, rfl⟩ := List.mem_map.mp hd
    exact ih p hp
theorem DatAt.mono {H H' : Hp} (k : TSame H H') : ∀ (d : Dt) (v : V), d.noL → DatAt H v d → DatAt H' v d := by
  intro d
  induction d using Dt.ind with
  | h1 n => intro v _ h; simpa only [DatAt] using h
  | h2 n => intro v _ h; simpa only [DatAt] using h
  | h3 l ih =>
    intro v hn h
    simp only [DatAt] at h ⊢
    simp only [Dt.noL] at hn
    rw [noLs_iff] at hn
    obtain ⟨a, vs, rfl, h1, h2⟩ := h
    exact ⟨a, vs, rfl, k _ _ h1, .of_get h2.length fun i g1 g2 => ih _ (List.getElem_mem _) _ (hn _ (List.getElem_mem _)) (h2.get i g1 g2)⟩
  | h4 l ih => intro v hn h; exact absurd hn (by simp [Dt.noL])
/-! ### terms on the heap -/
abbrev TermAt (H : Hp) (v : V) (t : Tm) : Prop := DatAt H v t.dt
abbrev TermsAt (H : Hp) (vs : List V) (ts : List Tm) : Prop := DatsAt H vs (dtL ts)
theorem TermAt.mono {H H' : Hp} {v : V} {t : Tm} (k : TSame H H') (h : TermAt H v t) : TermAt H' v t := DatAt.mono k _ _ t.noL h
theorem TermsAt.mono {H H' : Hp} {vs : List V} {ts : List Tm} (k : TSame H H') (h : TermsAt H vs ts) : TermsAt H' vs ts :=
  .of_get h.length fun i g1 g2 => DatAt.mono k _ _ (by
    have : (dtL ts)[i] ∈ ts.map Tm.dt := by rw [← dtL_map]; exact List.getElem_mem _
    obtain ⟨p, _, e⟩ := List.mem_map.mp this
    rw [← e]; exact p.noL) (h.get i g1 g2)
theorem termAt_num {H : Hp} {v : V} {n : Int} : TermAt H v (.num n) ↔ ∃ a, v = .ref a ∧ H a = some (.tup [.str "number", .int n]) := by
  simp only [TermAt, Tm.dt, DatAt, DatsAt]
  constructor
  · rintro ⟨a, vs, rfl, h, _, _, rfl, rfl, _, _, rfl, rfl, rfl⟩; exact ⟨a, rfl, h⟩
  · rintro ⟨a, rfl, h⟩; exact ⟨a, _, rfl, h, _, _, rfl, rfl, _, _, rfl, rfl, rfl⟩
theorem termAt_name {H : Hp} {v : V} {w : Str} : TermAt H v (.name w) ↔ ∃ a, v = .ref a ∧ H a = some (.tup [.str "name", .str w]) := by
  simp only [TermAt, Tm.dt, DatAt, DatsAt]
  constructor
  · rintro ⟨a, vs, rfl, h, _, _, rfl, rfl, _, _, rfl, rfl, rfl⟩; exact ⟨a, rfl, h⟩
  · rintro ⟨a, rfl, h⟩; exact ⟨a, _, rfl, h, _, _, rfl, rfl, _, _, rfl, rfl, rfl⟩
theorem termAt_blank {H : Hp} {v : V} {w : Str} : TermAt H v (.blank w) ↔ ∃ a, v = .ref a ∧ H a = some (.tup [.str "blank", .str w]) := by
  simp only [TermAt, Tm.dt, DatAt, DatsAt]
  constructor
  · rintro ⟨a, vs, rfl, h, _, _, rfl, rfl, _, _, rfl, rfl, rfl⟩; exact ⟨a, rfl, h⟩
  · rintro ⟨a, rfl, h⟩; exact ⟨a, _, rfl, h, _, _, rfl, rfl, _, _, rfl, rfl, rfl⟩
theorem termAt_thing {H : Hp} {v : V} {w : Str} {ps : List Tm} : TermAt H v (.thing w ps) ↔
    ∃ a b vs, v = .ref a ∧ H a = some (.tup [.str "thing", .str w, .ref b]) ∧ H b = some (.tup vs) ∧ TermsAt H vs ps := by
  simp only [TermAt, TermsAt, Tm.dt, DatAt, DatsAt]
  constructor
  · rintro ⟨a, vs, rfl, h, _, _, rfl, rfl, _, _, rfl, rfl, _, _, rfl, ⟨b, us, rfl, h2, h3⟩, rfl⟩; exact ⟨a, b, us, rfl, h, h2, h3⟩
  · rintro ⟨a, b, us, rfl, h, h2, h3⟩; exact ⟨a, _, rfl, h, _, _, rfl, rfl, _, _, rfl, rfl, _, _, rfl, ⟨b, us, rfl, h2, h3⟩, rfl⟩
theorem TermsAt.len {H : Hp} {vs : List V} {ts : List Tm} (h : TermsAt H vs ts) : vs.length = ts.length := by
  rw [h.length, dtL_map, List.length_map]
theorem TermsAt.at {H : Hp} {vs : List V} {ts : List Tm} (h : TermsAt H vs ts) (i : Nat) (h1 : i < vs.length) (h2 : i < ts.length) : TermAt H vs[i] ts[i] := by
  have q := h.get i h1 (by rw [dtL_map, List.length_map]; exact h2)
  simpa only [dtL_map, List.getElem_map] using q
theorem TermsAt.nil {H : Hp} : TermsAt H [] [] := by simp only [TermsAt, dtL, DatsAt]
theorem TermsAt.cons {H : Hp} {v : V} {t : Tm} {vs : List V} {ts : List Tm} (h : TermAt H v t) (h' : TermsAt H vs ts) : TermsAt H (v :: vs) (t :: ts) := by
  simp only [TermsAt, dtL, DatsAt]; exact ⟨v, vs, rfl, h, h'⟩
theorem TermsAt.app {H : Hp} {vs us : List V} {ts qs : List Tm} (h : TermsAt H vs ts) (h' : TermsAt H us qs) : TermsAt H (vs ++ us) (ts ++ qs) := by
  have := DatsAt.append h h'
  simpa only [TermsAt, dtL_map, List.map_append] using this
theorem TermsAt.of_at {H : Hp} {vs : List V} {ts : List Tm} (hl : vs.length = ts.length) (h : ∀ (i : Nat) (h1 : i < vs.length) (h2 : i < ts.length), TermAt H vs[i] ts[i]) : TermsAt H vs ts :=
  .of_get (by rw [dtL_map, List.length_map]; exact hl) fun i h1 h2 => by
    have h2' : i < ts.length := by rwa [dtL_map, List.length_map] at h2
    have := h i h1 h2'
    simpa only [dtL_map, List.getElem_map] using this
theorem TermsAt.dropN {H : Hp} {vs : List V} {ts : List Tm} (h : TermsAt H vs ts) (n : Nat) : TermsAt H (vs.drop n) (ts.drop n) :=
  .of_at (by rw [List.length_drop, List.length_drop, h.len]) fun i h1 h2 => by
    rw [List.getElem_drop, List.getElem_drop]
    exact h.at _ _ _
theorem TermsAt.takeN {H : Hp} {vs : List V} {ts : List Tm} (h : TermsAt H vs ts) (n : Nat) : TermsAt H (vs.take n) (ts.take n) :=
  .of_at (by rw [List.length_take, List.length_take, h.len]) fun i h1 h2 => by
    rw [List.getElem_take, List.getElem_take]
    exact h.at _ _ _
/-! ### equality of data -/
section
variable {P : Program} {w : World} {H : Hp} {s : Shared}
theorem tupOk (ok : HOk P w H s.heap) {a : Addr} {vs : List V} (h : H a = some (.tup vs)) : ∃ its : List Value, Vals vs its ∧ IsTup s.heap a its.toArray := by
  obtain ⟨_, its, r, q⟩ := (show ObjOk P w H s.heap a (.tup vs) from ok a _ h)
  exact ⟨its, r, q⟩
theorem lstOk (ok : HOk P w H s.heap) {a : Addr} {vs : List V} (h : H a = some (.lst vs)) : ∃ its : List Value, Vals vs its ∧ s.heap.IsList a its.toArray := by
  obtain ⟨_, its, n, r, q⟩ := (show ObjOk P w H s.heap a (.lst vs) from ok a _ h)
  exact ⟨its, r, ⟨_, q, rfl, n, rfl⟩⟩
end
end BF
set_option Elab.async false
set_option linter.all false
set_option maxRecDepth 100000
namespace BF
open PySem PySem.Spec PyProof.Rows L2

section
variable {X : Cx}
/-- xs != [] -/
theorem op_neNil (hu : X.A.units < cLine) : OpR X (compareOp .NotEq) (fun x y H Q => ∃ a b xs, x = .ref a ∧ y = .ref b ∧ H a = some (.lst xs) ∧ H b = some (.lst []) ∧ Q (.bl (!xs.isEmpty)) H) := by
  intro pins s σ H x y v u Q I rx ry h
  obtain ⟨a, b, xs, rfl, rfl, h1, h2, q⟩ := h
  cases rx; cases ry
  obtain ⟨its, ri, p1⟩ := lstOk I.hok h1
  obtain ⟨its', ri', p2⟩ := lstOk I.hok h2
  cases ri'
  cases ri with
  | nil => exact SeqAt.RcNeAt.lists (e := fun _ => true) p1 p2 rfl hu (fun j g1 _ => absurd g1 (by simp)) _ _ _ _ ⟨.bl _, H, I, rfl, q⟩
  | cons r rr => exact SeqAt.RcNeAt.lists_lengths p1 p2 (by simp) hu _ _ _ _ ⟨.bl _, H, I, rfl, q⟩
/-- t == () -/
theorem op_eqNilT (hu : X.A.units < cLine) : OpR X (compareOp .Eq) (fun x y H Q => ∃ a b xs, x = .ref a ∧ y = .ref b ∧ H a = some (.tup xs) ∧ H b = some (.tup []) ∧ Q (.bl xs.isEmpty) H) := by
  intro pins s σ H x y v u Q I rx ry h
  obtain ⟨a, b, xs, rfl, rfl, h1, h2, q⟩ := h
  cases rx; cases ry
  obtain ⟨its, ri, p1⟩ := tupOk I.hok h1
  obtain ⟨its', ri', p2⟩ := tupOk I.hok h2
  cases ri'
  refine SeqAt.eq_tupleAt (e := fun _ => true) p1 p2 hu (fun j g1 g2 => absurd g2 (by simp)) ⟨.bl _, H, I, rfl, ?_⟩
  cases ri with
  | nil => exact q
  | cons r rr => exact q
theorem op_le_str : OpR X (compareOp .LtE) (fun x y H Q => ∃ i j, x = .str i ∧ y = .str j ∧ Q (.bl (!decide (j.cps.toList < i.cps.toList))) H) := by
  intro pins s σ H x y v u Q I rx ry h
  obtain ⟨i, j, rfl, rfl, q⟩ := h
  obtain ⟨t, rfl⟩ := rx
  obtain ⟨t', rfl⟩ := ry
  exact PySem.P.le_str (fin_bl I q rfl)

/-! ### isinstance with a built-in class -/
inductive Kit : String → String → Bool → Prop
  | ii : Kit "int" "int" true
  | ib : Kit "int" "bool" false
  | is : Kit "int" "str" false
  | it : Kit "int" "tuple" false
  | il : Kit "int" "list" false
  | bb : Kit "bool" "bool" true
  | bi : Kit "bool" "int" true
  | bs : Kit "bool" "str" false
  | ss : Kit "str" "str" true
  | si : Kit "str" "int" false
  | sb : Kit "str" "bool" false
  | st : Kit "str" "tuple" false
  | sl : Kit "str" "list" false
  | tt : Kit "tuple" "tuple" true
  | ts : Kit "tuple" "str" false
  | ti : Kit "tuple" "int" false
  | tl : Kit "tuple" "list" false
  | ll : Kit "list" "list" true
  | lt : Kit "list" "tuple" false
  | ls : Kit "list" "str" false
theorem Kit.ok {K : PySem.W.Frag} {t c : String} {b : Bool} (k : Kit t c b) : PySem.W.kitOne K (.type t) (.type c) = some b := by
  cases k <;> kernel_rfl
theorem call_isi : CallR X (.builtin "isinstance") (fun xs H Q => ∃ x c t b, xs = [x, .ty c] ∧ TyOf X.K H x (.type t) ∧ Kit t c b ∧ Q (.bl b) H) := by
  intro pins s σ H xs us Q I r h
  obtain ⟨x, c, t, b, rfl, ty, k, q⟩ := h
  obtain ⟨u, u', rfl, ru, rc⟩ := vals2 r
  cases (show u' = Value.type c from rc)
  exact isinst_ok I ru ty k.ok fun tk => ⟨.bl b, H, I.tok tk, rfl, q⟩

/-! ### a slice of a text -/
theorem idx_clip (i j n : Nat) (h : n ≤ j) : Builtin.Str.strSliceIndices (some (i : Int)) (some (j : Int)) 1 n = Builtin.Str.strSliceIndices (some (i : Int)) (some (n : Int)) 1 n := by
  have h2 : ¬ ((j : Int) < 0) := by omega
  have h3 : ¬ ((n : Int) < 0) := by omega
  have e2 : max (0 : Int) (min (j : Int) (n : Int)) = n := by omega
  have e3 : max (0 : Int) (min (n : Int) (n : Int)) = n := by omega
  simp only [Builtin.Str.strSliceIndices, h2, h3, if_false, e2, e3, show ((1 : Int) > 0) = True from by simp, if_true]
theorem slice_cps (z : Str) (i j : Nat) (hi : i ≤ z.length) (hij : i ≤ j) : (Txt.slice z (some (i : Int)) (some (j : Int))).cps.toList = (z.cps.toList.drop i).take (j - i) := by
  have hz : z.cps.toList.length = z.length := by simp [Str.length]
  have key : ∀ b : Nat, i ≤ b → b ≤ z.length → (if ((1 : Int) == 1 && (Builtin.Str.strSliceIndices (some (i : Int)) (some (b : Int)) 1 z.length).length == z.length) = true then z else ⟨((Builtin.Str.strSliceIndices (some (i : Int)) (some (b : Int)) 1 z.length).filterMap (z.cps[·]?)).toArray⟩ : Str).cps.toList = (z.cps.toList.drop i).take (b - i) := by
    intro b h1 h2
    rw [PySem.StrLaws.sliced_plain z h1 h2, PySem.StrLaws.strSliceIndices_plain h1 h2]
    split
    · rename_i c
      simp only [beq_self_eq_true, Bool.true_and, List.length_map, List.length_range, beq_iff_eq] at c
      have e1 : i = 0 := by omega
      subst e1
      rw [List.drop_zero, List.take_of_length_le (by omega)]
    · rfl
  unfold Txt.slice
  by_cases h : j ≤ z.length
  · exact key j hij h
  · rw [idx_clip i j z.length (by omega), key z.length hi (Nat.le_refl _)]
    rw [List.take_of_length_le (by rw [List.length_drop]; omega), List.take_of_length_le (by rw [List.length_drop]; omega)]
def cutS (z : Str) (i j : Nat) : Str := ⟨((z.cps.toList.drop i).take (j - i)).toArray⟩
theorem sl_str : SlR X (fun x lo hi H Q => ∃ (z : Str) (i j : Nat), x = .str z ∧ lo = some (i : Int) ∧ hi = some (j : Int) ∧ i ≤ z.length ∧ i ≤ j ∧ z.length ≤ sizeLine ∧ Q (.str (cutS z i j)) H) := by
  intro pins s σ H x v vl vu lo hi sl Q I rx hs pl pu h
  obtain ⟨z, i, j, rfl, rfl, rfl, h1, h2, hz, q⟩ := h
  obtain ⟨t, rfl⟩ := rx
  cases pl with
  | int _ tl =>
    cases pu with
    | int _ tu =>
      refine ⟨"str", _, F.slot_str_getitem.lookup, typeIs_str _ _ _, wpAny_getItem_str_slice (l := some ((i : Int), tl)) (u := some ((j : Int), tu)) (st := none) hs rfl (post_val_or_str ⟨Nat.le_trans (Txt.slice_le z _ _) hz, fun t' k => ?_⟩)⟩
      have e : Txt.slice z (some (i : Int)) (some (j : Int)) = cutS z i j := by
        have := slice_cps z i j h1 h2
        unfold cutS
        rw [← this]
      exact ⟨.str (cutS z i j), H, I.tok k, ⟨t', by rw [← e]; rfl⟩, q⟩
/-! ### join, int(text) -/
theorem strs_are : ∀ {ys : List Str} {us : List Value}, Vals (ys.map V.str) us → StrsAre us ys
  | [], us, h => by cases h; first | exact .nil | constructor
  | y :: ys, us, h => by
    cases h with
    | cons r rr =>
      obtain ⟨t, rfl⟩ := r
      exact .cons y t (strs_are rr)
theorem mt_join : MtR X "str.join" (fun x vs H Q => ∃ (p : Addr) (ys : List Str), x = .str "" ∧ vs = [.ref p] ∧ H p = some (.lst (ys.map V.str)) ∧ (ys.map (·.length)).sum ≤ 16777216 ∧ Q (.str (Txt.join "" ys)) H) := by
  intro pins s σ H x vs v us Q I rx rv h
  obtain ⟨p, ys, rfl, rfl, h1, hz, q⟩ := h
  obtain ⟨t, rfl⟩ := rx
  obtain ⟨u, rfl, ru⟩ := vals1 rv
  cases ru
  obtain ⟨its, ri, pl⟩ := lstOk I.hok h1
  refine join_list pl (by simpa using strs_are ri) ?_ fun t' k => ⟨.str _, H, I.tok k, ⟨t', rfl⟩, q⟩
  have e : (Str.ofString "").length = 0 := by decide +kernel
  rw [e]; omega
theorem call_int_str : CallR X (.type "int") (fun xs H Q => ∃ z n, xs = [.str z] ∧ PySem.intText? z = some n ∧ z.length ≤ 640 ∧ Q (.int n) H) := by
  intro pins s σ H xs us Q I r h
  obtain ⟨z, n, rfl, h1, h2, q⟩ := h
  obtain ⟨u, rfl, t, rfl⟩ := vals1 r
  exact PySem.W.KIN.call_text h1 h2 ⟨.int n, H, I.tok _, ⟨_, rfl⟩, q⟩
end
/-! ### a def of the text that is called by its name -/
def Cal (P : Program) (w : World) (K : PySem.W.Frag) (mg : Str → Option Value) (base : Heap) (k : Nat) (x : Str) (ps : List Str) (sp : Sp) : Prop :=
  ∃ (f : Addr) (fd : FuncData), FnOk P w K mg base CX0 k f fd ps sp ∧ Binds K fd ps [] ∧ PySem.W.keepIn K (.ref f) = true ∧ mg x = some (.ref f)
section
variable {X : Cx} {k : Nat} {x : Str} {ps : List Str} {sp : Sp} {p pos : Pos} {e : Expr} {es : List Expr} {t : TA}
theorem pe_cal (C : Cal X.prog X.w X.K X.mg X.base k x ps sp) (hr : Room k X.A) (ha : PA X (e :: es) t) (hg : Gl X x := by rfl) (hdb : (x == ("__debug__" : Str)) = false := by decide)
    (he : starEach (e :: es) X.env = (false, eval e X.env) :: starEach es X.env := by rfl) (hpl : (backTo pos (starEach es X.env)).any (·.1) = false := by rfl) : PE X (.Call (.Name x p) (e :: es) [] pos) (tCall sp [] E0 t) := by
  obtain ⟨f, fd, F, b, kp, m⟩ := C
  exact pe_call F hr hg m kp b .nil pass0 ha hdb he hpl
end
theorem bt_len : bootBuiltins "len" = some (.builtin "len") := by decide +kernel
theorem bt_abs : bootBuiltins "abs" = some (.builtin "abs") := by decide +kernel
theorem bt_isinstance : bootBuiltins "isinstance" = some (.builtin "isinstance") := by decide +kernel
theorem bt_int : bootBuiltins "int" = some (.type "int") := by decide +kernel
theorem bt_bool : bootBuiltins "bool" = some (.type "bool") := by decide +kernel
theorem bt_str : bootBuiltins "str" = some (.type "str") := by decide +kernel
theorem bt_tuple : bootBuiltins "tuple" = some (.type "tuple") := by decide +kernel
theorem bt_list : bootBuiltins "list" = some (.type "list") := by decide +kernel
theorem bt_reversed : bootBuiltins "reversed" = some (.type "reversed") := by decide +kernel
end BF
namespace BF
open PySem
theorem ten39 : (10 : Int) ^ 39 < 26 ^ 28 := by decide +kernel
/-- between two turns of the word's loop -/
structure WI (l : Int) (x : Str) : Prop where
  lo : -1 ≤ l
  hi : (l + 1) * 26 ^ x.cps.toList.length ≤ 10 ^ 39
  ab : ∀ c ∈ x.cps.toList, 97 ≤ c ∧ c ≤ 122
  ne : l = -1 → 1 ≤ x.cps.toList.length
  ln : x.cps.toList.length ≤ 28
theorem WI.start (i : Int) : WI ((if i < 0 then -i else i) % 10 ^ 39) "" := by
  have e : (Str.ofString "").cps.toList = [] := by decide +kernel
  have h0 : (0 : Int) ≤ (if i < 0 then -i else i) % 10 ^ 39 := Int.emod_nonneg _ (by decide +kernel)
  have h1 : (if i < 0 then -i else i) % 10 ^ 39 < 10 ^ 39 := Int.emod_lt_of_pos _ (by decide +kernel)
  refine ⟨by omega, ?_, ?_, by omega, ?_⟩
  · rw [e, List.length_nil, Int.pow_zero, Int.mul_one]; omega
  · rw [e]; simp
  · rw [e]; simp
theorem pow26_mono {a b : Nat} (h : a ≤ b) : (26 : Int) ^ a ≤ 26 ^ b := by
  obtain ⟨k, rfl⟩ := Nat.exists_eq_add_of_le h
  rw [Int.pow_add]
  have h1 : (1 : Int) ≤ 26 ^ k := by
    induction k with
    | zero => simp
    | succ k ih => rw [Int.pow_succ]; omega
  have h2 : (0 : Int) ≤ 26 ^ a := Int.pow_nonneg (by decide)
  calc (26 : Int) ^ a = 26 ^ a * 1 := by rw [Int.mul_one]
    _ ≤ 26 ^ a * 26 ^ k := Int.mul_le_mul_of_nonneg_left h1 h2
theorem WI.short {l : Int} {x : Str} (h : WI l x) (c : 0 ≤ l) : x.cps.toList.length ≤ 27 := by
  by_cases hl : x.cps.toList.length ≤ 27
  · exact hl
  · exfalso
    have h1 := pow26_mono (a := 28) (b := x.cps.toList.length) (by omega)
    have h2 := h.hi
    have h3 : (0 : Int) ≤ 26 ^ x.cps.toList.length := Int.pow_nonneg (by decide)
    have h4 : (1 : Int) * 26 ^ x.cps.toList.length ≤ (l + 1) * 26 ^ x.cps.toList.length := Int.mul_le_mul_of_nonneg_right (by omega) h3
    have h5 := ten39
    rw [Int.one_mul] at h4
    exact absurd (Int.lt_of_le_of_lt (Int.le_trans h1 (Int.le_trans h4 h2)) h5) (Int.lt_irrefl _)
def alpha : Str := "abcdefghijklmnopqrstuvwxyz"
theorem alpha_at (k : Nat) (h : k < 26) : alpha.cps.toList[k]? = some (97 + k) := by
  have : ∀ k : Fin 26, alpha.cps.toList[(k : Nat)]? = some (97 + (k : Nat)) := by decide +kernel
  exact this ⟨k, h⟩
theorem cps_append (a b : Str) : (a ++ b).cps.toList = a.cps.toList ++ b.cps.toList := by
  show (a.cps ++ b.cps).toList = _
  rw [Array.toList_append]
theorem len_cps (a : Str) : a.length = a.cps.toList.length := by simp [Str.length]
theorem WI.turn {l : Int} {x : Str} {c : Nat} (h : WI l x) (h0 : 0 ≤ l) (hc : 97 ≤ c ∧ c ≤ 122) : WI (l / 26 - 1) ((⟨#[c]⟩ : Str) ++ x) := by
  have e : ((⟨#[c]⟩ : Str) ++ x).cps.toList = c :: x.cps.toList := by rw [cps_append]; rfl
  have hs := h.short h0
  have hp : (0 : Int) ≤ 26 ^ x.cps.toList.length := Int.pow_nonneg (by decide)
  have hd : 0 ≤ l / 26 := Int.ediv_nonneg h0 (by decide)
  refine ⟨by omega, ?_, ?_, fun _ => ?_, ?_⟩
  · rw [e, List.length_cons, Int.pow_succ]
    have e1 : (l / 26 - 1 + 1) * (26 ^ x.cps.toList.length * 26) = (l / 26 * 26) * 26 ^ x.cps.toList.length := by
      rw [show l / 26 - 1 + 1 = l / 26 from by omega, Int.mul_comm (26 ^ _) 26, ← Int.mul_assoc]
    rw [e1]
    exact Int.le_trans (Int.mul_le_mul_of_nonneg_right (by omega) hp) h.hi
  · rw [e]
    intro d hd
    rcases List.mem_cons.mp hd with rfl | hd
    · exact hc
    · exact h.ab d hd
  · rw [e]; simp
  · rw [e, List.length_cons]; omega
theorem WI.wd {l : Int} {x : Str} (h : WI l x) (c : ¬ 0 ≤ l) : Wd x ∧ x.cps.toList.length ≤ 30 :=
  have := h.ln
  ⟨⟨h.ne (by have := h.lo; omega), by omega, h.ab⟩, by omega⟩
theorem Wd.lits : Wd "oak" ∧ Wd "oik" ∧ Wd "f" ∧ Wd "pair" ∧ Wd "row" ∧ Wd "end" ∧ Wd "x" ∧ Wd "y" ∧ Wd "z" := by
  unfold Wd; decide +kernel
theorem Wd.zz {x : Str} (h : Wd x) (hl : x.cps.toList.length ≤ 30) : Wd ((("zz" : Str)) ++ x) := by
  have e : (Str.ofString "zz").cps.toList = [122, 122] := by decide +kernel
  unfold Wd
  rw [cps_append, e]
  refine ⟨by simp, by simp only [List.length_append, List.length_cons, List.length_nil]; omega, ?_⟩
  intro c hc
  simp only [List.cons_append, List.nil_append, List.mem_cons] at hc
  rcases hc with rfl | rfl | hc
  · decide
  · decide
  · exact h.2.2 c hc
end BF
set_option Elab.async false
set_option linter.all false
set_option maxRecDepth 100000
namespace BF
open PySem PySem.Spec PyProof.Rows L2

theorem ite_f {b : Bool} {A B : Prop} (h : b = false) (hB : B) : if b = true then A else B := by rw [h]; exact iteF hB
theorem ite_t {b : Bool} {A B : Prop} (h : b = true) (hA : A) : if b = true then A else B := by rw [h]; exact iteT hA
theorem TermsAt.snoc {H : Hp} {us : List V} {u : V} {ts : List Tm} {t : Tm} (h : TermsAt H (us ++ [u]) (ts ++ [t])) : TermsAt H us ts ∧ TermAt H u t := by
  have hl := h.len
  simp only [List.length_append, List.length_cons, List.length_nil] at hl
  have hl' : us.length = ts.length := by omega
  refine ⟨.of_at hl' fun i h1 h2 => ?_, ?_⟩
  · have := h.at i (by simp; omega) (by simp; omega)
    simpa only [List.getElem_append_left h1, List.getElem_append_left h2] using this
  · have := h.at us.length (by simp) (by simp; omega)
    simpa [hl'] using this
/-! ### for over a text -/
def Its (z : Str) : It := ⟨fun i _ => i < z.cps.size, fun i H x H' => H' = H ∧ ∃ c, z.cps.toList[i]? = some c ∧ x = .str ⟨#[c]⟩, fun i _ => i = z.cps.size⟩
theorem turn_str {P : Program} {w : World} {K : PySem.W.Frag} {tg : Expr} (it : Addr) (z : Str) (t : Tok) (nm : String)
    (hn : ["enumerate", "zip", "dict_itemiterator", "dict_reverseitemiterator", "odict_iterator", "itertools.zip_longest", "itertools.pairwise"].contains nm = false)
    (W : ∀ A' : Around, A'.handled = none → Walks P w A' it [it] [it] z.cps.size (SignAt z) (fun i h => h.IsStrIter it nm z t i))
    (hself : ∀ (A : Around) (i : Nat) (s : Shared) (Q : Value → Shared → Prop) (E : Value → Shared → Prop), s.heap.IsStrIter it nm z t i → Q (.ref it) s → wpAny (model P w) A (pyIter (.ref it)) Q E s) :
    Turn P w K tg (Its z) [it] it (fun i h => h.IsStrIter it nm z t i) where
  mem := by simp
  obj := fun i h st b hb => by
    have e : b = it := by simpa using hb
    subst e
    obtain ⟨o, e, c, d⟩ := st
    exact ⟨o, e, fun v z => by rw [d] at z; cases z⟩
  keep := fun i h h' st k => let ⟨o, ho, r⟩ := st; ⟨o, k it (by simp) o ho, r⟩
  item := by
    intro X hP hw hK hc i pins s σ H E I hf st hg
    subst hP hw hK
    obtain ⟨f0, f1, f2, f3, f4, f5⟩ := hf it (by simp)
    refine (W _ (I.ok.hd hc)).item i s _ _ hg st fun v h' tk hv st' kk => ?_
    obtain ⟨c, u, hc', rfl⟩ := hv
    have I1 : Inv X pins σ H { s with heap := h', toks := tk } := I.turned (fun b o hb e => kk b o (by simpa using hb) e) f0 f1 f3 f4 f5
    obtain ⟨o, e, c0, d⟩ := id st'
    exact ⟨_, rfl, go_of (s := { s with heap := h', toks := tk }) e c0 d hn ⟨.str ⟨#[c]⟩, H, I1, ⟨u, rfl⟩, ⟨rfl, c, by simpa using hc', rfl⟩, st', fun b hb => (hf b hb).1⟩⟩
  done := by
    intro X hP hw hK hc i pins s σ H E I hf st hg
    subst hP hw hK
    obtain ⟨f0, f1, f2, f3, f4, f5⟩ := hf it (by simp)
    have hi : i = z.cps.size := hg
    subst hi
    exact (W _ (I.ok.hd hc)).done s _ _ st fun h' tk kk => ⟨rfl, I.turned (fun b o hb e => kk b o (by simpa using hb) e) f0 f1 f3 f4 f5⟩
  self := fun A i s Q E st h => hself A i s Q E st h
section
variable {X : Cx} {tg : Expr}
def iStr (tl : TE) : TI := fun σ H R => tl σ H fun x H1 => ∃ z, x = .str z ∧ R (Its z) H1
theorem pi_str {l : Expr} {tl : TE} (hl : PE X l tl) : PI X tg l (iStr tl) := by
  intro pins s σ H R I h
  refine thn (hl pins s σ H _ I h) fun v s1 ⟨x, H1, I1, r1, q1⟩ => ?_
  obtain ⟨z, e, q⟩ := q1
  subst e
  obtain ⟨t, rfl⟩ := r1
  have fp : ∀ b ∈ [s1.heap.objs.size], FpOk X pins H1 b := fun b hb => by
    have e : b = s1.heap.objs.size := by simpa using hb
    subst e
    exact I1.fpOk (Nat.le_refl _) (I1.hok.fresh (Nat.le_refl _))
  cases ha : z.cps.all (· < 128)
  · refine wpAny_pyIter_wide ha ?_
    exact ⟨s1.heap.objs.size, [s1.heap.objs.size], _, _, H1, rfl, I1.kept (t' := s1.toks) fun b o e => Heap.get?_push_of_some _ e, turn_str _ z t "str_iterator" (by decide) (fun A' hA => Walks.strWide hA _ z t) (fun A i s Q E st h => wpAny_pyIter_striter_wide st h), ⟨_, Heap.get?_push_size _ rfl, rfl, rfl⟩, fp, q⟩
  · refine wpAny_pyIter_ascii ha ?_
    exact ⟨s1.heap.objs.size, [s1.heap.objs.size], _, _, H1, rfl, I1.kept (t' := s1.toks) fun b o e => Heap.get?_push_of_some _ e, turn_str _ z t "str_ascii_iterator" (by decide) (fun A' hA => Walks.strAscii hA _ z t) (fun A i s Q E st h => wpAny_pyIter_striter_ascii st h), ⟨_, Heap.get?_push_size _ rfl, rfl, rfl⟩, fp, q⟩
end
theorem for_str {z : Str} {g : TG} {tb : TS} {D : Ends} {σ : L2.St} {H : Hp} (Pv : Nat → L2.St → Hp → Prop) (h0 : Pv 0 σ H)
    (hs : ∀ i c σ H, z.cps.toList[i]? = some c → Pv i σ H → g (.str ⟨#[c]⟩) σ H fun σ2 H2 => tb { D with nx := Pv (i + 1), ct := Pv (i + 1), bk := D.nx } σ2 H2) (hd : ∀ σ H, Pv z.cps.size σ H → D.nx σ H) :
    ∃ W : Nat → Nat → L2.St → Hp → Prop, (∃ m, W 0 m σ H) ∧ ∀ i m σ H, W i m σ H →
      ((Its z).stop i H ∧ D.nx σ H) ∨ ((Its z).go i H ∧ ∃ N : L2.St → Hp → Prop, (∀ σ' H', N σ' H' → ∃ m', m' < m ∧ W (i + 1) m' σ' H') ∧ ∀ x H', (Its z).yld i H x H' → g x σ H' fun σ2 H2 => tb { D with nx := N, ct := N, bk := D.nx } σ2 H2) := by
  refine ⟨fun i m σ H => m = z.cps.size - i ∧ i ≤ z.cps.size ∧ Pv i σ H, ⟨z.cps.size, by simp, Nat.zero_le _, h0⟩, ?_⟩
  rintro i m σ H ⟨rfl, hi, p⟩
  by_cases c : i = z.cps.size
  · subst c
    exact .inl ⟨rfl, hd σ H p⟩
  · have hlt : i < z.cps.size := by omega
    refine .inr ⟨hlt, Pv (i + 1), fun σ' H' n => ⟨z.cps.size - (i + 1), by omega, rfl, by omega, n⟩, ?_⟩
    rintro x H' ⟨rfl, c, hc, rfl⟩
    exact hs i c σ H' hc p
/-! ### for over a downward range -/
def Itd (lo : Int) (n : Nat) : It := ⟨fun i _ => i < n, fun i H x H' => H' = H ∧ x = .int (lo - i), fun i _ => n ≤ i⟩
theorem turn_down {P : Program} {w : World} {K : PySem.W.Frag} {tg : Expr} (it : Addr) (lo : Int) (n : Nat) : Turn P w K tg (Itd lo n) [it] it (fun i h => IsRangeIter h it (lo + (i : Nat) * (-1)) ((n : Int) - (i : Nat)) (-1)) where
  mem := by simp
  obj := fun i h st b hb => by
    have e : b = it := by simpa using hb
    subst e
    exact ⟨_, st, fun v z => by
      have z' : Data.fields _ = Data.cell v := z
      cases z'⟩
  keep := fun i h h' st k => k it (by simp) _ st
  item := by
    intro X hP hw hK hc i pins s σ H E I hf st hg
    subst hP hw hK
    obtain ⟨f0, f1, f2, f3, f4, f5⟩ := hf it (by simp)
    have W := Walks.range (prog := X.prog) (w := X.w) (I.ok.hd hc) it lo (-1) n
    refine W.item i s _ _ hg st fun v h' tk hv st' kk => ?_
    obtain ⟨t, rfl⟩ := hv
    have I1 : Inv X pins σ H { s with heap := h', toks := tk } := I.turned (fun b o hb e => kk b o (by simpa using hb) e) f0 f1 f3 f4 f5
    refine ⟨_, rfl, go_of (s := { s with heap := h', toks := tk }) (n := "range_iterator") st' rfl rfl (by decide) ⟨.int (lo - i), H, I1, ⟨t, ?_⟩, ⟨rfl, rfl⟩, st', fun b hb => (hf b hb).1⟩⟩
    have e : lo + (i : Int) * -1 = lo - i := by omega
    rw [e]
  done := by
    intro X hP hw hK hc i pins s σ H E I hf st hg
    subst hP hw hK
    obtain ⟨f0, f1, f2, f3, f4, f5⟩ := hf it (by simp)
    exact wpAny_pyNext_range_end (I.ok.hd hc) st (by have : n ≤ i := hg; omega) fun h' eb => ⟨rfl, I.turned (t' := s.toks) (fun b o hb e => eb b o hb e) f0 f1 f3 f4 f5⟩
  self := fun _ _ _ _ _ st h => wpAny_pyIter_rangeiter st h
theorem for_down {lo : Int} {n : Nat} {g : TG} {tb : TS} {D : Ends} {σ : L2.St} {H : Hp} (Pv : Nat → L2.St → Hp → Prop) (h0 : Pv 0 σ H)
    (hs : ∀ i σ H, i < n → Pv i σ H → g (.int (lo - i)) σ H fun σ2 H2 => tb { D with nx := Pv (i + 1), ct := Pv (i + 1), bk := D.nx } σ2 H2) (hd : ∀ σ H, Pv n σ H → D.nx σ H) :
    ∃ W : Nat → Nat → L2.St → Hp → Prop, (∃ m, W 0 m σ H) ∧ ∀ i m σ H, W i m σ H →
      ((Itd lo n).stop i H ∧ D.nx σ H) ∨ ((Itd lo n).go i H ∧ ∃ N : L2.St → Hp → Prop, (∀ σ' H', N σ' H' → ∃ m', m' < m ∧ W (i + 1) m' σ' H') ∧ ∀ x H', (Itd lo n).yld i H x H' → g x σ H' fun σ2 H2 => tb { D with nx := N, ct := N, bk := D.nx } σ2 H2) := by
  refine ⟨fun i m σ H => m = n - i ∧ i ≤ n ∧ Pv i σ H, ⟨n, by simp, Nat.zero_le _, h0⟩, ?_⟩
  rintro i m σ H ⟨rfl, hi, p⟩
  by_cases c : i = n
  · subst c
    exact .inl ⟨Nat.le_refl _, hd σ H p⟩
  · have hlt : i < n := by omega
    refine .inr ⟨hlt, Pv (i + 1), fun σ' H' k => ⟨n - (i + 1), by omega, rfl, by omega, k⟩, ?_⟩
    rintro x H' ⟨rfl, rfl⟩
    exact hs i σ H' hlt p
section
variable {X : Cx} {tg : Expr}
theorem size_down {lo hi : Int} : Builtin.Range.rangeSize lo hi (-1) = if hi < lo then lo - hi else 0 := by
  unfold Builtin.Range.rangeSize
  simp
theorem small_down {a b : Int} (ha : -(2 ^ 62) ≤ a) (ha' : a < 2 ^ 62) (hb : -(2 ^ 62) ≤ b) (hb' : b < 2 ^ 62) : Builtin.Range.small a b (-1) = true := by
  unfold Builtin.Range.small
  rw [size_down]
  unfold Builtin.Range.rangeFitsLong
  simp only [Bool.and_eq_true, Bool.or_eq_true, decide_eq_true_eq, beq_iff_eq]
  simp
  split <;> omega
/-- range(i, j, -1) -/
def iRngD (ta : TA) : TI := fun σ H R => ta σ H fun vs H1 => ∃ i j : Int, vs = [.int i, .int j, .int (-1)] ∧ (-(2 ^ 60) ≤ i ∧ i < 2 ^ 60 ∧ -(2 ^ 60) ≤ j ∧ j < 2 ^ 60) ∧ R (Itd i (i - j).toNat) H1
theorem pi_range3 {a b c : Expr} {ta : TA} {p pos : Pos} (hg : Gl X "range") (hm : X.mg "range" = none) (ha : PA X [a, b, c] ta) (hs : starEach [a, b, c] X.env = [(false, eval a X.env), (false, eval b X.env), (false, eval c X.env)] := by rfl) (hs2 : starEach [b, c] X.env = [(false, eval b X.env), (false, eval c X.env)] := by rfl) :
    PI X tg (.Call (.Name "range" p) [a, b, c] [] pos) (iRngD ta) := by
  intro pins s σ H R I h
  refine Call_ (ld_blt I hg hm boot_range (PyProof.Rows.callWith_type1 (thn (ha pos pins s σ H _ I h) fun us s1 ⟨vs, H1, I1, r1, q1⟩ => ?_) (by rw [hs, hs2]) (by rw [hs2]; rfl)))
  obtain ⟨i, j, e, ⟨q1, q2, q3, q4⟩, q⟩ := q1
  subst e
  cases r1 with
  | cons r rr =>
    cases rr with
    | cons r' rr =>
      cases rr with
      | cons r'' rr =>
        cases rr
        obtain ⟨t, rfl⟩ := r
        obtain ⟨t', rfl⟩ := r'
        obtain ⟨t'', rfl⟩ := r''
        refine call_range_3 (by decide) ?_ (Or.inl (PyProof.noPylong_small (by decide)))
        refine wpAny_pyIter_range (IsRange.new ..) (small_down (by omega) (by omega) (by omega) (by omega)) ?_
        have I2 : Inv X pins σ H1 { s1 with heap := s1.heap.push { cls := .type "range", data := .fields #[.int i t, .int j t', .int (-1) t''] }, toks := s1.toks } := I1.kept fun b o e => Heap.get?_push_of_some _ e
        refine ⟨(s1.heap.push { cls := .type "range", data := .fields #[.int i t, .int j t', .int (-1) t''] }).objs.size, [(s1.heap.push { cls := .type "range", data := .fields #[.int i t, .int j t', .int (-1) t''] }).objs.size], _, _, H1, rfl,
          I2.kept (t' := s1.toks) fun b o e => Heap.get?_push_of_some _ e, turn_down _ i (i - j).toNat, ?_, fun b hb => ?_, q⟩
        · have e1 : i + ((0 : Nat) : Int) * (-1) = i := by simp
          have e2 : (((i - j).toNat : Nat) : Int) - ((0 : Nat) : Int) = Builtin.Range.rangeSize i j (-1) := by rw [size_down]; split <;> omega
          show IsRangeIter _ _ (i + ((0 : Nat) : Int) * (-1)) ((((i - j).toNat : Nat) : Int) - ((0 : Nat) : Int)) (-1)
          rw [e1, e2]
          exact Heap.get?_push_size _ rfl
        · have e : b = (s1.heap.push { cls := .type "range", data := .fields #[.int i t, .int j t', .int (-1) t''] }).objs.size := by simpa using hb
          subst e
          exact I2.fpOk (Nat.le_refl _) (I2.hok.fresh (Nat.le_refl _))
end
end BF
set_option Elab.async false
set_option linter.all false
set_option maxRecDepth 100000
namespace BF
open PySem PySem.Spec PyProof.Rows L2
open Sem (wp)

/-! ### reversed(t) of a tuple -/
namespace RV
theorem owner_rev : Manifest.owners.lookup (String.ofList ['d', 'e', 's', 'r', 'e', 'v', 'e', 'r'].reverse) = some Manifest.sig_reversed := by kernel_rfl
theorem slot_next : Slot "reversed" "__next__" "reversed.__next__" :=
  .of (owner := "reversed") (n := "__next__") (by rw [typeLookup_type, builtinLookup_eq_fast]; kernel_rfl) (by decide +kernel) (by decide +kernel) (by decide +kernel)
    (by first | exact .inl (by decide +kernel) | exact .inr (by decide +kernel)) (by rw [isSubtype_type]; kernel_rfl)
theorem entry_next : entryFor table "reversed.__next__" = some Builtin.«reversed.__next__» := entryFor_of_tree (by kernel_rfl)
theorem args_next (a : Value) : argsOk "reversed.__next__" ⟨[a], []⟩ := by
  unfold argsOk; rw [signature?_of (id := "reversed.__next__") (n := ['_', '_', 't', 'x', 'e', 'n', '_', '_']) (o := ['d', 'e', 's', 'r', 'e', 'v', 'e', 'r']) (by kernel_rfl) owner_rev]; kernel_rfl
theorem slot_iter : Slot "reversed" "__iter__" "reversed.__iter__" :=
  .of (owner := "reversed") (n := "__iter__") (by rw [typeLookup_type, builtinLookup_eq_fast]; kernel_rfl) (by decide +kernel) (by decide +kernel) (by decide +kernel)
    (by first | exact .inl (by decide +kernel) | exact .inr (by decide +kernel)) (by rw [isSubtype_type]; kernel_rfl)
theorem args_iter (a : Value) : argsOk "reversed.__iter__" ⟨[a], []⟩ := by
  unfold argsOk; rw [signature?_of (id := "reversed.__iter__") (n := ['_', '_', 'r', 'e', 't', 'i', '_', '_']) (o := ['d', 'e', 's', 'r', 'e', 'v', 'e', 'r']) (by kernel_rfl) owner_rev]; kernel_rfl
theorem entry_iter : entryFor table "reversed.__iter__" = some Builtin.«dict_keyiterator.__iter__» :=
  entryFor_alias (id' := "dict_keyiterator.__iter__") (by kernel_rfl) (by first | rfl | decide +kernel | (unfold String.splitOn; simp +decide [String.splitOnAux])) (by decide +kernel) (by kernel_rfl)
theorem entry_new : entryFor table "reversed.__new__" = some Builtin.«reversed.__new__» := entryFor_of_tree (by kernel_rfl)
theorem tuple_norev : typeLookup (.type "tuple") "__reversed__" = pure none := by rw [typeLookup_type, builtinLookup_eq_fast]; kernel_rfl
theorem sub_tuple_dict : isSubtype (.type "tuple") (.type "dict") = pure false := by rw [isSubtype_type]; kernel_rfl
theorem sub_rev : isSubtype (.type "reversed") (.type "reversed") = pure true := by rw [isSubtype_type]; kernel_rfl
theorem init_rev : Slot "reversed" "__init__" "object.__init__" :=
  .of (owner := "object") (n := "__init__") (by rw [typeLookup_type, builtinLookup_eq_fast]; kernel_rfl) (by decide +kernel) (by decide +kernel) (by decide +kernel)
    (by first | exact .inl (by decide +kernel) | exact .inr (by decide +kernel)) (by rw [isSubtype_type]; kernel_rfl)
theorem mro_reversed : mroOf (.type "reversed") = pure [.type "reversed", .type "object"] := by rw [mroOf_type]; kernel_rfl
theorem lookup_reversed_new : typeLookup (.type "reversed") "__new__" = pure (some (.builtin "reversed.__new__")) := by rw [typeLookup_type, builtinLookup_eq_fast]; kernel_rfl
theorem made_reversed : Bind.madeBy (.type "reversed") = pure (some "reversed.__new__") := madeBy_type mro_reversed lookup_reversed_new (by decide +kernel)
theorem called_rev : TypeCalled "reversed" "reversed.__new__" "object.__init__" :=
  ⟨by decide +kernel, by decide +kernel, ⟨_, _, mro_reversed⟩, made_reversed, by decide +kernel, sub_rev, init_rev⟩
end RV
def rvObj (t : Addr) (i : Int) : Obj := { cls := .type "reversed", data := .fields #[.ref t, rawInt i] }
section
variable {prog : Program} {w : World} {A : Around} {E : Value → Shared → Prop} {s : Shared}
theorem next_rv {it t : Addr} {i : Nat} {items : Array Value} {x : Value} {Q : Option Value → Shared → Prop} (hit : s.heap.get? it = some (rvObj t (i : Int))) (ht : IsTup s.heap t items) (hx : items[i]? = some x) (hz : (items.size : Int) < 2 ^ 63)
    (hQ : ∀ h' tk, h'.get? it = some (rvObj t ((i : Int) - 1)) → Heap.SameBut it s.heap h' → Q (some x) { s with heap := h', toks := tk }) : wpAny (model prog w) A (pyNext (.ref it)) Q E s := by
  have hT : s.TypeIs (.ref it) "reversed" := ⟨_, hit, rfl⟩
  have hi : i < items.size := (Array.getElem?_eq_some_iff.mp hx).1
  unfold pyNext
  refine wpAny_bind (wpAny_attempt (wpAny_callSpecial?_slot (name := Str.ofString "__next__") hT RV.slot_next (wpAny_call_entry RV.slot_next hT RV.entry_next ?_ (RV.args_next _))))
  unfold Builtin.«reversed.__next__»
  refine wpAny_bind (wpAny_of_eq (a := (Value.ref it, [])) rfl ?_)
  try dsimp only
  refine wpAny_bind (wpAny_field hit rfl (x := .ref t) rfl ?_)
  refine wpAny_bind (wpAny_field hit rfl (x := rawInt (i : Int)) rfl ?_)
  show wpAny _ _ (if (i : Int) < 0 then _ else _) _ _ s
  rw [if_neg (by omega)]
  refine wpAny_bind (wpAny_specialOf ht.typeIs slot_tuple_getitem.lookup ?_)
  show wpAny _ _ (if (false : Bool) = true then _ else _) _ _ s
  rw [if_neg Bool.false_ne_true]
  refine wpAny_bind (wpAny_mkInt ?_)
  refine wpAny_bind (wpAny_attempt (getItem_tuple (j := i) (x := x) (s := { s with toks := s.toks + 1 }) ht (by omega) (by omega) (by unfold seqIndex?; simp; omega) hx ?_))
  refine wpAny_bind (wpAny_field (s := { s with toks := s.toks + 1 }) hit rfl (x := rawInt (i : Int)) rfl ?_)
  refine wpAny_bind (wpAny_setField (s := { s with toks := s.toks + 1 }) hit rfl (by simp) ?_)
  refine wpAny_pure ⟨x, rfl, wpAny_pure (hQ _ _ ?_ (Heap.SameBut.update ..))⟩
  exact Heap.get?_update_self _ hit (Obj.isFreed_of_fields (Obj.data_mapFields rfl _))
theorem next_rv_end {it t : Addr} {Q : Option Value → Shared → Prop} (hh : A.handled = none) (hit : s.heap.get? it = some (rvObj t (-1)))
    (hQ : ∀ h', Heap.ExtBut it s.heap h' → Q none { s with heap := h' }) : wpAny (model prog w) A (pyNext (.ref it)) Q E s := by
  have hT : s.TypeIs (.ref it) "reversed" := ⟨_, hit, rfl⟩
  unfold pyNext
  refine wpAny_bind (wpAny_attempt (wpAny_callSpecial?_slot (name := Str.ofString "__next__") hT RV.slot_next (wpAny_call_entry RV.slot_next hT RV.entry_next ?_ (RV.args_next _))))
  unfold Builtin.«reversed.__next__»
  refine wpAny_bind (wpAny_of_eq (a := (Value.ref it, [])) rfl ?_)
  try dsimp only
  refine wpAny_bind (wpAny_field hit rfl (x := .ref t) rfl ?_)
  refine wpAny_bind (wpAny_field hit rfl (x := rawInt (-1)) rfl ?_)
  show wpAny _ _ (if (-1 : Int) < 0 then _ else _) _ _ s
  rw [if_pos (by decide)]
  refine wpAny_bind (wpAny_rule ?_)
  refine wpAny_bind ?_
  refine wpAny_bind (m := setField (.ref it) 1 (rawInt (-1))) (wpAny_setField hit rfl (by simp) ?_)
  have hit2 := Heap.get?_update_self (h := s.heap) (Obj.mapFields (·.setIfInBounds 1 (rawInt (-1)))) hit (Obj.isFreed_of_fields (Obj.data_mapFields rfl _))
  refine wpAny_setField (s := { s with heap := s.heap.update it (Obj.mapFields (·.setIfInBounds 1 (rawInt (-1)))) }) hit2 (Obj.data_mapFields rfl _) (by simp) ?_
  refine wpAny_bind ?_
  show wpAny _ _ (newExc (.type "StopIteration") [] >>= _) _ _ _
  refine wpAny_bind ?_
  simp only [newExc, newTuple]
  refine wpAny_bind (wpAny_newObj_type ?_ (by size_fits))
  refine wpAny_bind (m := firstArgMember _ _) (wpAny_of_eq (a := Value.none) (by first | rfl | (simp only [firstArgMember]; rfl)) ?_)
  refine wpAny_newObj_type ?_ (by size_fits)
  simp only [raiseNew]
  refine wpAny_bind (wpAny_handled ?_)
  first | rw [show A.in1.handled = none from hh] | rw [hh]
  refine wpAny_bind (wpAny_pure (wpAny_throw ?_))
  refine wpAny_bind (wpAny_isInstance (T := "StopIteration") (b := true) ⟨_, Heap.get?_push_size _ rfl, rfl⟩ isSubtype_stop ?_)
  exact wpAny_pure (hQ _ ((((Heap.SameBut.update ..).trans (Heap.SameBut.update ..)).extBut.push _).push _))
theorem iter_rv {it t : Addr} {i : Int} {Q : Value → Shared → Prop} (hit : s.heap.get? it = some (rvObj t i)) (h : Q (.ref it) s) : wpAny (model prog w) A (pyIter (.ref it)) Q E s := by
  have hT : s.TypeIs (.ref it) "reversed" := ⟨_, hit, rfl⟩
  refine wpAny_pyIter_slot hT RV.slot_iter (wpAny_call_entry RV.slot_iter hT RV.entry_iter ?_ (RV.args_iter _))
  show wpAny _ _ (ret (.ref it)) _ _ s
  exact wpAny_pure ⟨_, rfl, "reversed", _, hT, RV.slot_next.lookup, h⟩
theorem newClass_rv (a : Value) : Builtin.SmallTypes.newClass "reversed" ⟨[.type "reversed", a], []⟩ = pure (.type "reversed", [a]) := by
  unfold Builtin.SmallTypes.newClass
  simp only [isType, RV.sub_rev, pure_bind, Bool.not_true, Bool.false_eq_true, if_false]
theorem meets_rv_new (t : Addr) (items : Array Value) :
    Meets (Builtin.«reversed.__new__» ⟨[.type "reversed", .ref t], []⟩) (fun _ R s => IsTup s.heap t items ∧ (items.size : Int) < 2 ^ 63 ∧
      ∀ tk, R (.ok (.ret (.ref s.heap.objs.size))) { s with heap := s.heap.push (rvObj t ((items.size : Int) - 1)), toks := tk }) :=
  .of_wp fun prog w A R s h => by
    obtain ⟨ht, hz, h⟩ := h
    unfold Builtin.«reversed.__new__»
    refine wpAny_bind (wpAny_of_eq (newClass_rv _) ?_)
    try dsimp only
    refine wpAny_bind (wpAny_of_eq (a := ()) (by first | rfl | kernel_rfl) ?_)
    refine wpAny_bind (wpAny_of_eq (a := ()) (by first | rfl | kernel_rfl) ?_)
    try dsimp only
    refine wpAny_bind (wpAny_specialOf ht.typeIs RV.tuple_norev ?_)
    try dsimp only
    refine wpAny_bind ?_
    refine wpAny_bind (m := isInstance (.ref t) (.type "dict")) (wpAny_isInstance ht.typeIs RV.sub_tuple_dict ?_)
    show wpAny _ _ (if (false : Bool) = true then _ else _) _ _ _
    rw [if_neg Bool.false_ne_true]
    refine wpAny_bind (wpAny_specialOf ht.typeIs slot_tuple_getitem.lookup ?_)
    try dsimp only
    rw [if_pos (by decide)]
    refine wpAny_pure ?_
    show wpAny _ _ (if (false : Bool) = true then _ else _) _ _ _
    rw [if_neg Bool.false_ne_true]
    refine wpAny_bind (len_tuple ht hz ?_)
    refine wpAny_bind (wpAny_of_eq (a := some (items.size : Int)) (by first | rfl | simp [asInt?]) ?_)
    try dsimp only
    refine wpAny_bind (m := newObj (.type "reversed") (.fields #[.ref t, rawInt ((items.size : Int) - 1)])) (wpAny_newObj_type ?_ (by size_fits))
    exact wpAny_pure ⟨_, rfl, h _⟩
theorem call_rv {t : Addr} {items : Array Value} {Q : Value → Shared → Prop} (ht : IsTup s.heap t items) (hz : (items.size : Int) < 2 ^ 63)
    (h : ∀ tk, Q (.ref s.heap.objs.size) { s with heap := s.heap.push (rvObj t ((items.size : Int) - 1)), toks := tk }) : wpAny (model prog w) A (call (.type "reversed") [.ref t]) Q E s :=
  callType_new RV.called_rev (by decide) (by kernel_rfl) (by kernel_rfl) (fun obj => PySem.F.args_object_init_2 obj _) RV.entry_new (meets_rv_new t items) ⟨ht, hz, fun tk => ⟨⟨_, Heap.get?_push_size _ rfl, rfl⟩, h tk⟩⟩
end
/-- the tuple at a, from behind -/
def Itv (K : PySem.W.Frag) (a : Addr) (xs : List V) : It :=
  ⟨fun i H => SqT K H a xs ∧ i < xs.length, fun i H x H' => H' = H ∧ xs.reverse[i]? = some x, fun i H => i = xs.length⟩
theorem turn_rv {P : Program} {w : World} {K : PySem.W.Frag} {tg : Expr} (a it : Addr) (xs : List V) : Turn P w K tg (Itv K a xs) [it] it (fun i h => h.get? it = some (rvObj a ((xs.length : Int) - 1 - (i : Nat)))) where
  mem := by simp
  obj := fun i h st b hb => by
    have e : b = it := by simpa using hb
    subst e
    exact ⟨_, st, fun v z => by
      have z' : Data.fields _ = Data.cell v := z
      cases z'⟩
  keep := fun i h h' st k => k it (by simp) _ st
  item := by
    intro X hP hw hK hc i pins s σ H E I hf st hg
    subst hP hw hK
    obtain ⟨hq, hi⟩ := hg
    obtain ⟨its, rv, p, hz⟩ := I.tuple hq
    obtain ⟨f0, f1, f2, f3, f4, f5⟩ := hf it (by simp)
    have hl := rv.length
    have hn := line63
    have e1 : (xs.length : Int) - 1 - (i : Nat) = ((xs.length - 1 - i : Nat) : Int) := by omega
    obtain ⟨x, hx⟩ : ∃ x, xs[xs.length - 1 - i]? = some x := ⟨_, List.getElem?_eq_getElem (by omega)⟩
    obtain ⟨u, hu, ru⟩ := rv.get hx
    rw [e1] at st
    refine next_rv st p (x := u) (by simpa using hu) (by simp only [List.size_toArray]; omega) fun h' tk st' sb => ?_
    have I1 : Inv X pins σ H { s with heap := h', toks := tk } := I.turned (fun b o hb e => (sb.2 b hb).trans e) f0 f1 f3 f4 f5
    have e2 : ((xs.length - 1 - i : Nat) : Int) - 1 = (xs.length : Int) - 1 - ((i + 1 : Nat) : Int) := by omega
    rw [e2] at st'
    exact ⟨u, rfl, go_of (s := { s with heap := h', toks := tk }) (n := "reversed") st' rfl rfl (by decide) ⟨x, H, I1, ru, ⟨rfl, by rw [List.getElem?_reverse (by omega)]; exact hx⟩, st', fun b hb => (hf b hb).1⟩⟩
  done := by
    intro X hP hw hK hc i pins s σ H E I hf st hg
    subst hP hw hK
    obtain ⟨f0, f1, f2, f3, f4, f5⟩ := hf it (by simp)
    have hi : i = xs.length := hg
    have e1 : (xs.length : Int) - 1 - (i : Nat) = -1 := by omega
    rw [e1] at st
    exact next_rv_end (I.ok.hd hc) st fun h' eb => ⟨rfl, I.turned (t' := s.toks) (fun b o hb e => eb b o hb e) f0 f1 f3 f4 f5⟩
  self := fun _ _ _ _ _ st h => iter_rv st h
section
variable {X : Cx} {tg : Expr}
def iRevT (K : PySem.W.Frag) (ta : TA) : TI := fun σ H R => ta σ H fun vs H1 => ∃ a xs, vs = [.ref a] ∧ SqT K H1 a xs ∧ R (Itv K a xs) H1
theorem pi_revT {a : Expr} {ta : TA} {p pos : Pos} (hg : Gl X "reversed") (hm : X.mg "reversed" = none) (ha : PA X [a] ta) (hs : starEach [a] X.env = [(false, eval a X.env)] := by rfl) : PI X tg (.Call (.Name "reversed" p) [a] [] pos) (iRevT X.K ta) := by
  intro pins s σ H R I h
  refine Call_ (ld_blt I hg hm bt_reversed (PyProof.Rows.callWith_type1 (thn (ha pos pins s σ H _ I h) fun us s1 ⟨vs, H1, I1, r1, q1⟩ => ?_) hs rfl))
  obtain ⟨b, xs, e, hq, q⟩ := q1
  subst e
  obtain ⟨u, rfl, ru⟩ := vals1 r1
  cases ru
  obtain ⟨its, rv, pl, hz⟩ := I1.tuple hq
  have hl := rv.length
  have hn := line63
  refine call_rv pl (by simp only [List.size_toArray]; omega) fun tk => ?_
  have e3 : (((its.toArray).size : Nat) : Int) - 1 = (xs.length : Int) - 1 - ((0 : Nat) : Int) := by simp only [List.size_toArray]; omega
  rw [e3]
  have I2 : Inv X pins σ H1 { s1 with heap := s1.heap.push (rvObj b ((xs.length : Int) - 1 - ((0 : Nat) : Int))), toks := tk } := I1.kept fun b o e => Heap.get?_push_of_some _ e
  refine iter_rv (s := { s1 with heap := s1.heap.push (rvObj b ((xs.length : Int) - 1 - ((0 : Nat) : Int))), toks := tk }) (t := b) (i := (xs.length : Int) - 1 - ((0 : Nat) : Int)) (Heap.get?_push_size _ rfl) ?_
  refine ⟨s1.heap.objs.size, [s1.heap.objs.size], _, _, H1, rfl, I2, turn_rv b _ xs, Heap.get?_push_size _ rfl, fun c hc => ?_, q⟩
  have e : c = s1.heap.objs.size := by simpa using hc
  subst e
  exact I1.fpOk (Nat.le_refl _) (I1.hok.fresh (Nat.le_refl _))
end
theorem for_rev {K : PySem.W.Frag} {a : Addr} {xs : List V} {g : TG} {tb : TS} {D : Ends} {σ : L2.St} {H : Hp} (Pv : Nat → L2.St → Hp → Prop) (h0 : Pv 0 σ H) (hl : ∀ i σ H, i ≤ xs.length → Pv i σ H → SqT K H a xs)
    (hs : ∀ i x σ H, xs.reverse[i]? = some x → Pv i σ H → g x σ H fun σ2 H2 => tb { D with nx := Pv (i + 1), ct := Pv (i + 1), bk := D.nx } σ2 H2) (hd : ∀ σ H, Pv xs.length σ H → D.nx σ H) :
    ∃ W : Nat → Nat → L2.St → Hp → Prop, (∃ m, W 0 m σ H) ∧ ∀ i m σ H, W i m σ H →
      ((Itv K a xs).stop i H ∧ D.nx σ H) ∨ ((Itv K a xs).go i H ∧ ∃ N : L2.St → Hp → Prop, (∀ σ' H', N σ' H' → ∃ m', m' < m ∧ W (i + 1) m' σ' H') ∧ ∀ x H', (Itv K a xs).yld i H x H' → g x σ H' fun σ2 H2 => tb { D with nx := N, ct := N, bk := D.nx } σ2 H2) := by
  refine ⟨fun i m σ H => m = xs.length - i ∧ i ≤ xs.length ∧ Pv i σ H, ⟨xs.length, by simp, Nat.zero_le _, h0⟩, ?_⟩
  rintro i m σ H ⟨rfl, hi, p⟩
  by_cases c : i = xs.length
  · subst c
    exact .inl ⟨rfl, hd σ H p⟩
  · have hlt : i < xs.length := by omega
    refine .inr ⟨⟨hl i σ H hi p, hlt⟩, Pv (i + 1), fun σ' H' k => ⟨xs.length - (i + 1), by omega, rfl, by omega, k⟩, ?_⟩
    rintro x H' ⟨rfl, hx⟩
    exact hs i x σ H' hx p
end BF
set_option Elab.async false
set_option linter.all false
set_option maxRecDepth 100000
namespace BF
open PySem PySem.Spec PyProof.Rows L2

/-! ### a method by its contract; a class that is made -/
def Mtd (P : Program) (w : World) (K : PySem.W.Frag) (mg : Str → Option Value) (base : Heap) (k : Nat) (C : Addr) (m : Str) (ps : List Str) (sp : Sp) : Prop :=
  ∃ (f : Addr) (fd : FuncData), FnOk P w K mg base CX0 k f fd ps sp ∧ Binds K fd ps [] ∧ Meth K C m f ∧ Cls K C
def New (P : Program) (w : World) (K : PySem.W.Frag) (mg : Str → Option Value) (base : Heap) (k : Nat) (C : Addr) (x : Str) (ps : List Str) (sp : Sp) : Prop :=
  ∃ (f : Addr) (fd : FuncData), Mk K C f ∧ FnOk P w K mg base CX0 k f fd ps sp ∧ Binds K fd ps [] ∧ mg x = some (.ref C)
section
variable {X : Cx} {k : Nat} {x m : Str} {ps : List Str} {sp : Sp} {p pos apos : Pos} {o e : Expr} {es : List Expr} {t : TA} {ta : TE} {C : Addr}
theorem pe_mt {pl : Sem Bool} (M : Mtd X.prog X.w X.K X.mg X.base k C m ps sp) (hr : Room k X.A) (he : PE X o ta) (ha : PA X (e :: es) t)
    (hst : starEach (e :: es) X.env = (false, eval e X.env) :: starEach es X.env := by rfl) (hpl : (backTo pos (starEach es X.env)).any (·.1) = false := by rfl)
    (ht : eval (.Call (.Attribute o m apos) (e :: es) [] pos) X.env = (do
      let ov ← eval o X.env
      standAt apos.atName
      let (f, first) ← holding [ov] (getMethod ov m pl)
      callWith pos f first (backTo pos (starEach (e :: es) X.env)) (backToKw pos (keywordEach [] X.env))) := by rfl) :
    PE X (.Call (.Attribute o m apos) (e :: es) [] pos) (tMeth C m sp [] E0 ta t) := by
  obtain ⟨f, fd, F, b, mm, c⟩ := M
  exact pe_meth (pl := pl) he c mm F hr b .nil pass0 ha hst hpl ht
theorem pe_mt0 {pl : Sem Bool} (M : Mtd X.prog X.w X.K X.mg X.base k C m ps sp) (hr : Room k X.A) (he : PE X o ta)
    (ht : eval (.Call (.Attribute o m apos) [] [] pos) X.env = (do
      let ov ← eval o X.env
      standAt apos.atName
      let (f, first) ← holding [ov] (getMethod ov m pl)
      callWith pos f first (backTo pos (starEach [] X.env)) (backToKw pos (keywordEach [] X.env))) := by rfl) :
    PE X (.Call (.Attribute o m apos) [] [] pos) (tMeth C m sp [] E0 ta tNil) := by
  obtain ⟨f, fd, F, b, mm, c⟩ := M
  exact pe_meth0 (pl := pl) he c mm F hr b .nil pass0 ht
theorem pe_new (N : New X.prog X.w X.K X.mg X.base k C x ps sp) (hr : Room (k + 1) X.A) (ha : PA X (e :: es) t) (hg : Gl X x := by rfl) (hdb : (x == ("__debug__" : Str)) = false := by decide)
    (he : starEach (e :: es) X.env = (false, eval e X.env) :: starEach es X.env := by rfl) (hpl : (backTo pos (starEach es X.env)).any (·.1) = false := by rfl) :
    PE X (.Call (.Name x p) (e :: es) [] pos) (tMake C sp [] E0 t) := by
  obtain ⟨f, fd, M, F, b, mg⟩ := N
  exact pe_make M F hr hg mg b .nil pass0 ha hdb he hpl
end

/-! ### pieces on the heap -/
def PcAt (H : Hp) (v : V) : Pc → Prop
  | .sg x => v = .str x
  | .tm u => TermAt H v u
def PcsAt (H : Hp) (vs : List V) (l : List Pc) : Prop := Paired (PcAt H) vs l
theorem PcsAt.len {H : Hp} {vs : List V} {l : List Pc} (h : PcsAt H vs l) : vs.length = l.length := Paired.length h
theorem PcsAt.mono {H H' : Hp} {vs : List V} {l : List Pc} (k : TSame H H') (h : PcsAt H vs l) : PcsAt H' vs l :=
  Paired.imp' (fun v p hp => by
    cases p with
    | sg x => exact hp
    | tm u => exact TermAt.mono k hp) h
theorem PcsAt.app {H : Hp} : ∀ {vs us : List V} {l m : List Pc}, PcsAt H vs l → PcsAt H us m → PcsAt H (vs ++ us) (l ++ m)
  | _, _, _, _, .nil, h => h
  | _, _, _, _, .cons a b, h => .cons a (PcsAt.app b h)
theorem PcsAt.snoc {H : Hp} : ∀ {vs : List V} {v : V} {l : List Pc} {p : Pc}, PcsAt H (vs ++ [v]) (l ++ [p]) → PcsAt H vs l ∧ PcAt H v p
  | [], v, [], p, h => by
    cases h with
    | cons a b => exact ⟨.nil, a⟩
  | [], v, q :: l, p, h => by
    have := h.len; simp at this
  | u :: vs, v, [], p, h => by
    have := h.len; simp at this
  | u :: vs, v, q :: l, p, h => by
    cases h with
    | cons a b => obtain ⟨h1, h2⟩ := PcsAt.snoc b; exact ⟨.cons a h1, h2⟩
theorem snoc_of {α : Type} {l : List α} (h : l ≠ []) : ∃ l0 x, l = l0 ++ [x] := ⟨l.dropLast, l.getLast h, (List.dropLast_concat_getLast h).symm⟩
end BF
set_option Elab.async false
set_option linter.all false
namespace BF
open PySem
/-- the figures of a natural number -/
def figs (m : Nat) : List Nat := (Nat.toDigits 10 m).map Char.toNat
theorem figs_all (m : Nat) : NumText.AllDigits (figs m) := by
  intro c hc
  obtain ⟨ch, hch, e⟩ := List.mem_map.mp hc
  have r := PyProof.Rows.digit_range (Nat.isDigit_of_mem_toDigits (by decide) (by decide) hch)
  rw [← e]
  exact r
theorem figs_ne (m : Nat) : figs m ≠ [] := by
  intro e
  have h := PySem.toDigits_len_ge 10 m
  rw [List.map_eq_nil_iff.mp e] at h
  exact absurd h (by decide)
theorem figs_snoc {m : Nat} (h : 10 ≤ m) : figs m = figs (m / 10) ++ [(Nat.digitChar (m % 10)).toNat] := by
  have hm : m % 10 < 10 := Nat.mod_lt m (by decide)
  have t : Nat.toDigits 10 (m / 10) ++ Nat.toDigits 10 (m % 10) = Nat.toDigits 10 (10 * (m / 10) + m % 10) := Nat.toDigits_append_toDigits (by decide) (by omega) hm
  rw [Nat.div_add_mod] at t
  unfold figs
  rw [← t, List.map_append, Nat.toDigits_of_lt_base hm]
  rfl
theorem figs_one {m : Nat} (h : m < 10) : figs m = [48 + m] := by
  unfold figs
  rw [Nat.toDigits_of_lt_base h]
  have : ∀ d : Nat, d < 10 → (Nat.digitChar d).toNat = 48 + d := by decide
  simp [this m h]
theorem figs_nought : ∀ (m : Nat) (r : List Nat), figs m = 48 :: r → m = 0 := by
  intro m
  induction m using Nat.strongRecOn with
  | _ m ih =>
    intro r e
    by_cases h : m < 10
    · rw [figs_one h] at e
      have := (List.cons.inj e).1
      omega
    · rw [figs_snoc (by omega)] at e
      cases hf : figs (m / 10) with
      | nil => exact absurd hf (figs_ne _)
      | cons c cs =>
        rw [hf] at e
        have hc : c = 48 := (List.cons.inj e).1
        have := ih (m / 10) (by omega) cs (by rw [hf, hc])
        omega
theorem figs_len {m k : Nat} (hk : 1 ≤ k) (h : m < 10 ^ k) : (figs m).length ≤ k := by
  unfold figs
  rw [List.length_map]
  exact PyProof.Rows.digits10_le hk h
theorem figs_val (m : Nat) : NumText.digitsVal (figs m) = m := PySem.W.KIN.val_back m
theorem numS_nn (m : Nat) : numS (m : Int) = figs m := PySem.W.KIN.signs_num m
theorem numS_neg (m : Nat) : numS (Int.negSucc m) = 45 :: figs (m + 1) := by
  unfold numS
  rw [PyProof.Rows.signs_ofString]
  show ("-" ++ Nat.repr (m + 1)).toList.map Char.toNat = _
  rw [String.toList_append, List.map_append, Nat.toList_repr]
  rfl
end BF
set_option Elab.async false
set_option linter.all false
set_option maxRecDepth 100000
namespace BF
open PySem PySem.Spec PyProof.Rows L2

theorem big {n : Nat} (h : n ≤ 16000000) : n < sizeLine := Nat.lt_of_le_of_lt h (by decide)
theorem small {n : Nat} (h : n ≤ 16000000) : n ≤ sizeLine := Nat.le_of_lt (big h)
def flat (xs : List Str) : List Nat := xs.flatMap fun x => x.cps.toList
theorem flat_snoc (xs : List Str) (z : Str) : flat (xs ++ [z]) = flat xs ++ z.cps.toList := by simp [flat]
theorem flat_len (xs : List Str) : (flat xs).length = (xs.map (·.length)).sum := by
  induction xs with
  | nil => rfl
  | cons x r ih => simp only [flat, List.flatMap_cons, List.length_append, List.map_cons, List.sum_cons] at *; rw [ih, len_cps]
theorem join_flat (xs : List Str) : (Txt.join "" xs).cps.toList = flat xs := by
  have e : Txt.join "" xs = Str.join "" xs := eq_of_beq (join_plain_closes _ _)
  rw [e]
  have e0 : (Str.ofString "").cps.toList = [] := by decide +kernel
  induction xs with
  | nil => rfl
  | cons x r ih =>
    cases r with
    | nil => simp [Str.join, flat]
    | cons y r =>
      have : Str.join "" (x :: y :: r) = x ++ "" ++ Str.join "" (y :: r) := rfl
      rw [this, cps_append, cps_append, e0, ih (eq_of_beq (join_plain_closes _ _))]
      simp [flat]
theorem numS_len {n : Int} (h : (Tm.num n).Ok) : (numS n).length ≤ 63 := by
  simp only [Tm.Ok] at h
  have c : ((10 ^ 61 : Nat) : Int) = 10 ^ 61 := by norm_cast
  cases n with
  | ofNat m =>
    have := figs_len (m := m) (k := 62) (by decide) (by have : (Int.ofNat m) ≤ 10 ^ 61 := h.2; have e : (Int.ofNat m) = (m : Int) := rfl; have : m ≤ 10 ^ 61 := by omega
                                                        exact Nat.lt_of_le_of_lt this (by decide +kernel))
    rw [show (Int.ofNat m) = (m : Int) from rfl, numS_nn]; omega
  | negSucc m =>
    have := figs_len (m := m + 1) (k := 62) (by decide) (by have : m + 1 ≤ 10 ^ 61 := by omega
                                                            exact Nat.lt_of_le_of_lt this (by decide +kernel))
    rw [numS_neg, List.length_cons]; omega
theorem tailL_len {n : Nat} : ∀ {l : List Tm}, (∀ t ∈ l, t.line.length + 1 ≤ 70 * t.nodes) → (tailL l).length ≤ 70 * nodesL l
  | [], _ => by simp [tailL, nodesL]
  | t :: r, h => by
    have h1 := h t (by simp)
    have h2 := tailL_len (n := n) (l := r) fun u hu => h u (by simp [hu])
    simp only [tailL, nodesL, List.length_cons, List.length_append]
    omega
theorem Tm.line_len (t : Tm) : t.Ok → t.line.length + 1 ≤ 70 * t.nodes := by
  induction t using Tm.ind with
  | h1 n => intro h; have := numS_len h; simp only [Tm.line, Tm.nodes]; omega
  | h2 w => intro h; simp only [Tm.Ok] at h; have := h.2.1; simp only [Tm.line, Tm.nodes]; omega
  | h3 w => intro h; simp only [Tm.Ok] at h; have := h.2.1; simp only [Tm.line, Tm.nodes, List.length_cons]; omega
  | h4 w ps ih =>
    intro h
    simp only [Tm.Ok] at h
    obtain ⟨hw, hne, hok⟩ := h
    rw [okL_iff] at hok
    have := hw.2.1
    cases ps with
    | nil => exact absurd rfl hne
    | cons p r =>
      have h1 := ih p (by simp) (hok p (by simp))
      have h2 := tailL_len (n := 0) (l := r) fun u hu => ih u (by simp [hu]) (hok u (by simp [hu]))
      simp only [Tm.line, Tm.nodes, nodesL, lineL, List.length_append, List.length_cons, List.length_nil]
      omega
end BF
set_option Elab.async false
set_option linter.all false
namespace BF
open PySem PySem.Spec PyProof.Rows L2
section
variable {X : Cx} {x : Str} {p pos : Pos} {e : Expr} {es : List Expr} {t : TA} {id T : String} {r : List V → Hp → VK → Prop}
theorem pe_blt (hc : CallR X (.builtin id) r) (hm : X.mg x = none) (hv : bootBuiltins x = some (.builtin id)) (ha : PA X (e :: es) t) (hg : Gl X x := by rfl) (hn : x ≠ "__name__" := by decide) (hdb : (x == ("__debug__" : Str)) = false := by decide)
    (he : starEach (e :: es) X.env = (false, eval e X.env) :: starEach es X.env := by rfl) (hpl : (backTo pos (starEach es X.env)).any (·.1) = false := by rfl) : PE X (.Call (.Name x p) (e :: es) [] pos) (tCB r t) := pe_callB hc hg hm hv ha hn hdb he hpl
theorem pe_bty (hc : CallR X (.type T) r) (hm : X.mg x = none) (hv : bootBuiltins x = some (.type T)) (ha : PA X (e :: es) t) (hg : Gl X x := by rfl) (hn : x ≠ "__name__" := by decide) (hdb : (x == ("__debug__" : Str)) = false := by decide)
    (he : starEach (e :: es) X.env = (false, eval e X.env) :: starEach es X.env := by rfl) (hpl : (backTo pos (starEach es X.env)).any (·.1) = false := by rfl) : PE X (.Call (.Name x p) (e :: es) [] pos) (tCB r t) := pe_callTy hc hg hm hv ha hn hdb he hpl
theorem pe_tyn (hm : X.mg x = none) (hv : bootBuiltins x = some (.type T)) (hg : Gl X x := by rfl) (hn : x ≠ "__name__" := by decide) (hdb : (x == ("__debug__" : Str)) = false := by decide) : PE X (.Name x pos) (tC (.ty T)) := pe_bltn hg hm hv rfl hn hdb
end
end BF
set_option Elab.async false
set_option linter.all false
set_option maxRecDepth 100000
namespace BF
open PySem PySem.Spec PyProof.Rows L2

/-! ### exceptions of own classes -/
theorem objOk_there {P : Program} {w : World} {H : Hp} {h : Heap} {a : Addr} {o : HO} (x : ObjOk P w H h a o) : ∃ ob, h.get? a = some ob := by
  cases o with
  | lst xs => obtain ⟨_, _, _, _, e⟩ := x; exact ⟨_, e⟩
  | tup xs => obtain ⟨_, _, _, ob, e, _⟩ := x; exact ⟨_, e⟩
  | dK kvs => obtain ⟨_, _, _, _, o, _, _, e, _⟩ := x; exact ⟨_, e⟩
  | dT kvs => obtain ⟨_, _, _, _, o, _, _, e, _⟩ := x; exact ⟨_, e⟩
  | set S n => obtain ⟨o, _, _, _, e, _⟩ := x; exact ⟨_, e⟩
  | ins C dx fs => obtain ⟨_, _, _, e, _⟩ := x; exact ⟨_, e⟩
  | own y => obtain ⟨_, e⟩ := x; exact ⟨_, e⟩
  | xd fs => obtain ⟨_, ⟨_, _, _, e, _⟩, _⟩ := x; exact ⟨_, e⟩
  | rng lo hi => obtain ⟨_, _, _, e⟩ := x; exact ⟨_, e⟩
  | frz ob u => obtain ⟨e, _⟩ := x; exact ⟨_, e⟩
  | tbl ps => exact ⟨_, (show h.get? a = some _ from x)⟩
  | met f y => exact ⟨_, (show h.get? a = some _ from x)⟩
  | ext φ => obtain ⟨_, ⟨_, e⟩, _⟩ := x; exact ⟨_, e⟩
/-- an exception of a class, with its traceback's record -/
def Fly (h : Heap) (ea T : Addr) (cls fl : Value) : Prop :=
  ∃ oe vs oT ts a0, h.get? ea = some oe ∧ oe.cls = cls ∧ vs[0]? = some a0 ∧ oe.data = .fields vs ∧ vs[1]? = some (.ref T) ∧ T ≠ ea ∧ h.get? T = some oT ∧ oT.data = .fields ts ∧ ts[3]? = some fl
theorem Fly.of {h base : Heap} {ea : Addr} {cls a0 fl : Value} (x : h.TracedAtW base ea cls a0 fl) : ∃ T, Fly h ea T cls fl ∧ base.get? T = none := by
  obtain ⟨oe, vs, T, oT, ts, he, ⟨hc, h0⟩, hd, h1, hn, ne, hT, hdT, h3⟩ := x
  exact ⟨T, ⟨oe, vs, oT, ts, a0, he, hc, h0, hd, h1, ne, hT, hdT, h3⟩, hn⟩
theorem Fly.at {h base : Heap} {ea T : Addr} {cls fl : Value} (x : Fly h ea T cls fl) (hn : base.get? T = none) : ∃ a0, h.TracedAtW base ea cls a0 fl := by
  obtain ⟨oe, vs, oT, ts, a0, he, hc, h0, hd, h1, ne, hT, hdT, h3⟩ := x
  exact ⟨a0, oe, vs, T, oT, ts, he, ⟨hc, h0⟩, hd, h1, hn, ne, hT, hdT, h3⟩
/-- how an exception lies behind a call that it left -/
def CXR (P : Program) (w : World) : CXT := fun outer H s E e s' => ∃ (ea T C : Addr) (H' : Hp),
  e = .ref ea ∧ s'.os = s.os ∧ AllBare s'.gens ∧ Un (frs outer) [] H H' s.heap s'.heap ∧ HOk P w H' s'.heap ∧ Fly s'.heap ea T (.ref C) .none ∧ H' ea = none ∧ H' T = none ∧ s.heap.get? ea = none ∧ s.heap.get? T = none ∧ E (.ref C) none H'
section
variable {P : Program} {w : World} {K : PySem.W.Frag} {mg : Str → Option Value} {base : Heap} {N : List Str} {qual : Str} {scope : Scope} {f : Addr} {cd : Value} {A : Around} {outer : List Env} {s0 : Shared} {H0 : Hp} {E : XK}
theorem mem_frs {l : List Env} {env : Env} {a : Addr} (h : env ∈ l) (e : env.frame = some a) : a ∈ frs l := List.mem_filterMap.mpr ⟨env, h, e⟩
/-- what leaves a frame: all but the frames stays -/
theorem left_un {X : Cx} {pins : List (Addr × Obj)} {σ : L2.St} {H : Hp} {s2 : Shared} {h' : Heap} (I : Inv X pins σ H s2) (hex : X.ex = [])
    (kp : ∀ b o, s2.heap.get? b = some o → b ∉ frs X.stack → h'.get? b = some o) (sl : ∀ b o, s2.heap.get? b = some o → b ∈ frs X.stack → ∃ sl, h'.get? b = some { o with slots := sl }) :
    Un X.fs [] X.H₀ H X.s₀.heap h' ∧ HOk X.prog X.w H h' := by
  have nin : ∀ b o, X.s₀.heap.get? b = some o → b ∉ X.fs → b ∉ frs X.stack := fun b o e n z => by
    rcases List.mem_cons.mp (I.stkSub b z) with y | y
    · have := I.ok.above
      have l := Heap.lt_size e
      rw [y] at l
      exact absurd l (Nat.not_lt_of_le this)
    · exact n y
  have nex : ∀ b : Addr, b ∉ X.ex := fun b z => by rw [hex] at z; simp at z
  refine ⟨⟨fun b o e n hb _ => kp b o (I.base.keep b o e n hb (nex b)) (nin b o e hb), fun b o e n hb _ => ?_, fun b o e n _ => I.base.free b o e n (nex b), fun b o e _ => ?_, I.base.tups, I.base.frzs, I.base.tbls⟩, fun a o ha => ?_⟩
  · obtain ⟨s1, e1⟩ := I.base.slot b o e n hb (nex b)
    by_cases z : b ∈ frs X.stack
    · obtain ⟨s3, e3⟩ := sl b _ e1 z
      exact ⟨s3, e3⟩
    · exact ⟨s1, kp b _ e1 z⟩
  · obtain ⟨o1, e1⟩ := I.base.there b o e (nex b)
    by_cases z : b ∈ frs X.stack
    · obtain ⟨s3, e3⟩ := sl b _ e1 z
      exact ⟨_, e3⟩
    · exact ⟨_, kp b _ e1 z⟩
  · refine (I.hok a o ha).stay (fun b u hb e => kp b u e fun z => ?_) (fun b r => r) (fun b xs r => r)
    have hn := I.stkFree b z
    rcases hb with rfl | hb
    · rw [ha] at hn; cases hn
    · rw [hb] at hn; cases hn
theorem hok_none {X : Cx} {pins : List (Addr × Obj)} {σ : L2.St} {H : Hp} {s2 : Shared} {b : Addr} (I : Inv X pins σ H s2) (h : s2.heap.get? b = none) : H b = none := by
  cases z : H b with
  | none => rfl
  | some o =>
    obtain ⟨ob, y⟩ := objOk_there (I.hok b o z)
    rw [h] at y; cases y
theorem start_none {X : Cx} {pins : List (Addr × Obj)} {σ : L2.St} {H : Hp} {s2 : Shared} {b : Addr} (I : Inv X pins σ H s2) (h : s2.heap.get? b = none) : b ∈ X.ex ∨ X.s₀.heap.get? b = none := by
  by_cases q : b ∈ X.ex
  · exact .inl q
  · cases z : X.s₀.heap.get? b with
    | none => exact .inr rfl
    | some o =>
      obtain ⟨o1, y⟩ := I.base.there b o z q
      rw [h] at y; cases y
theorem raise_leaves {pins : List (Addr × Obj)} {σ : L2.St} {H : Hp} {s2 : Shared} {h1 : Heap} {e C : Addr} {args : List Value}
    (I : Inv (cxOf (CXR P w) P w K mg base N qual scope f cd A outer s0 H0 E) pins σ H s2) (hx : Heap.MadeExcOf s2.heap h1 e (.ref C) args) (q : E (.ref C) none H) :
    (cxOf (CXR P w) P w K mg base N qual scope f cd A outer s0 H0 E).xe (.ref e) { s2 with heap := h1 } := by
  have fr := I.stack
  have fr' := PySem.W.funFrames_hide (as := frs (envOfC qual scope s0.heap.objs.size f cd :: outer)) fr (fun env he a ha => mem_frs he ha)
  refine wpAny_leaves_madeW (base := PySem.W.hideAll s2.heap (frs (envOfC qual scope s0.heap.objs.size f cd :: outer))) (h := s2.heap) (s := { s2 with heap := h1 }) (L := s0.heap.objs.size) (outer := outer) I.ok.frames rfl
    (fun b o z => PySem.W.of_hideAll _ z) fr' hx fun h2 t hfl _ _ hup => ?_
  obtain ⟨un, hok⟩ := left_un (h' := h2) I rfl (fun b o z n => hfl.1 b o (PySem.W.hideAll_get _ z n)) (fun b o z n => by
    obtain ⟨_, o', y, hd⟩ := fr.mem n
    rw [z] at y; cases y
    exact hup b o (hx.keeps b o z) hd)
  obtain ⟨T, fl, hT⟩ := Fly.of hfl.2.2.2.at
  have hTn : s2.heap.get? T = none := by
    cases z : s2.heap.get? T with
    | none => rfl
    | some o =>
      exfalso
      by_cases n : T ∈ frs (envOfC qual scope s0.heap.objs.size f cd :: outer)
      · obtain ⟨_, o', y, hd⟩ := fr.mem n
        rw [z] at y; cases y
        obtain ⟨sl, e1⟩ := hup T o (hx.keeps T o z) hd
        obtain ⟨oe, vs, oT, ts, a0, _, _, _, _, _, _, e2, e3, _⟩ := fl
        rw [e1] at e2; cases e2
        exact hd ts e3
      · rw [PySem.W.hideAll_get _ z n] at hT; cases hT
  have s0n : ∀ b, s2.heap.get? b = none → s0.heap.get? b = none := fun b hb => by
    rcases start_none I hb with z | z
    · exact absurd (show b ∈ ([] : List Addr) from z) (by simp)
    · exact z
  exact ⟨e, T, C, H, rfl, I.os, I.bare, un, hok, fl, hok_none I hx.new, hok_none I hTn, s0n e hx.new, s0n T hTn, q⟩
end
/-- the class as it stands behind the top -/
theorem exc_obj {K : PySem.W.Frag} {h : Heap} {C : Addr} {bmB : List Value} {newId : String} (X : K.In h) (q : PySem.W.excIn K C bmB newId = true) :
    ∃ bm N nm qn bs hdct sn sub ab col dd k0 k1 k2 k3 k5 mN, h.get? C = some (excClassObj nm qn C N bs bm hdct sn sub ab col dd k0 k1 k2 k3 k5 newId) ∧ h.Ns N mN ∧ mN "__init__" = none ∧ OwnTail h bmB bm := by
  unfold PySem.W.excIn at q
  split at q
  · rename_i dd cd sl ho
    split at q
    · rename_i C' bm k0 k1 k2 k3 n k5 hm hs
      simp only [Bool.and_eq_true, beq_iff_eq, Bool.not_eq_true'] at q
      obtain ⟨⟨⟨⟨⟨rfl, rfl⟩, hdel⟩, ht⟩, hok⟩, hni⟩ := q
      obtain ⟨nm, bs, mro, ns, qn, hd, sn, sub, ab, col, del⟩ := cd
      dsimp only at hm hdel hok hni
      subst hm hdel
      have hsl : sl = #[k0, k1, k2, k3, some (.builtin n), k5] := by
        obtain ⟨l⟩ := sl
        simp only at hs
        rw [hs]
      subst hsl
      exact ⟨bm, ns, nm, qn, bs, hd, sn, sub, ab, col, dd, k0, k1, k2, k3, k5, _, X _ _ ho, .of_isNs (PySem.W.isNs_of_in X hok), PySem.W.nsMap_none_of_in X hok hni, PySem.W.tail_of_in X ht⟩
    · cases q
  · cases q
section
variable {X : Cx} {x : Str} {C : Addr} {np cpos pos : Pos} {e : Expr} {es : List Expr} {t : TA} {B newId initId : String} {bmB : List Value}
/-- raise C(e, ..) -/
theorem ps_raise {RX : Hp → Prop} (FB : ExcBaseFacts B newId initId bmB) (hq : PySem.W.excIn X.K C bmB newId = true) (hm : X.mg x = some (.ref C)) (ha : PA X (e :: es) t)
    (hX : ∀ (pins : List (Addr × Obj)) (σ : L2.St) (H : Hp) (s : Shared) (h' : Heap) (ea : Addr) (vs : List Value), Inv X pins σ H s → Heap.MadeExcOf s.heap h' ea (.ref C) vs → RX H → X.xe (.ref ea) { s with heap := h' })
    (hc : X.calm = true := by rfl) (hg : Gl X x := by rfl) (hdb : (x == ("__debug__" : Str)) = false := by decide)
    (he : starEach (e :: es) X.env = (false, eval e X.env) :: starEach es X.env := by rfl) (hpl : (backTo cpos (starEach es X.env)).any (·.1) = false := by rfl) :
    PS X (.Raise (some (.Call (.Name x np) (e :: es) [] cpos)) none pos) (fun _ σ H => t σ H fun vs H1 => vs.length ≤ sizeLine ∧ RX H1) := by
  intro pins s σ H D I h
  obtain ⟨tl, N, nm, q, bs, hdct, sn, sub, ab, col, dd, k0, k1, k2, k3, k5, mN, hC, hN, hni, TL⟩ := exc_obj I.ok.mod.kin hq
  refine wpAny_Raise_call_subT (C := C) (nm := nm) (q := q) (N := N) (bs := bs) (bm := tl) (hdct := hdct) (sn := sn) (sub := sub) (ab := ab) (col := col) (dd := dd) (k0 := k0) (k1 := k1) (k2 := k2) (k3 := k3) (k5 := k5)
    FB (mN := mN) (TL.hasType FB.hasBase) (I.ok.hd hc) (by rw [he]; show (false || (backTo cpos (starEach es X.env)).any (·.1)) = false; rw [hpl]; rfl) hni (ld_glob I hg hm ⟨rfl, ?_⟩ hdb)
  have hh := thn (ha cpos pins s σ H _ I h) (Q' := fun us s2 => us.length ≤ sizeLine ∧ (∀ b o, X.base.get? b = some o → s2.heap.get? b = some o) ∧ ∀ h' ea, Heap.MadeExcOf s2.heap h' ea (.ref C) us → X.xe (.ref ea) { s2 with heap := h' })
    fun us s2 ⟨vs, H1, I1, r1, z, q1⟩ => ⟨by rw [← r1.length]; exact z, I1.bk, fun h' ea mk => hX pins σ H1 s2 h' ea us I1 mk q1⟩
  rw [he] at hh ⊢
  exact Calls.evalArgs_plain (wpAny_mono hh (fun vs s₂ h₂ => ⟨rfl, h₂.1, h₂.2.1 _ _ hC, hN.keeps h₂.2.1, TL.keeps h₂.2.1, h₂.2.2⟩) fun _ _ y => y)
end
end BF
set_option Elab.async false
set_option linter.all false
set_option maxRecDepth 100000
namespace BF
open PySem PySem.Spec PyProof.Rows L2

/-! ### try: an exception of an own class is caught -/
structure FlyIn (X : Cx) (pins : List (Addr × Obj)) (H : Hp) (h : Heap) (ea T : Addr) (cls fl : Value) : Prop where
  fly : Fly h ea T cls fl
  he : H ea = none
  hT : H T = none
  se : ea ∈ X.ex ∨ X.s₀.heap.get? ea = none
  sT : T ∈ X.ex ∨ X.s₀.heap.get? T = none
  pn : ∀ p ∈ X.pn ++ pins, p.1 ≠ ea ∧ p.1 ≠ T
section
variable {X : Cx} {pins : List (Addr × Obj)} {σ : L2.St} {H : Hp} {s : Shared} {ea T : Addr} {cls fl : Value}
theorem fields_not_loc (I : Inv X pins σ H s) {b : Addr} {o : Obj} {vs : Array Value} (e : s.heap.get? b = some o) (d : o.data = .fields vs) :
    b ≠ X.env.locals ∧ (∀ x c, X.env.cells.lookup x = some c → c ≠ b) ∧ b ∉ frs X.stack ∧ b ∉ X.fs := by
  refine ⟨fun z => ?_, fun x c hc z => ?_, fun z => ?_, fun z => ?_⟩
  · obtain ⟨m, ⟨o', es, ep, ho', hd', _⟩, _⟩ := I.loc
    rw [z, ho'] at e; cases e; rw [hd'] at d; cases d
  · obtain ⟨v, o', ho', hd'⟩ := I.cell x c hc
    rw [z, e] at ho'; cases ho'; rw [d] at hd'; cases hd'
  · obtain ⟨_, o', y, hd⟩ := I.stack.mem z
    rw [e] at y; cases y; exact hd vs d
  · obtain ⟨_, o', y, hd⟩ := I.funs.mem z
    rw [e] at y; cases y; exact hd vs d
theorem un_ex {fs ex : List Addr} {H H' : Hp} {h h' : Heap} (ex' : List Addr) (u : Un fs ex H H' h h') (k : ∀ b, b ∈ ex → b ∈ ex') : Un fs ex' H H' h h' :=
  ⟨fun b o e n f x => u.keep b o e n f fun z => x (k b z), fun b o e n f x => u.slot b o e n f fun z => x (k b z), fun b o e n x => u.free b o e n fun z => x (k b z), fun b o e x => u.there b o e fun z => x (k b z), u.tups, u.frzs, u.tbls⟩
theorem un_ex_back {fs ex ex' : List Addr} {H H' : Hp} {h h' : Heap} (u : Un fs ex' H H' h h') (k : ∀ b o, h.get? b = some o → b ∈ ex' → b ∈ ex) : Un fs ex H H' h h' :=
  ⟨fun b o e n f x => u.keep b o e n f fun z => x (k b o e z), fun b o e n f x => u.slot b o e n f fun z => x (k b o e z), fun b o e n x => u.free b o e n fun z => x (k b o e z), fun b o e x => u.there b o e fun z => x (k b o e z), u.tups, u.frzs, u.tbls⟩
/-- the exception's two records turn, and the frames' slots -/
theorem fly_step {h' : Heap} {a0 fl' : Value} (I : Inv X pins σ H s) (F : FlyIn X pins H s.heap ea T cls fl)
    (st : (PySem.W.hideAll s.heap (frs X.stack ++ [ea, T])).StaysIn h') (tr : h'.TracedAtW (PySem.W.hideAll s.heap (frs X.stack ++ [ea, T])) ea cls a0 fl') (up : s.heap.UpToSlots h') :
    Inv X pins σ H { s with heap := h' } ∧ ∃ T', FlyIn X pins H h' ea T' cls fl' := by
  obtain ⟨oe, vs, oT, ts, b0, he, hc, h0, hd, h1, ne, hT, hdT, h3⟩ := id F.fly
  obtain ⟨e1, e2, e3, e4⟩ := fields_not_loc I he hd
  obtain ⟨t1, t2, t3, t4⟩ := fields_not_loc I hT hdT
  have sk : ∀ b o, s.heap.get? b = some o → b ∉ frs X.stack → b ≠ ea → b ≠ T → h'.get? b = some o := fun b o e n n1 n2 => st b o (PySem.W.hideAll_get _ e (by simp [n, n1, n2]))
  have hok' : HOk X.prog X.w H h' := fun a o ha => by
    refine (I.hok a o ha).stay (fun b u hb e => sk b u e (fun z => ?_) ?_ ?_) (fun b r => r) (fun b xs r => r)
    · have hn := I.stkFree b z
      rcases hb with rfl | hb
      · rw [ha] at hn; cases hn
      · rw [hb] at hn; cases hn
    · rintro rfl
      have hn := F.he
      rcases hb with rfl | hb
      · rw [ha] at hn; cases hn
      · rw [hb] at hn; cases hn
    · rintro rfl
      have hn := F.hT
      rcases hb with rfl | hb
      · rw [ha] at hn; cases hn
      · rw [hb] at hn; cases hn
  have I' : Inv { X with ex := ea :: T :: X.ex } pins σ H s := by
    refine ⟨⟨I.ok.mod, I.ok.kind, I.ok.glob, I.ok.blt, I.ok.above, I.ok.inj, I.ok.has, I.ok.cab, I.ok.hd, I.ok.frames, I.ok.stk, fun b hb => ?_, I.ok.bs, I.ok.bsz, fun b o e hb => ?_, fun b hb => ?_, I.ok.funs, I.ok.frf⟩, I.os, I.bare, un_ex _ I.base fun b z => List.mem_cons_of_mem _ (List.mem_cons_of_mem _ z), I.loc, I.cell, I.free, I.freeC, I.pin, I.hok, I.len⟩
    · rcases List.mem_cons.mp hb with rfl | hb
      · exact ⟨e1, e2⟩
      · rcases List.mem_cons.mp hb with rfl | hb
        · exact ⟨t1, t2⟩
        · exact I.ok.exf b hb
    · have es := (I.ok.bs b o e).1
      rcases List.mem_cons.mp hb with rfl | hb
      · rcases F.se with z | z
        · exact I.ok.noex _ o e z
        · rw [es] at z; cases z
      · rcases List.mem_cons.mp hb with rfl | hb
        · rcases F.sT with z | z
          · exact I.ok.noex _ o e z
          · rw [es] at z; cases z
        · exact I.ok.noex b o e hb
    · rcases List.mem_cons.mp hb with rfl | hb
      · exact e4
      · rcases List.mem_cons.mp hb with rfl | hb
        · exact t4
        · exact I.ok.exfs b hb
  have sl : ∀ b o, s.heap.get? b = some o → b ∈ frs X.stack ∨ b ∈ X.fs → ∃ sl, h'.get? b = some { o with slots := sl } := fun b o e hb => by
    refine up b o e ?_
    rcases hb with hb | hb
    · obtain ⟨_, o', y, hd⟩ := I.stack.mem hb
      rw [e] at y; cases y; exact hd
    · obtain ⟨_, o', y, hd⟩ := I.funs.mem hb
      rw [e] at y; cases y; exact hd
  have J := I'.step (h' := h') (H' := H) (g' := s.gens) (t' := s.toks) (d' := s.drawn) (ch := [ea, T])
    (fun b hb => by
      rcases List.mem_cons.mp hb with rfl | hb
      · exact ⟨.inl List.mem_cons_self, e1, e2, fun p hp => (F.pn p hp).1⟩
      · rcases List.mem_cons.mp hb with rfl | hb
        · exact ⟨.inl (List.mem_cons_of_mem _ List.mem_cons_self), t1, t2, fun p hp => (F.pn p hp).2⟩
        · cases hb)
    (fun b o hL hf hc e n => sk b o e (fun z => (List.mem_cons.mp (I.stkSub b z)).elim hL hf) (fun z => hc (by simp [z])) (fun z => hc (by simp [z])))
    (fun b o _ hf _ e _ => sl b o e (.inr hf)) (fun b o _ _ n => n)
    (fun b o hc e => by
      by_cases z : b ∈ frs X.stack
      · obtain ⟨x, y⟩ := sl b o e (.inl z)
        exact ⟨_, y⟩
      · exact ⟨_, sk b o e z (fun z => hc (by simp [z])) (fun z => hc (by simp [z]))⟩)
    (fun _ _ e => e) (fun _ _ _ e => e) (fun b ps e => ⟨#[], by rw [Array.append_empty]; exact e⟩) (fun m hm => up.ns hm) hok' I.bare
  have J2 : Inv X pins σ H { s with heap := h' } := by
    refine ⟨I.ok, J.os, J.bare, un_ex_back J.base fun b o e hb => ?_, J.loc, J.cell, J.free, J.freeC, J.pin, J.hok, J.len⟩
    rcases List.mem_cons.mp hb with rfl | hb
    · rcases F.se with z | z
      · exact z
      · have e : X.s₀.heap.get? _ = some o := e
        rw [e] at z; cases z
    · rcases List.mem_cons.mp hb with rfl | hb
      · rcases F.sT with z | z
        · exact z
        · have e : X.s₀.heap.get? _ = some o := e
          rw [e] at z; cases z
      · exact hb
  refine ⟨J2, ?_⟩
  obtain ⟨T', fl2, hn⟩ := Fly.of tr
  obtain ⟨oe', vs', oT', ts', c0, he', hc', h0', hd', h1', ne', hT', hdT', h3'⟩ := id fl2
  by_cases q : T' = T
  · exact ⟨T', fl2, F.he, by rw [q]; exact F.hT, F.se, by rw [q]; exact F.sT, by rw [q]; exact F.pn⟩
  · have hTn : s.heap.get? T' = none := by
      cases z : s.heap.get? T' with
      | none => rfl
      | some o =>
        exfalso
        by_cases n : T' ∈ frs X.stack
        · obtain ⟨_, o', y, hdd⟩ := I.stack.mem n
          rw [z] at y; cases y
          obtain ⟨sl, y1⟩ := up T' o z hdd
          rw [y1] at hT'; cases hT'
          exact hdd ts' hdT'
        · rw [PySem.W.hideAll_get _ z (by simp [n, q, ne'])] at hn; cases hn
    exact ⟨T', fl2, F.he, hok_none I hTn, F.se, start_none I hTn, fun p hp => ⟨(F.pn p hp).1, fun z => by
      have := (I.pin p hp).1
      rw [z, hTn] at this; cases this⟩⟩
/-- an exception that left a call -/
theorem fly_after {s' : Shared} {E : XK} {e : Value} (I : Inv X pins σ H s) (h : CXR X.prog X.w X.stack H s E e s') :
    ∃ ea T C H', e = .ref ea ∧ Inv X pins σ H' s' ∧ FlyIn X pins H' s'.heap ea T (.ref C) .none ∧ E (.ref C) none H' := by
  obtain ⟨ea, T, C, H', rfl, os, bare, un, hok, fl, h1, h2, h3, h4, q⟩ := h
  refine ⟨ea, T, C, H', rfl, I.call' os un hok bare (fun b z => absurd z (by simp)), ⟨fl, h1, h2, start_none I h3, start_none I h4, fun p hp => ?_⟩, q⟩
  have hp := (I.pin p hp).1
  exact ⟨fun z => (by rw [z, h3] at hp; cases hp), fun z => (by rw [z, h4] at hp; cases hp)⟩
end
end BF
set_option Elab.async false
set_option linter.all false
set_option maxRecDepth 100000
namespace BF
open PySem PySem.Spec PyProof.Rows L2

/-- the context of a suite that handles the exception at ea -/
abbrev caught (X : Cx) (ea : Addr) (oe : Obj) : Cx := { X with A := X.A.mark (some (.ref ea)), calm := false, pn := (ea, oe) :: X.pn, xe := fun _ _ => False }
section
variable {X : Cx} {pins : List (Addr × Obj)} {σ : L2.St} {H : Hp} {s : Shared} {ea T : Addr} {cls fl : Value} {oe : Obj}
theorem inv_caught (I : Inv X pins σ H s) (F : FlyIn X pins H s.heap ea T cls fl) : ∃ oe vs, oe.cls = cls ∧ oe.data = .fields vs ∧ Inv (caught X ea oe) pins σ H s := by
  obtain ⟨oe, vs, oT, ts, b0, he, hc, h0, hd, h1, ne, hT, hdT, h3⟩ := id F.fly
  obtain ⟨e1, e2, e3, e4⟩ := fields_not_loc I he hd
  refine ⟨oe, vs, hc, hd, ⟨I.ok.mod, I.ok.kind, I.ok.glob, I.ok.blt, I.ok.above, I.ok.inj, I.ok.has, I.ok.cab, fun z => (by cases z), I.ok.frames, I.ok.stk, I.ok.exf, I.ok.bs, I.ok.bsz, I.ok.noex, I.ok.exfs, I.ok.funs, I.ok.frf⟩, I.os, I.bare, I.base, I.loc, I.cell, I.free, I.freeC, fun p hp => ?_, I.hok, I.len⟩
  have hp : p ∈ (ea, oe) :: (X.pn ++ pins) := hp
  rcases List.mem_cons.mp hp with rfl | hp
  · exact ⟨he, F.he, e1, e4, fun v z => (by rw [hd] at z; cases z)⟩
  · exact I.pin p hp
theorem inv_uncaught (ok : X.Ok) (I : Inv (caught X ea oe) pins σ H s) : Inv X pins σ H s :=
  ⟨ok, I.os, I.bare, I.base, I.loc, I.cell, I.free, I.freeC, fun p hp => I.pin p (List.mem_cons_of_mem _ hp), I.hok, I.len⟩
theorem sp_uncaught (ok : X.Ok) {D : Ends} {f : Flow} (h : SP (caught X ea oe) pins D f s) : SP X pins D f s := by
  cases f with
  | next => obtain ⟨σ', H', I, q⟩ := h; exact ⟨σ', H', inv_uncaught ok I, q⟩
  | brk => obtain ⟨σ', H', I, q⟩ := h; exact ⟨σ', H', inv_uncaught ok I, q⟩
  | cont => obtain ⟨σ', H', I, q⟩ := h; exact ⟨σ', H', inv_uncaught ok I, q⟩
  | ret u => obtain ⟨v, σ', H', I, r, q⟩ := h; exact ⟨v, σ', H', inv_uncaught ok I, r, q⟩
/-- the frames over the heap without the frames and the two records -/
theorem fly_frames (I : Inv X pins σ H s) (l : List Addr) : s.heap.FunFrames (PySem.W.hideAll s.heap (frs X.stack ++ l)) X.stack :=
  PySem.W.funFrames_hide I.stack fun env he a ha => List.mem_append_left _ (mem_frs he ha)
theorem fly_w (I : Inv X pins σ H s) (F : FlyIn X pins H s.heap ea T cls fl) : ∃ a0, s.heap.TracedAtW (PySem.W.hideAll s.heap (frs X.stack ++ [ea, T])) ea cls a0 fl :=
  F.fly.at (PySem.W.hideAll_none _ (by simp))
theorem fly_type {M : Model} (F : FlyIn X pins H s.heap ea T cls fl) : PySem.W.Looks M s.heap (typeOf (.ref ea)) cls := by
  obtain ⟨oe, vs, oT, ts, b0, he, hc, _⟩ := id F.fly
  subst hc
  exact (PySem.W.Looks.ld he).andThen .now
variable {C CX : Addr} {x : Str} {np hpos : Pos} {b₀ : Stmt} {suite : List Stmt} {D : Ends} {L : Addr}
/-- except C: suite -/
theorem catch_ok {E : Value → Shared → Prop} {ts : TS} (I : Inv X pins σ H s) (F : FlyIn X pins H s.heap ea T (.ref C) .none) (hst : X.stack = X.env :: X.outer) (hf : X.env.frame = some L) (hg : Gl X x) (hm : X.mg x = some (.ref CX)) (hx : PySem.W.exmOne X.K (.ref C) (.ref CX) = some true)
    (hs : ∀ oe vs, oe.cls = .ref C → oe.data = .fields vs → PSs (caught X ea oe) (b₀ :: suite) ts) (h : ts D σ H) (hdb : (x == ("__debug__" : Str)) = false := by decide) :
    wpAny (model X.prog X.w) X.A (noteFrame (.ref ea) X.env) (fun _ s₂ => wpAny (model X.prog X.w) X.A (setFlight (.ref ea) none) (fun _ s₃ =>
      wpAny (model X.prog X.w) X.A (handleBy (.ref ea) X.env [.ExceptHandler (some (.Name x np)) none (b₀ :: suite) hpos]) (SP X pins D) E s₃) E s₂) E s := by
  obtain ⟨a0, w0⟩ := fly_w I F
  refine wpAny_looks_onW (outer := X.outer) (L := L) (by rw [← hst]; exact I.ok.frames) hf (base := PySem.W.hideAll s.heap (frs X.stack ++ [ea, T])) (cls := .ref C) (a0 := a0)
    ⟨fun b o z => PySem.W.of_hideAll _ z, PySem.W.hideAll_none _ (by simp), by rw [← hst]; exact fly_frames I _, w0⟩ fun h2 hh2 up2 => ?_
  obtain ⟨I2, T2, F2⟩ := fly_step I F hh2.1 hh2.2.2.2 up2
  obtain ⟨a2, w2⟩ := fly_w I2 F2
  refine wpAny_landsW (base := PySem.W.hideAll h2 (frs X.stack ++ [ea, T2])) (l := X.stack) (L := L) (cls := .ref C) (a0 := a2) ⟨fun b o z => PySem.W.of_hideAll _ z, PySem.W.hideAll_none _ (by simp), fly_frames I2 _, w2⟩ fun h3 hh3 up3 => ?_
  obtain ⟨I3, T3, F3⟩ := fly_step I2 F2 hh3.1 hh3.2.2.2.at up3
  obtain ⟨a3, w3⟩ := fly_w I3 F3
  obtain ⟨oe3, vs3, c3, d3, J3⟩ := inv_caught I3 F3
  refine wpAny_handleBy_cons (codeAny_handlers_test (ld_glob (X := caught X ea oe3) J3 hg hm ?_ hdb)) (by intro q; cases q)
  refine PySem.W.Looks.here (PySem.W.exm_one I3.kIn (fly_type F3) hx) ?_
  refine codeAny_handlers_suite (lands_againW (base := PySem.W.hideAll h3 (frs X.stack ++ [ea, T3])) (l := X.stack) (cls := .ref C) (a0 := a3) ⟨fun b o z => PySem.W.of_hideAll _ z, PySem.W.hideAll_none _ (by simp), fly_frames I3 _, w3⟩ fun h4 hh4 up4 => ?_)
  obtain ⟨I4, T4, F4⟩ := fly_step I3 F3 hh4.1 hh4.2.2.2.at up4
  obtain ⟨oe, vs, c4, d4, J4⟩ := inv_caught I4 F4
  exact wpAny_mono (hs oe vs c4 d4 pins _ σ H D J4 h) (fun f s5 q => sp_uncaught I.ok q) fun _ _ z => z.elim
/-- the frame's names are forgotten -/
theorem inv_forget {h' : Heap} {m' : Str → Option Value} {t' : Nat} (I : Inv X pins σ H s) (hn : h'.Ns X.env.locals m') (hs : Heap.SameBut X.env.locals s.heap h') : Inv X pins (X.N.map fun _ => none) H { s with heap := h', toks := t' } := by
  have neL : ∀ b o, X.s₀.heap.get? b = some o → b ≠ X.env.locals := fun b o e => Nat.ne_of_lt (Nat.lt_of_lt_of_le (Heap.lt_size e) I.ok.above)
  refine ⟨I.ok, I.os, I.bare, ⟨fun b o e n hb hx => ?_, fun b o e n hb hx => ?_, I.base.free, fun b o e hx => ?_, I.base.tups, I.base.frzs, I.base.tbls⟩, ⟨m', hn, fun j y v' e1 e2 e3 => ?_⟩, fun y c e => ?_, I.free, I.freeC, fun p hp => ?_, fun b ob e => ?_, by simp⟩
  · exact (hs.2 b (neL b o e)).trans (I.base.keep b o e n hb hx)
  · obtain ⟨sl, e1⟩ := I.base.slot b o e n hb hx
    exact ⟨sl, (hs.2 b (neL b o e)).trans e1⟩
  · obtain ⟨o', e1⟩ := I.base.there b o e hx
    exact ⟨o', (hs.2 b (neL b o e)).trans e1⟩
  · rw [List.getElem?_map] at e2
    cases z : X.N[j]? with
    | none => rw [z] at e2; cases e2
    | some u => rw [z] at e2; cases e2
  · obtain ⟨w', z⟩ := I.cell y c e
    exact ⟨w', z.sameBut hs (I.cne y c e)⟩
  · obtain ⟨e, n, ne, nf, d⟩ := I.pin p hp
    exact ⟨(hs.2 p.1 ne).trans e, n, ne, nf, d⟩
  · refine (I.hok b ob e).stay (fun c w' hc q => (hs.2 c ?_).trans q) (fun _ q => q) fun _ _ q => q
    rintro rfl
    have hfree := I.free
    rcases hc with rfl | hc
    · rw [hfree] at e; cases e
    · rw [hfree] at hc; cases hc
/-- except C as n: a suite that returns -/
theorem catch_as {E : Value → Shared → Prop} {ts : TS} {i : Nat} {n : Str} (I : Inv X pins σ H s) (F : FlyIn X pins H s.heap ea T (.ref C) .none) (hst : X.stack = X.env :: X.outer) (hf : X.env.frame = some L) (hg : Gl X x) (hm : X.mg x = some (.ref CX)) (hx : PySem.W.exmOne X.K (.ref C) (.ref CX) = some true)
    (hN : X.N.Nodup) (hi : X.N[i]? = some n) (hl : X.env.scope.names.lookup n = some .local)
    (hs : ∀ oe vs, oe.cls = .ref C → oe.data = .fields vs → PSs (caught X ea oe) (b₀ :: suite) ts) (h : ts ⟨fun _ _ => False, D.rt, fun _ _ => False, fun _ _ => False⟩ (σ.set i (some (.ref ea))) H) (hdb : (x == ("__debug__" : Str)) = false := by decide) :
    wpAny (model X.prog X.w) X.A (noteFrame (.ref ea) X.env) (fun _ s₂ => wpAny (model X.prog X.w) X.A (setFlight (.ref ea) none) (fun _ s₃ =>
      wpAny (model X.prog X.w) X.A (handleBy (.ref ea) X.env [.ExceptHandler (some (.Name x np)) (some n) (b₀ :: suite) hpos]) (SP X pins D) E s₃) E s₂) E s := by
  obtain ⟨a0, w0⟩ := fly_w I F
  refine wpAny_looks_onW (outer := X.outer) (L := L) (by rw [← hst]; exact I.ok.frames) hf (base := PySem.W.hideAll s.heap (frs X.stack ++ [ea, T])) (cls := .ref C) (a0 := a0)
    ⟨fun b o z => PySem.W.of_hideAll _ z, PySem.W.hideAll_none _ (by simp), by rw [← hst]; exact fly_frames I _, w0⟩ fun h2 hh2 up2 => ?_
  obtain ⟨I2, T2, F2⟩ := fly_step I F hh2.1 hh2.2.2.2 up2
  obtain ⟨a2, w2⟩ := fly_w I2 F2
  refine wpAny_landsW (base := PySem.W.hideAll h2 (frs X.stack ++ [ea, T2])) (l := X.stack) (L := L) (cls := .ref C) (a0 := a2) ⟨fun b o z => PySem.W.of_hideAll _ z, PySem.W.hideAll_none _ (by simp), fly_frames I2 _, w2⟩ fun h3 hh3 up3 => ?_
  obtain ⟨I3, T3, F3⟩ := fly_step I2 F2 hh3.1 hh3.2.2.2.at up3
  obtain ⟨a3, w3⟩ := fly_w I3 F3
  obtain ⟨oe3, vs3, c3, d3, J3⟩ := inv_caught I3 F3
  refine wpAny_handleBy_cons (codeAny_handlers_test (ld_glob (X := caught X ea oe3) J3 hg hm ?_ hdb)) (by intro q; cases q)
  refine PySem.W.Looks.here (PySem.W.exm_one I3.kIn (fly_type F3) hx) ?_
  refine codeAny_handlers_suite_as (lands_againW (base := PySem.W.hideAll h3 (frs X.stack ++ [ea, T3])) (l := X.stack) (cls := .ref C) (a0 := a3) ⟨fun b o z => PySem.W.of_hideAll _ z, PySem.W.hideAll_none _ (by simp), fly_frames I3 _, w3⟩ fun h4 hh4 up4 => ?_)
  obtain ⟨I4, T4, F4⟩ := fly_step I3 F3 hh4.1 hh4.2.2.2.at up4
  obtain ⟨oe, vs, c4, d4, J4⟩ := inv_caught I4 F4
  refine store_ok (X := caught X ea oe) J4 hN hi (.inl hl) (v := .ref ea) rfl (fun s5 J5 => ?_) (.inr hl)
  refine wpAny_mono (hs oe vs c4 d4 pins _ _ H _ J5 h) (fun f s6 q => ?_) fun _ _ z => z.elim
  cases f with
  | next => obtain ⟨_, _, _, q⟩ := q; exact q.elim
  | brk => obtain ⟨_, _, _, q⟩ := q; exact q.elim
  | cont => obtain ⟨_, _, _, q⟩ := q; exact q.elim
  | ret u =>
    obtain ⟨v, σ', H', J6, r, q⟩ := q
    have I6 := inv_uncaught I.ok J6
    obtain ⟨m, hn, _⟩ := id I6.loc
    exact wpAny_nameGoes hl hn (by rw [I.ok.kind]; rfl) fun h' m' hn' hs' => ⟨v, _, H', inv_forget I6 hn' hs', r, q⟩
end

/-! ### try with one call for a body -/
def XP (X : Cx) (pins : List (Addr × Obj)) (σ : L2.St) (Ex : Addr → Hp → Prop) (e : Value) (s' : Shared) : Prop :=
  ∃ ea T C H', e = .ref ea ∧ Inv X pins σ H' s' ∧ FlyIn X pins H' s'.heap ea T (.ref C) .none ∧ Ex C H'
def PEX (X : Cx) (e : Expr) (t : L2.St → Hp → VK → (Addr → Hp → Prop) → Prop) : Prop :=
  ∀ (pins : List (Addr × Obj)) (s : Shared) (σ : L2.St) (H : Hp) (Q : VK) (Ex : Addr → Hp → Prop), Inv X pins σ H s → t σ H Q Ex → wpAny (model X.prog X.w) X.A (eval e X.env) (EP X pins σ Q) (XP X pins σ Ex) s
def PSX (X : Cx) (st : Stmt) (t : Ends → (Addr → Hp → Prop) → L2.St → Hp → Prop) : Prop :=
  ∀ (pins : List (Addr × Obj)) (s : Shared) (σ : L2.St) (H : Hp) (D : Ends) (Ex : Addr → Hp → Prop), Inv X pins σ H s → t D Ex σ H → wpAny (model X.prog X.w) X.A (exec st X.env) (SP X pins D) (XP X pins σ Ex) s
section
variable {X : Cx} {k : Nat} {f : Addr} {fd : FuncData} {ps : List Str} {sp : Sp} {dvs : List V} {ds : List Value} {x : Str} {p pos hpos tpos np : Pos} {e : Expr} {es : List Expr} {t : TA}
theorem pex_call (F : FnOk X.prog X.w X.K X.mg X.base (CXR X.prog X.w) k f fd ps sp) (hr : Room k X.A) (hg : Gl X x) (hm : X.mg x = some (.ref f)) (hk : PySem.W.keepIn X.K (.ref f) = true) (hb : Binds X.K fd ps ds) (hd : Vals dvs ds)
    (ha : PA X.nox (e :: es) t) (hdb : (x == ("__debug__" : Str)) = false := by decide) (he : starEach (e :: es) X.env = (false, eval e X.env) :: starEach es X.env := by rfl) (hpl : (backTo pos (starEach es X.env)).any (·.1) = false := by rfl) :
    PEX X (.Call (.Name x p) (e :: es) [] pos) (fun σ H Q Ex => t σ H fun vs H1 => sp (vs ++ dvs) H1 Q fun c _ H2 => ∃ C, c = .ref C ∧ Ex C H2) := by
  intro pins s σ H Q Ex I h
  refine wpAny_Call_Name_kw (ld_glob I hg hm ?_ hdb)
  have hh := ha pos pins s σ H _ (I.wish _) h
  refine PySem.W.callWith_K (h₀ := X.base) I.ok.mod.kin hk (wpAny_mono hh (fun us s1 q => ?_) fun _ _ z => z.elim) he hpl
  obtain ⟨vs, H1, I1, r, q⟩ := q
  have I1 := I1.unwish
  refine ⟨I1.kIn, ?_⟩
  have r2 : Vals (vs ++ dvs) (us ++ ds) := r.append hd
  have hl : (us ++ ds).length = ps.length := by rw [← r2.length]; exact F.len _ _ _ _ q
  refine wpAny_call (codeAny_mono (F.run X.A X.stack s1 H1 ⟨us, []⟩ (us ++ ds) (vs ++ dvs) Q _ hr I1.env0 (hb s1 us I1.kIn hl) r2 q) fun r s' hq => ?_)
  cases r with
  | error e =>
    have hq : CXR X.prog X.w X.stack H1 s1 (fun c _ H2 => ∃ C, c = .ref C ∧ Ex C H2) e s' := hq
    obtain ⟨ea, T, C, H', he, J, Fl, C', hc, hx⟩ := fly_after I1 hq
    cases hc
    exact ⟨ea, T, C, H', he, J, Fl, hx⟩
  | ok fl =>
    cases fl with
    | ret u => exact I1.after hq
    | next => exact False.elim hq
    | brk => exact False.elim hq
    | cont => exact False.elim hq
theorem psx_set {i : Nat} {te} {pos' : Pos} (hN : X.N.Nodup) (hi : X.N[i]? = some x) (hx : Loc X.env.scope x) (he : PEX X e te) (hs : swapsWith e (some (.Name x pos')) pos.line X.env = pure false := by rfl) (hf : X.fn x = true ∨ X.env.scope.names.lookup x = some .local := by first | exact .inl rfl | exact .inr rfl | assumption) :
    PSX X (.Assign [.Name x pos'] e pos) (fun D Ex σ H => te σ H (fun v H1 => D.nx (σ.set i (some v)) H1) Ex) := by
  intro pins s σ H D Ex I h
  refine wpAny_Assign_Name (thn (he pins s σ H _ Ex I h) fun v s1 ⟨y, H1, I1, r1, q1⟩ => ?_) hs
  exact store_ok I1 hN hi hx r1 (fun s2 I2 => ⟨_, H1, I2, q1⟩) hf
theorem psx_expr {te} (he : PEX X e te) (hs : swapsWith e none pos.line X.env = pure false := by rfl) : PSX X (.Expr e pos) (fun D Ex σ H => te σ H (fun _ H1 => D.nx σ H1) Ex) := by
  intro pins s σ H D Ex I h
  exact wpAny_Expr_any (thn (he pins s σ H _ Ex I h) fun v s1 ⟨x, H1, I1, r1, q1⟩ => ⟨σ, H1, I1, q1⟩) I.quiet hs
variable {st b₀ : Stmt} {suite : List Stmt} {tb : Ends → (Addr → Hp → Prop) → L2.St → Hp → Prop} {C CX L : Addr}
theorem ps_try {ts : TS} (hb : PSX X st tb) (hst : X.stack = X.env :: X.outer) (hf : X.env.frame = some L) (hg : Gl X x) (hm : X.mg x = some (.ref CX)) (hx : PySem.W.exmOne X.K (.ref C) (.ref CX) = some true)
    (hs : ∀ ea oe, PSs (caught X ea oe) (b₀ :: suite) ts) (hdb : (x == ("__debug__" : Str)) = false := by decide) :
    PS X (.Try [st] [.ExceptHandler (some (.Name x np)) none (b₀ :: suite) hpos] [] [] tpos) (fun D σ H => tb D (fun C' H' => C' = C ∧ ts D σ H') σ H) := by
  intro pins s σ H D I h
  refine wpAny_Try_except (wpAny_execs_cons (wpAny_mono (hb pins s σ H D _ I h) (fun f s1 q => ?_) fun v s1 q => ?_))
  · cases f with
    | next => exact wpAny_execs_nil (wpAny_execs_nil q)
    | ret v => exact q
    | brk => exact q
    | cont => exact q
  · obtain ⟨ea, T, C', H', rfl, J, F, rfl, q⟩ := q
    exact catch_ok J F hst hf hg hm hx (fun oe vs _ _ => hs ea oe) q hdb
theorem ps_try_as {ts : Addr → TS} {i : Nat} {n : Str} (hb : PSX X st tb) (hst : X.stack = X.env :: X.outer) (hf : X.env.frame = some L) (hg : Gl X x) (hm : X.mg x = some (.ref CX)) (hx : PySem.W.exmOne X.K (.ref C) (.ref CX) = some true)
    (hN : X.N.Nodup) (hi : X.N[i]? = some n) (hl : X.env.scope.names.lookup n = some .local)
    (hs : ∀ ea oe vs, oe.cls = .ref C → oe.data = .fields vs → PSs (caught X ea oe) (b₀ :: suite) (ts ea)) (hdb : (x == ("__debug__" : Str)) = false := by decide) :
    PS X (.Try [st] [.ExceptHandler (some (.Name x np)) (some n) (b₀ :: suite) hpos] [] [] tpos) (fun D σ H => tb D (fun C' H' => C' = C ∧ ∀ ea, ts ea ⟨fun _ _ => False, D.rt, fun _ _ => False, fun _ _ => False⟩ (σ.set i (some (.ref ea))) H') σ H) := by
  intro pins s σ H D I h
  refine wpAny_Try_except (wpAny_execs_cons (wpAny_mono (hb pins s σ H D _ I h) (fun f s1 q => ?_) fun v s1 q => ?_))
  · cases f with
    | next => exact wpAny_execs_nil (wpAny_execs_nil q)
    | ret v => exact q
    | brk => exact q
    | cont => exact q
  · obtain ⟨ea, T, C', H', rfl, J, F, rfl, q⟩ := q
    exact catch_as J F hst hf hg hm hx hN hi hl (fun oe vs => hs ea oe vs) (q ea) hdb
end
end BF
set_option Elab.async false
set_option linter.all false
set_option maxRecDepth 100000
namespace BF
open PySem PySem.Spec PyProof.Rows L2 PySem.W

/-! ### isinstance of an exception -/
structure ExcK (K : Frag) (C : Addr) : Prop where
  ga : findIn K (.ref C) "__getattribute__" = some (some (.builtin "BaseException.__getattribute__"))
  na : findIn K (.ref C) "__getattr__" = some none
  cl : findIn K (.ref C) "__class__" = some (some (.builtin "object.__class__"))
  mo : mroIn K C (.type "object") = some true
  mb : mroIn K C (.type "BaseException") = some true
  cs : (clsIn K C).isSome = true
section
variable {prog : Program} {w : World} {A : Around} {E : Value → Shared → Prop} {h : Heap} {g : Array GenState} {d : Drawn} {t : Nat} {os : OsState} {a C : Addr} {o : Obj} {vs : Array Value} {K : Frag}
theorem xc_check {M : Model} {nameV : Value} {Q : Unit → Shared → Prop} (Z : ExcK K C) (X : K.In h) (hx : h.get? a = some o) (hc : o.cls = .ref C) (hq : Q () ⟨h, g, d, t, os⟩) :
    wpAny M A (checkBuiltinCall "BaseException.__getattribute__" ⟨[.ref a, nameV], []⟩) Q E ⟨h, g, d, t, os⟩ := by
  have hk : builtinKind "BaseException.__getattribute__" = some .slot := by decide +kernel
  have hsplit : splitId "BaseException.__getattribute__" = some ("BaseException", "__getattribute__") := by decide +kernel
  have hcB := looks_mroIn (M := M) X Z.mb
  have ha := F.args_bexc_ga (.ref a) nameV
  simp only [checkBuiltinCall, hk, hsplit]
  refine wpAny_bind ?_
  · unfold isInstance
    repeat (first | (with_reducible refine wpAny_loadPart_at hx ?_; rw [hc]) | with_reducible refine hcB.at ?_ | wp_step)
    exact hq
theorem xc_get {R : Result → Shared → Prop} (Z : ExcK K C) (X : K.In h) (hx : h.get? a = some o) (hc : o.cls = .ref C) (hq : R (.ok (.ret (.ref C))) ⟨h, g, d, t, os⟩) :
    codeAny (model prog w) A (.call (.builtin "getset_descriptor.__get__") ⟨[.builtin "object.__class__", .ref a, .ref C], []⟩) R ⟨h, g, d, t, os⟩ := by
  have hT5 : (⟨h, g, d, t, os⟩ : Shared).TypeIs (.builtin "object.__class__") "getset_descriptor" := F.typeOf_object_class
  have hcB := looks_mroIn (M := model prog w) X Z.mo
  rw [← F.owner_object_class] at hcB
  refine codeAny_call_builtin F.slot_gs_get.plain F.entry_gs_get (F.slot_gs_get.check _ _ _ _ _ _ _ _ hT5 (F.args_gs_get _ _ _) ?_)
  repeat (any_goals (first | assumption | (with_reducible refine wpAny_loadPart_at hx ?_; rw [hc]) | with_reducible refine hcB.at ?_ | wp_step))
  refine ⟨Code.quiet_builtin _ (by decide +kernel), codeAny_builtin F.entry_object_class ?_⟩
  repeat (any_goals (first | assumption | (with_reducible refine wpAny_loadPart_at hx ?_; rw [hc]) | wp_step))
theorem xc_entry {tk : Tok} {Q : Fin → Shared → Prop} (Z : ExcK K C) (X : K.In h) (hx : h.get? a = some o) (hc : o.cls = .ref C) (hq : Q (.done (.ret (.ref C))) ⟨h, g, d, t, os⟩) :
    wpAny (model prog w) A (Builtin.«object.__getattribute__» ⟨[.ref a, .str "__class__" tk], []⟩) Q E ⟨h, g, d, t, os⟩ := by
  have hT5 : (⟨h, g, d, t, os⟩ : Shared).TypeIs (.builtin "object.__class__") "getset_descriptor" := F.typeOf_object_class
  have f5 := F.typeOf_object_class
  have f6 := F.slot_gs_get.lookup
  have f7 := F.slot_gs_set.lookup
  have L1 := looks_findIn (M := model prog w) X Z.cl
  repeat (any_goals (first | assumption | (with_reducible refine wpAny_loadPart_at hx ?_; rw [hc]) | with_reducible refine L1.at ?_ | wp_step))
  refine xc_get Z X hx hc ?_
  repeat (any_goals (first | assumption | wp_step))
theorem xc_call {tk : Tok} {R : Result → Shared → Prop} (Z : ExcK K C) (X : K.In h) (hx : h.get? a = some o) (hc : o.cls = .ref C) (hq : R (.ok (.ret (.ref C))) ⟨h, g, d, t, os⟩) :
    codeAny (model prog w) A (.call (.builtin "BaseException.__getattribute__") ⟨[.ref a, .str "__class__" tk], []⟩) R ⟨h, g, d, t, os⟩ :=
  codeAny_call_builtin F.excAttr_ValueError.ga.plain F.entry_bexc_ga (xc_check Z X hx hc (xc_entry Z X hx hc hq))
theorem xc_by {tk : Tok} {fill expr : Bool} {Q : Value → Shared → Prop} (Z : ExcK K C) (X : K.In h) (hx : h.get? a = some o) (hc : o.cls = .ref C) (hq : Q (.ref C) ⟨h, g, d, t, os⟩) :
    wpAny (model prog w) A (getAttrBy (.ref a) (.str "__class__" tk) fill expr) Q E ⟨h, g, d, t, os⟩ := by
  have f3 := F.excAttr_ValueError.ga.bind (.ref a)
  have hx0 : (expr && onTheHeap (Value.builtin "BaseException.__getattribute__")) = false := by cases expr <;> rfl
  have hx2 : (Value.builtin "BaseException.__getattribute__" == Value.builtin "object.__getattribute__") = false := by decide +kernel
  have hx1 : (onTheHeap (Value.ref C) && Value.builtin "BaseException.__getattribute__" == Value.builtin "object.__getattribute__") = false := by rw [hx2]; rfl
  have L1 := looks_findIn (M := model prog w) X Z.ga
  have L2 := looks_findIn (M := model prog w) X Z.na
  repeat (any_goals (first | assumption | (with_reducible refine wpAny_loadPart_at hx ?_; rw [hc]) | with_reducible refine L1.at ?_ | with_reducible refine L2.at ?_ | wp_step))
  refine xc_call Z X hx hc ?_
  repeat (any_goals (first | assumption | wp_step))
theorem xc_attr {Q : Option Value → Shared → Prop} (Z : ExcK K C) (X : K.In h) (hx : h.get? a = some o) (hc : o.cls = .ref C) (hq : Q (some (.ref C)) ⟨h, g, d, t + 1, os⟩) :
    wpAny (model prog w) A (getAttr? (.ref a) "__class__") Q E ⟨h, g, d, t, os⟩ := by
  unfold getAttr? getAttrBy?
  repeat (any_goals (first | assumption | with_reducible apply xc_by Z X hx hc | wp_step))
/-- an exception that lies at a -/
def ExcAt (a C : Addr) (h : Heap) : Prop := ∃ o, h.get? a = some o ∧ o.cls = .ref C
theorem kitx_exc (Z : ExcK K C) : KitX K (.ref a) (.ref C) (ExcAt a C) where
  ty := fun _ _ _ ⟨o, hx, hc⟩ => hc ▸ (Looks.ld hx).andThen .now
  it := fun _ _ X _ => by
    obtain ⟨cdD, hcD⟩ := Option.isSome_iff_exists.mp Z.cs
    unfold clsIn at hcD
    split at hcD
    · rename_i c' d' cd' sl' ho
      intro A' Q' E' s' k q
      unfold isType loadHead
      exact wpAny_bind (wpAny_loadPart (k _ _ (X _ _ ho)) (wpAny_pure q))
    · cases hcD
  ne := fun h tp dd its n sl X htp => by
    obtain ⟨cdD, hcD⟩ := Option.isSome_iff_exists.mp Z.cs
    refine Bool.eq_false_iff.mpr fun q => ?_
    have e : C = tp := Value.ref.inj (beq_iff_eq.mp q)
    subst e
    unfold clsIn at hcD
    split at hcD
    · rename_i c' d' cd' sl' ho
      have z := (X _ _ ho).symm.trans htp
      cases z
    · cases hcD
  ca := fun {_ _ _ _ _ s} X ⟨o, hx, hc⟩ k => by
    obtain ⟨h, g, d, t, os⟩ := s
    exact xc_attr Z X hx hc k
end
section
variable {X : Cx} {ea C : Addr} {oe : Obj}
theorem call_isiX (Z : ExcK X.K C) (hp : (ea, oe) ∈ X.pn) (hc : oe.cls = .ref C) : CallR X (.builtin "isinstance") (fun xs H Q => ∃ c b, xs = [.ref ea, c] ∧ ((∃ D, c = .ref D ∧ kitOne X.K (.ref C) (.ref D) = some b) ∨ ∃ n, c = .ty n ∧ kitOne X.K (.ref C) (.type n) = some b) ∧ Q (.bl b) H) := by
  intro pins s σ H xs us Q I r h
  obtain ⟨c, b, rfl, k, q⟩ := h
  obtain ⟨u, u', rfl, ru, rc⟩ := vals2 r
  cases (show u = Value.ref ea from ru)
  have he : ExcAt ea C s.heap := ⟨oe, (I.pin _ (List.mem_append_left _ hp)).1, hc⟩
  have hne : Value.ref ea ≠ .builtin "__main__.__loader__#opaque" := by intro z; cases z
  rcases k with ⟨D, rfl, k⟩ | ⟨n, rfl, k⟩
  · cases (show u' = Value.ref D from rc)
    exact kia_one (kitx_exc Z) I.kIn he k hne fun tk => ⟨.bl b, H, I.tok tk, rfl, q⟩
  · cases (show u' = Value.type n from rc)
    exact kia_one (kitx_exc Z) I.kIn he k hne fun tk => ⟨.bl b, H, I.tok tk, rfl, q⟩
end
end BF
set_option Elab.async false
set_option linter.all false
set_option maxRecDepth 100000
namespace BF
open PySem PySem.Spec PyProof.Rows L2
open Sem (wp)

/-! ### list(it) of an iterator; list(d) -/
section
variable {prog : Program} {w : World} {A : Around} {E : Value → Shared → Prop} {s : Shared} {T : String} {I d : Addr} {n : Nat} {P : Nat → Value → Prop} {St : Nat → Heap → Prop}
end
namespace RV
end RV
section
variable {prog : Program} {w : World}
end
end BF
set_option Elab.async false
set_option linter.all false
set_option maxRecDepth 100000
namespace BF
open PySem PySem.Spec PyProof.Rows L2
open Sem (wp)
section
variable {prog : Program} {w : World}
end
section
variable {X : Cx} {p p' pos pos' : Pos} {e : Expr} {te : TE}
end
/-! ### a def that may raise -/
section
variable {P : Program} {w : World} {K : PySem.W.Frag} {mg : Str → Option Value} {base : Heap}
theorem fun_okR {x qual : Str} {st : Stmt} {f : Addr} {fd : FuncData} {N ps : List Str} {k : Nat} {sp : Sp} (F : Fun K x qual st f fd) (S : FnScope N ps (defScope st)) (len : ∀ vs H Q E, sp vs H Q E → vs.length = ps.length)
    (hbody : ∀ (cdv : Value) (A : Around) (outer : List Env) (s : Shared) (H : Hp) (vs : List V) (Q : VK) (E : XK), Room k (A.deeper (envOfC qual (defScope st) s.heap.objs.size f cdv)) → sp vs H Q E →
      ∃ t, PSs (cxOf (CXR P w) P w K mg base N qual (defScope st) f cdv A outer s H E) (defBody st) t ∧ t { nx := fun _ H' => Q .non H', rt := Q } (start N vs) H) : FnOk P w K mg base (CXR P w) (k + 1) f fd ps sp := by
  obtain ⟨oc, od, kV, doc, pm, an, cdv, ct, osl, rfl, lk, hcd⟩ := F.ex
  exact fn_of lk hcd S len fun A outer s H vs Q E hr hsp => hbody cdv A outer s H vs Q E hr hsp
def CalX (P : Program) (w : World) (K : PySem.W.Frag) (mg : Str → Option Value) (base : Heap) (k : Nat) (x : Str) (ps : List Str) (sp : Sp) : Prop :=
  ∃ (f : Addr) (fd : FuncData), FnOk P w K mg base (CXR P w) k f fd ps sp ∧ Binds K fd ps [] ∧ PySem.W.keepIn K (.ref f) = true ∧ mg x = some (.ref f)
end
section
variable {X : Cx} {k : Nat} {x : Str} {ps : List Str} {sp : Sp} {p pos : Pos} {e : Expr} {es : List Expr} {t : TA}
theorem pex_cal (C : CalX X.prog X.w X.K X.mg X.base k x ps sp) (hr : Room k X.A) (ha : PA X.nox (e :: es) t) (hg : Gl X x := by rfl) (hdb : (x == ("__debug__" : Str)) = false := by decide)
    (he : starEach (e :: es) X.env = (false, eval e X.env) :: starEach es X.env := by rfl) (hpl : (backTo pos (starEach es X.env)).any (·.1) = false := by rfl) :
    PEX X (.Call (.Name x p) (e :: es) [] pos) (fun σ H Q Ex => t σ H fun vs H1 => sp (vs ++ []) H1 Q fun c _ H2 => ∃ C, c = .ref C ∧ Ex C H2) := by
  obtain ⟨f, fd, F, b, kp, m⟩ := C
  exact pex_call F hr hg m kp b .nil ha hdb he hpl
end
end BF
namespace BF
open PySem L2
theorem call_isiK {X : Cx} {K : PySem.W.Frag} {ea C : Addr} {oe : Obj} (Z : ExcK K C) (hp : (ea, oe) ∈ X.pn) (hc : oe.cls = .ref C) (hK : X.K = K := by rfl) : CallR X (.builtin "isinstance") (fun xs H Q => ∃ c b, xs = [.ref ea, c] ∧ ((∃ D, c = .ref D ∧ PySem.W.kitOne K (.ref C) (.ref D) = some b) ∨ ∃ n, c = .ty n ∧ PySem.W.kitOne K (.ref C) (.type n) = some b) ∧ Q (.bl b) H) := by
  subst hK
  exact call_isiX Z hp hc
theorem pe_cls {X : Cx} {x : Str} {a : Addr} {pos : Pos} (hm : X.mg x = some (.ref a)) (hg : Gl X x := by rfl) (hd : (x == ("__debug__" : Str)) = false := by decide) : PE X (.Name x pos) (tC (.ref a)) := pe_glob hg hm rfl hd
theorem bt_ValueError : bootBuiltins "ValueError" = some (.type "ValueError") := by decide +kernel
end BF
set_option Elab.async false
set_option linter.all false
set_option maxRecDepth 100000
namespace BF
open PySem PySem.Spec PyProof.Rows L2

/-! ### an exception that passes through a def -/
section
variable {P : Program} {w : World} {K : PySem.W.Frag} {mg : Str → Option Value} {base : Heap} {N : List Str} {qual : Str} {scope : Scope} {f : Addr} {cd : Value} {A : Around} {outer : List Env} {s0 : Shared} {H0 : Hp} {E : XK}
theorem passes_R : Passes (CXR P w) (cxOf (CXR P w) P w K mg base N qual scope f cd A outer s0 H0 E) E := by
  intro pins σ H s e s' I hc
  obtain ⟨ea, T, C, H', rfl, J, F, q⟩ := fly_after I hc
  obtain ⟨a0, w0⟩ := fly_w J F
  refine wpAny_leaves_onW (L := s0.heap.objs.size) (outer := outer) (base := PySem.W.hideAll s'.heap (frs (envOfC qual scope s0.heap.objs.size f cd :: outer) ++ [ea, T])) (cls := .ref C) (a0 := a0) I.ok.frames rfl
    ⟨fun b o z => PySem.W.of_hideAll _ z, PySem.W.hideAll_none _ (by simp), fly_frames J _, w0⟩ fun h2 hf up => ?_
  obtain ⟨J2, T2, F2⟩ := fly_step J F hf.1 hf.2.2.2.at up
  have s0n : ∀ b, (b ∈ ([] : List Addr) ∨ s0.heap.get? b = none) → s0.heap.get? b = none := fun b hb => hb.elim (fun z => absurd z (by simp)) id
  exact ⟨ea, T2, C, H', rfl, J2.os, J2.bare, J2.base, J2.hok, F2.fly, F2.he, F2.hT, s0n _ F2.se, s0n _ F2.sT, q⟩
end
def MtdX (P : Program) (w : World) (K : PySem.W.Frag) (mg : Str → Option Value) (base : Heap) (k : Nat) (C : Addr) (m : Str) (ps : List Str) (sp : Sp) : Prop :=
  ∃ (f : Addr) (fd : FuncData), FnOk P w K mg base (CXR P w) k f fd ps sp ∧ Binds K fd ps [] ∧ Meth K C m f ∧ Cls K C
section
variable {P : Program} {w : World} {K : PySem.W.Frag} {mg : Str → Option Value} {base : Heap} {N : List Str} {qual : Str} {scope : Scope} {ff : Addr} {cd : Value} {A : Around} {outer : List Env} {s0 : Shared} {H0 : Hp} {E : XK}
variable {k : Nat} {x m : Str} {ps : List Str} {sp : Sp} {p pos apos : Pos} {o e : Expr} {es : List Expr} {t : TA} {ta : TE} {C : Addr}
theorem pe_mx0 {pl : Sem Bool} (M : MtdX P w K mg base k C m ps sp) (hr : Room k (cxOf (CXR P w) P w K mg base N qual scope ff cd A outer s0 H0 E).A) (he : PE (cxOf (CXR P w) P w K mg base N qual scope ff cd A outer s0 H0 E) o ta)
    (ht : eval (.Call (.Attribute o m apos) [] [] pos) (cxOf (CXR P w) P w K mg base N qual scope ff cd A outer s0 H0 E).env = (do
      let ov ← eval o (cxOf (CXR P w) P w K mg base N qual scope ff cd A outer s0 H0 E).env
      standAt apos.atName
      let (f, first) ← holding [ov] (getMethod ov m pl)
      callWith pos f first (backTo pos (starEach [] (cxOf (CXR P w) P w K mg base N qual scope ff cd A outer s0 H0 E).env)) (backToKw pos (keywordEach [] (cxOf (CXR P w) P w K mg base N qual scope ff cd A outer s0 H0 E).env))) := by rfl) :
    PE (cxOf (CXR P w) P w K mg base N qual scope ff cd A outer s0 H0 E) (.Call (.Attribute o m apos) [] [] pos) (tMeth C m sp [] E ta tNil) := by
  obtain ⟨f, fd, F, b, mm, c⟩ := M
  exact pe_meth0 (X := (cxOf (CXR P w) P w K mg base N qual scope ff cd A outer s0 H0 E)) (pl := pl) he c mm F hr b .nil passes_R ht
end
end BF
set_option Elab.async false
set_option linter.all false
namespace BF
open PySem L2
/-- the classes of exceptions, where NoTerm is raised -/
structure ErT (K : PySem.W.Frag) (mg : Str → Option Value) (aNoTerm aNoPart aFormError : Addr) : Prop where
  b_ValueError : mg "ValueError" = none
  mg_NoPart : mg "NoPart" = some (.ref aNoPart)
  mg_NoTerm : mg "NoTerm" = some (.ref aNoTerm)
  mg_FormError : mg "FormError" = some (.ref aFormError)
  ex_NoTerm : PySem.W.excIn K aNoTerm [.type "ValueError", .type "Exception", .type "BaseException", .type "object"] "ValueError.__new__" = true
  xm_NoTerm_NoTerm : PySem.W.exmOne K (.ref aNoTerm) (.ref aNoTerm) = some true
  xm_NoTerm_FormError : PySem.W.exmOne K (.ref aNoTerm) (.ref aFormError) = some true
  ek : ExcK K aNoTerm
  k1 : PySem.W.kitOne K (.ref aNoTerm) (.ref aNoTerm) = some true
  k2 : PySem.W.kitOne K (.ref aNoTerm) (.ref aNoPart) = some false
  k3 : PySem.W.kitOne K (.ref aNoTerm) (.type "ValueError") = some true
theorem tSeq_cut {t u : TS} {D : Ends} {σ : L2.St} {H : Hp} (Pv : L2.St → Hp → Prop) (key : ∀ σ' H', Pv σ' H' → u D σ' H') (main : (∀ σ' H', Pv σ' H' → u D σ' H') → t { D with nx := u D } σ H) : tSeq t u D σ H := main key
end BF
set_option Elab.async false
set_option linter.all false
set_option maxRecDepth 100000
namespace BF
open PySem PySem.Spec PyProof.Rows L2

theorem upd_self {H : Hp} {p : Addr} {o : HO} (h : H p = some o) : upd H p o = H := by
  funext b
  unfold upd
  split
  · rename_i e; rw [e, h]
  · rfl
/-! ### the reader's object -/
def fldsR (L : Str) (i : Nat) (b : Addr) : List (Str × V) := [("line", .str L), ("place", .int (i : Int)), ("begun", .ref b)]
theorem ne_lp : ¬ (("line" : Str) = "place") := by decide +kernel
theorem ne_lb : ¬ (("line" : Str) = "begun") := by decide +kernel
theorem ne_pb : ¬ (("place" : Str) = "begun") := by decide +kernel
theorem put_place {L : Str} {i j : Nat} {b : Addr} {z : Int} (h : z = (j : Int)) : putF "place" (.int z) (fldsR L i b) = fldsR L j b := by
  subst h
  unfold fldsR
  simp only [putF, if_neg ne_lp, if_true]
theorem init_flds (L : Str) (b : Addr) : putF "begun" (.ref b) (putF "place" (.int 0) (putF "line" (.str L) [])) = fldsR L 0 b := by
  unfold fldsR
  simp only [putF, if_neg ne_lp, if_neg ne_lb, if_neg ne_pb]
  rfl
theorem lk_line {L : Str} {i : Nat} {b : Addr} : (fldsR L i b).lookup ("line" : Str) = some (V.str L) := by
  unfold fldsR
  rw [List.lookup_cons]
  have e : ((Str.ofString "line") == (Str.ofString "line")) = true := by decide +kernel
  rw [e]
theorem lk_place {L : Str} {i : Nat} {b : Addr} : (fldsR L i b).lookup ("place" : Str) = some (V.int (i : Int)) := by
  unfold fldsR
  rw [List.lookup_cons, List.lookup_cons]
  have e : ((Str.ofString "place") == (Str.ofString "line")) = false := by decide +kernel
  have e2 : ((Str.ofString "place") == (Str.ofString "place")) = true := by decide +kernel
  rw [e, e2]
theorem lk_begun {L : Str} {i : Nat} {b : Addr} : (fldsR L i b).lookup ("begun" : Str) = some (V.ref b) := by
  unfold fldsR
  rw [List.lookup_cons, List.lookup_cons, List.lookup_cons]
  have e : ((Str.ofString "begun") == (Str.ofString "line")) = false := by decide +kernel
  have e2 : ((Str.ofString "begun") == (Str.ofString "place")) = false := by decide +kernel
  have e3 : ((Str.ofString "begun") == (Str.ofString "begun")) = true := by decide +kernel
  rw [e, e2, e3]
theorem lk_no {L : Str} {i : Nat} {b : Addr} {m : Str} (h1 : (m == "line") = false) (h2 : (m == "place") = false) (h3 : (m == "begun") = false) : (fldsR L i b).lookup m = none := by
  unfold fldsR
  rw [List.lookup_cons, List.lookup_cons, List.lookup_cons, h1, h2, h3]
  rfl
theorem cutS_cps (z : Str) (i j : Nat) : (cutS z i j).cps.toList = (z.cps.toList.drop i).take (j - i) := by unfold cutS; simp
theorem str_ext {x y : Str} (h : x.cps.toList = y.cps.toList) : x = y := by
  cases x; cases y
  congr
  exact Array.ext' h
def rg (a b c : Nat) : Bool := decide (a ≤ c) && decide (c ≤ b)
theorem le_one {a c : Nat} : (!decide (([c] : List Nat) < [a])) = decide (a ≤ c) := by
  rw [StrLaws.lt_cons_cons]
  have : decide (([] : List Nat) < []) = false := by simp
  rw [this, Bool.and_false, Bool.or_false]
  by_cases h : c < a
  · rw [decide_eq_true h, decide_eq_false (by omega)]; rfl
  · rw [decide_eq_false h, decide_eq_true (by omega)]; rfl
theorem le_nil {a : Nat} : (!decide (([] : List Nat) < [a])) = false := by simp
theorem take_takeWhile {p : Nat → Bool} : ∀ l : List Nat, l.take (l.takeWhile p).length = l.takeWhile p
  | [] => rfl
  | c :: r => by
    rw [List.takeWhile_cons]
    split
    · rw [List.length_cons, List.take_succ_cons, take_takeWhile r]
    · rfl
/-- what comes behind the first k of those that p takes -/
theorem drop_lt {p : Nat → Bool} : ∀ (l : List Nat) (k : Nat), k < (l.takeWhile p).length → ∃ c r, l.drop k = c :: r ∧ p c = true
  | [], k, h => by simp at h
  | c :: r, k, h => by
    rw [List.takeWhile_cons] at h
    split at h
    · rename_i hc
      cases k with
      | zero => exact ⟨c, r, rfl, hc⟩
      | succ k =>
        rw [List.length_cons] at h
        exact drop_lt r k (by omega)
    · simp at h
theorem drop_eq {p : Nat → Bool} : ∀ (l : List Nat), l.drop (l.takeWhile p).length = [] ∨ ∃ c r, l.drop (l.takeWhile p).length = c :: r ∧ p c = false
  | [] => .inl rfl
  | c :: r => by
    rw [List.takeWhile_cons]
    split
    · rw [List.length_cons, List.drop_succ_cons]
      exact drop_eq r
    · rename_i hc
      exact .inr ⟨c, r, rfl, by simpa using hc⟩
theorem tw_le {p : Nat → Bool} (l : List Nat) : (l.takeWhile p).length ≤ l.length := (List.takeWhile_sublist p).length_le
theorem stop_tw {p : Nat → Bool} {a k : List Nat} (ha : ∀ c ∈ a, p c = true) (hk : Stop k) (h44 : p 44 = false) (h41 : p 41 = false) : (a ++ k).takeWhile p = a := by
  refine takeWhile_stop ha ?_
  rcases hk with rfl | ⟨r, rfl | rfl⟩
  · exact .inl rfl
  · exact .inr ⟨44, r, rfl, h44⟩
  · exact .inr ⟨41, r, rfl, h41⟩
end BF
set_option Elab.async false
set_option linter.all false
set_option maxRecDepth 100000
namespace BF
open PySem PySem.Spec PyProof.Rows L2

theorem numS_split (n : Int) : ∃ (sg : List Nat) (m : Nat), numS n = sg ++ figs m ∧ ((sg = [] ∧ n = (m : Int)) ∨ (sg = [45] ∧ n = -(m : Int) ∧ m ≠ 0)) := by
  cases n with
  | ofNat m => exact ⟨[], m, numS_nn m, .inl ⟨rfl, rfl⟩⟩
  | negSucc m => exact ⟨[45], m + 1, numS_neg m, .inr ⟨rfl, rfl, by omega⟩⟩
theorem figs_rg (m : Nat) : ∀ c ∈ figs m, rg 48 57 c = true := fun c hc => by
  have := figs_all m c hc
  unfold rg
  rw [decide_eq_true this.1, decide_eq_true this.2]; rfl
/-! ### things begun, on the heap -/
inductive FrAt (H : Hp) : List V → List Fm → List Addr → Prop where
  | nil : FrAt H [] [] []
  | cons {bvs : List V} {g l : Addr} {dvs : List V} {f : Fm} {fr : List Fm} {ls : List Addr} : H g = some (.tup [.str f.w, .ref l]) → H l = some (.lst dvs) → TermsAt H dvs f.d → l ∉ ls → FrAt H bvs fr ls → FrAt H (bvs ++ [.ref g]) (f :: fr) (l :: ls)
theorem FrAt.mono {H H' : Hp} {bvs : List V} {fr : List Fm} {ls : List Addr} (k : TSame H H') (h : FrAt H bvs fr ls) (e : ∀ l ∈ ls, H' l = H l) : FrAt H' bvs fr ls := by
  induction h with
  | nil => exact .nil
  | cons h1 h2 h3 h4 _ ih => exact .cons (k _ _ h1) (by rw [e _ (by simp)]; exact h2) (h3.mono k) h4 (ih fun l hl => e l (by simp [hl]))
theorem FrAt.len {H : Hp} {bvs : List V} {fr : List Fm} {ls : List Addr} (h : FrAt H bvs fr ls) : bvs.length = fr.length ∧ ls.length = fr.length := by
  induction h with
  | nil => exact ⟨rfl, rfl⟩
  | cons _ _ _ _ _ ih => simp only [List.length_append, List.length_cons, List.length_nil]; omega
theorem FrAt.lst {H : Hp} {bvs : List V} {fr : List Fm} {ls : List Addr} (h : FrAt H bvs fr ls) : ∀ l ∈ ls, ∃ dvs, H l = some (.lst dvs) := by
  induction h with
  | nil => intro l hl; simp at hl
  | cons _ h2 _ _ _ ih =>
    intro l hl
    rcases List.mem_cons.mp hl with rfl | hl
    · exact ⟨_, h2⟩
    · exact ih l hl
theorem num_head {n : Int} (k : List Nat) : ∃ c r, numS n ++ k = c :: r ∧ (c = 45 ∨ (48 ≤ c ∧ c ≤ 57)) := by
  obtain ⟨sg, m, h, hh⟩ := numS_split n
  rcases hh with ⟨rfl, _⟩ | ⟨rfl, _, _⟩
  · cases hf : figs m with
    | nil => exact absurd hf (figs_ne m)
    | cons c r =>
      refine ⟨c, r ++ k, by rw [h, hf]; rfl, .inr (figs_all m c (by rw [hf]; simp))⟩
  · exact ⟨45, figs m ++ k, by rw [h]; rfl, .inl rfl⟩
end BF
set_option Elab.async false
set_option linter.all false
namespace BF
open PySem
/-! ### reading any line -/
def letter : Nat → Bool := rg 97 122
def figure : Nat → Bool := rg 48 57
def mkS (l : List Nat) : Str := ⟨l.toArray⟩
theorem mkS_cps (l : List Nat) : (mkS l).cps.toList = l := by simp [mkS]
/-- a word of any length -/
def Lw (w : Str) : Prop := w.cps.toList ≠ [] ∧ ∀ c ∈ w.cps.toList, letter c = true
mutual
def Tm.Gd : Tm → Prop
  | .num _ => True
  | .name w => Lw w
  | .blank w => Lw w
  | .thing w ps => Lw w ∧ ps ≠ [] ∧ GdL ps
def GdL : List Tm → Prop
  | [] => True
  | p :: r => p.Gd ∧ GdL r
end
theorem gdL_append (a b : List Tm) : GdL (a ++ b) ↔ GdL a ∧ GdL b := by
  induction a with
  | nil => simp [GdL]
  | cons x r ih => simp only [List.cons_append, GdL, ih, and_assoc]
abbrev Bg := List (Str × List Tm)
/-- a number is read, or refused -/
def sgn (l : List Nat) : List Nat := if l.head? = some 45 then [45] else []
def unsg (l : List Nat) : List Nat := if l.head? = some 45 then l.tail else l
def numF (l : List Nat) : Option (Int × List Nat) :=
  if (unsg l).takeWhile figure = [] then none
  else if ((unsg l).takeWhile figure).head? = some 48 ∧ sgn l ++ (unsg l).takeWhile figure ≠ [48] then none
  else some (if sgn l = [] then (NumText.digitsVal ((unsg l).takeWhile figure) : Int) else -(NumText.digitsVal ((unsg l).takeWhile figure) : Int), (unsg l).dropWhile figure)
/-- what the reader's leaf gives -/
inductive LfR : List Nat → Bg → Option (Tm × List Nat × Bg) → Prop where
  | more {k r : List Nat} {b : Bg} {res} : k.takeWhile letter ≠ [] → k.dropWhile letter = 40 :: r → LfR r ((mkS (k.takeWhile letter), []) :: b) res → LfR k b res
  | name {k : List Nat} {b : Bg} : k.takeWhile letter ≠ [] → (k.dropWhile letter).head? ≠ some 40 → LfR k b (some (.name (mkS (k.takeWhile letter)), k.dropWhile letter, b))
  | blank {k r : List Nat} {b : Bg} : k = 63 :: r → r.takeWhile letter ≠ [] → LfR k b (some (.blank (mkS (r.takeWhile letter)), r.dropWhile letter, b))
  | noblank {k r : List Nat} {b : Bg} : k = 63 :: r → r.takeWhile letter = [] → LfR k b none
  | num {k r : List Nat} {b : Bg} {n : Int} : k.takeWhile letter = [] → k.head? ≠ some 63 → numF k = some (n, r) → LfR k b (some (.num n, r, b))
  | nonum {k : List Nat} {b : Bg} : k.takeWhile letter = [] → k.head? ≠ some 63 → numF k = none → LfR k b none
/-- what the reader's whole gives from a term read, the signs to come and the things begun -/
inductive WhR : Tm → List Nat → Bg → Option Tm → Prop where
  | fin {t : Tm} : WhR t [] [] (some t)
  | behind {t : Tm} {c : Nat} {k : List Nat} : WhR t (c :: k) [] none
  | comma {t t' : Tm} {k k' : List Nat} {w : Str} {d : List Tm} {b b' : Bg} {res} : LfR k ((w, d ++ [t]) :: b) (some (t', k', b')) → WhR t' k' b' res → WhR t (44 :: k) ((w, d) :: b) res
  | nocomma {t : Tm} {k : List Nat} {w : Str} {d : List Tm} {b : Bg} : LfR k ((w, d ++ [t]) :: b) none → WhR t (44 :: k) ((w, d) :: b) none
  | close {t : Tm} {k : List Nat} {w : Str} {d : List Tm} {b : Bg} {res} : WhR (.thing w (d ++ [t])) k b res → WhR t (41 :: k) ((w, d) :: b) res
  | neither {t : Tm} {k : List Nat} {f : Str × List Tm} {b : Bg} : k.head? ≠ some 44 → k.head? ≠ some 41 → WhR t k (f :: b) none
/-- what read gives -/
inductive RdR : List Nat → Option Tm → Prop where
  | yes {l k : List Nat} {t : Tm} {b : Bg} {res} : LfR l [] (some (t, k, b)) → WhR t k b res → RdR l res
  | no {l : List Nat} : LfR l [] none → RdR l none
/-! #### what is read is the line of the term -/
def ftext (f : Str × List Tm) : List Nat := f.1.cps.toList ++ 40 :: f.2.flatMap fun p => p.line ++ [44]
def pre : Bg → List Nat
  | [] => []
  | f :: r => pre r ++ ftext f
def BgOk : Bg → Prop
  | [] => True
  | f :: r => Lw f.1 ∧ GdL f.2 ∧ BgOk r
theorem lineL_snoc (d : List Tm) (t : Tm) : lineL (d ++ [t]) = (d.flatMap fun p => p.line ++ [44]) ++ t.line := by
  cases d with
  | nil => simp [lineL, tailL]
  | cons p r =>
    have h : ∀ (q : Tm) (r : List Tm), q.line ++ tailL (r ++ [t]) = (q.line ++ [44]) ++ (r.flatMap fun p => p.line ++ [44]) ++ t.line := by
      intro q r
      induction r generalizing q with
      | nil => simp [tailL]
      | cons p r ih =>
        simp only [List.cons_append, tailL, List.flatMap_cons]
        have e := ih p
        rw [show q.line ++ 44 :: (p.line ++ tailL (r ++ [t])) = (q.line ++ [44]) ++ (p.line ++ tailL (r ++ [t])) by simp, e]
        simp [List.append_assoc]
    simp only [List.cons_append, lineL, List.flatMap_cons]
    rw [h p r]
theorem tw_all {p : Nat → Bool} : ∀ (l : List Nat), ∀ c ∈ l.takeWhile p, p c = true
  | [], c, h => by simp at h
  | a :: r, c, h => by
    rw [List.takeWhile_cons] at h
    split at h
    · rename_i ha
      rcases List.mem_cons.mp h with rfl | h
      · exact ha
      · exact tw_all r c h
    · simp at h
theorem tw_lw {k : List Nat} (h : k.takeWhile letter ≠ []) : Lw (mkS (k.takeWhile letter)) := by
  refine ⟨by rw [mkS_cps]; exact h, fun c hc => ?_⟩
  rw [mkS_cps] at hc
  exact tw_all k c hc
theorem figs_of : ∀ (n : Nat) (f : List Nat), f.length = n + 1 → (∀ c ∈ f, figure c = true) → (n = 0 ∨ f.head? ≠ some 48) → figs (NumText.digitsVal f) = f := by
  intro n
  induction n with
  | zero =>
    intro f hl hd _
    match f, hl with
    | [c], _ =>
      have hc := hd c (by simp)
      unfold figure rg at hc
      rw [Bool.and_eq_true, decide_eq_true_eq, decide_eq_true_eq] at hc
      have e : NumText.digitsVal [c] = c - 48 := by show 0 * 10 + (c - 48) = c - 48; omega
      rw [e, figs_one (by omega)]
      congr 1
      omega
  | succ n ih =>
    intro f hl hd hh
    have hne : f ≠ [] := by intro e; rw [e] at hl; simp at hl
    obtain ⟨ini, c, rfl⟩ := snoc_of hne
    have hli : ini.length = n + 1 := by rw [List.length_append] at hl; simp only [List.length_cons, List.length_nil] at hl; omega
    have hc := hd c (by simp)
    unfold figure rg at hc
    rw [Bool.and_eq_true, decide_eq_true_eq, decide_eq_true_eq] at hc
    have hhead : ini.head? ≠ some 48 := by
      rcases hh with z | z
      · omega
      · cases ini with
        | nil => simp at hli
        | cons a r => simpa using z
    have hi := ih ini hli (fun c hc => hd c (by simp [hc])) (.inr hhead)
    have hpos : 1 ≤ NumText.digitsVal ini := by
      rcases Nat.eq_zero_or_pos (NumText.digitsVal ini) with z | z
      · exfalso
        rw [z, figs_one (by decide)] at hi
        rw [← hi] at hhead
        exact hhead rfl
      · exact z
    have e : NumText.digitsVal (ini ++ [c]) = NumText.digitsVal ini * 10 + (c - 48) := by
      unfold NumText.digitsVal
      rw [List.foldl_append]
      rfl
    rw [e, figs_snoc (by omega)]
    have e1 : (NumText.digitsVal ini * 10 + (c - 48)) / 10 = NumText.digitsVal ini := by omega
    have e2 : (NumText.digitsVal ini * 10 + (c - 48)) % 10 = c - 48 := by omega
    rw [e1, e2, hi]
    have : ∀ d : Nat, d < 10 → (Nat.digitChar d).toNat = 48 + d := by decide
    rw [this _ (by omega)]
    congr 2
    omega
theorem sgn_unsg (l : List Nat) : sgn l ++ unsg l = l := by
  unfold sgn unsg
  split
  · rename_i h
    cases l with
    | nil => simp at h
    | cons c r => simp at h; simp [h]
  · rfl
theorem tw_dw {p : Nat → Bool} (l : List Nat) : l.takeWhile p ++ l.dropWhile p = l := List.takeWhile_append_dropWhile
theorem num_sound {l r : List Nat} {n : Int} (h : numF l = some (n, r)) : l = numS n ++ r := by
  unfold numF at h
  split at h
  · cases h
  rename_i h1
  split at h
  · cases h
  rename_i h2
  cases h
  obtain ⟨m, hm⟩ : ∃ m, ((unsg l).takeWhile figure).length = m + 1 := by
    cases e : (unsg l).takeWhile figure with
    | nil => exact absurd e h1
    | cons a b => exact ⟨b.length, rfl⟩
  have hz : m = 0 ∨ ((unsg l).takeWhile figure).head? ≠ some 48 := by
    by_cases z : ((unsg l).takeWhile figure).head? = some 48
    · left
      have e : sgn l ++ (unsg l).takeWhile figure = [48] := by
        by_cases y : sgn l ++ (unsg l).takeWhile figure = [48]
        · exact y
        · exact absurd ⟨z, y⟩ h2
      have := congrArg List.length e
      rw [List.length_append] at this
      simp only [List.length_cons, List.length_nil] at this
      omega
    · exact .inr z
  have hf := figs_of m _ hm (fun c hc => tw_all _ c hc) hz
  have key : numS (if sgn l = [] then (NumText.digitsVal ((unsg l).takeWhile figure) : Int) else -(NumText.digitsVal ((unsg l).takeWhile figure) : Int)) = sgn l ++ (unsg l).takeWhile figure := by
    by_cases z : sgn l = []
    · rw [if_pos z, numS_nn, hf, z]; rfl
    · rw [if_neg z]
      have e : sgn l = [45] := by
        unfold sgn at z ⊢
        split
        · rfl
        · rename_i y; rw [if_neg y] at z; exact absurd rfl z
      have hpos : 1 ≤ NumText.digitsVal ((unsg l).takeWhile figure) := by
        rcases Nat.eq_zero_or_pos (NumText.digitsVal ((unsg l).takeWhile figure)) with y | y
        · exfalso
          rw [y, figs_one (by decide)] at hf
          refine h2 ⟨by rw [← hf]; rfl, ?_⟩
          rw [e]
          simp
        · exact y
      obtain ⟨d, hd⟩ : ∃ d, NumText.digitsVal ((unsg l).takeWhile figure) = d + 1 := ⟨_, (Nat.succ_pred_eq_of_pos hpos).symm⟩
      rw [hd] at hf ⊢
      have e2 : (-((d + 1 : Nat) : Int)) = Int.negSucc d := rfl
      rw [e2, numS_neg, hf, e]
      rfl
  rw [key, List.append_assoc, tw_dw, sgn_unsg]
theorem lf_sound {k : List Nat} {b : Bg} {res : Option (Tm × List Nat × Bg)} (h : LfR k b res) : ∀ t r b', res = some (t, r, b') → BgOk b → pre b ++ k = pre b' ++ (t.line ++ r) ∧ t.Gd ∧ BgOk b' := by
  induction h with
  | more h1 h2 _ ih =>
    rename_i k r b res h3
    intro t r' b' e hb
    obtain ⟨i1, i2, i3⟩ := ih t r' b' e ⟨tw_lw h1, trivial, hb⟩
    refine ⟨?_, i2, i3⟩
    rw [← i1]
    simp only [pre, ftext, mkS_cps, List.flatMap_nil, List.append_assoc, List.cons_append, List.nil_append]
    rw [← h2, tw_dw]
  | name h1 h2 =>
    intro t r' b' e hb
    cases e
    exact ⟨by simp only [Tm.line, mkS_cps]; rw [tw_dw], tw_lw h1, hb⟩
  | blank h1 h2 =>
    intro t r' b' e hb
    cases e
    subst h1
    exact ⟨by simp only [Tm.line, mkS_cps, List.cons_append]; rw [tw_dw], tw_lw h2, hb⟩
  | noblank h1 h2 => intro t r' b' e; cases e
  | num h1 h2 h3 =>
    intro t r' b' e hb
    cases e
    exact ⟨by rw [num_sound h3]; simp only [Tm.line], trivial, hb⟩
  | nonum h1 h2 h3 => intro t r' b' e; cases e
theorem wh_sound {t : Tm} {k : List Nat} {b : Bg} {res : Option Tm} (h : WhR t k b res) : ∀ u, res = some u → t.Gd → BgOk b → pre b ++ (t.line ++ k) = u.line ∧ u.Gd := by
  induction h with
  | fin => intro u e ht _; cases e; exact ⟨by simp [pre], ht⟩
  | behind => intro u e; cases e
  | comma h1 _ ih =>
    rename_i h2
    intro u e ht hb
    obtain ⟨b1, b2, b3⟩ := hb
    obtain ⟨i1, i2, i3⟩ := lf_sound h1 _ _ _ rfl ⟨b1, (gdL_append _ _).mpr ⟨b2, ht, trivial⟩, b3⟩
    obtain ⟨j1, j2⟩ := ih u e i2 i3
    refine ⟨?_, j2⟩
    rw [← j1, ← i1]
    simp only [pre, ftext, List.flatMap_append, List.flatMap_cons, List.flatMap_nil, List.append_assoc, List.cons_append, List.nil_append]
  | nocomma => intro u e; cases e
  | close _ ih =>
    intro u e ht hb
    obtain ⟨b1, b2, b3⟩ := hb
    obtain ⟨j1, j2⟩ := ih u e ⟨b1, by simp, (gdL_append _ _).mpr ⟨b2, ht, trivial⟩⟩ b3
    refine ⟨?_, j2⟩
    rw [← j1]
    simp only [pre, ftext, Tm.line, lineL_snoc, List.append_assoc, List.cons_append, List.nil_append]
  | neither => intro u e; cases e
theorem rd_sound {l : List Nat} {t : Tm} (h : RdR l (some t)) : t.line = l ∧ t.Gd := by
  cases h with
  | yes h1 h2 =>
    obtain ⟨i1, i2, i3⟩ := lf_sound h1 _ _ _ rfl trivial
    obtain ⟨j1, j2⟩ := wh_sound h2 _ rfl i2 i3
    exact ⟨by rw [← j1, ← i1]; rfl, j2⟩
end BF
set_option Elab.async false
set_option linter.all false
namespace BF
open PySem
/-! #### the line of a term is read -/
def Ch (l : List Nat) (b : Bg) (res : Option Tm) : Prop := (∃ t k b', LfR l b (some (t, k, b')) ∧ WhR t k b' res) ∨ (LfR l b none ∧ res = none)
theorem stop_lw {w : Str} {k : List Nat} (h : Lw w) (hk : Stop k) : (w.cps.toList ++ k).takeWhile letter = w.cps.toList := stop_tw h.2 hk (by decide) (by decide)
theorem dw_of {p : Nat → Bool} {a k : List Nat} (h : (a ++ k).takeWhile p = a) : (a ++ k).dropWhile p = k := by
  have e := tw_dw (p := p) (a ++ k)
  rw [h] at e
  exact List.append_cancel_left e
theorem mkS_self (w : Str) : mkS w.cps.toList = w := str_ext (mkS_cps _)
theorem stop_head {k : List Nat} (hk : Stop k) : k.head? ≠ some 40 := by
  rcases hk with rfl | ⟨r, rfl | rfl⟩ <;> simp
theorem fig_stop {m : Nat} {k : List Nat} (hk : Stop k) : (figs m ++ k).takeWhile figure = figs m := stop_tw (figs_rg m) hk (by decide) (by decide)
theorem figs_head {m : Nat} : (figs m).head? = some 48 → figs m = [48] := by
  intro h
  cases e : figs m with
  | nil => rw [e] at h; simp at h
  | cons c r =>
    rw [e] at h
    simp only [List.head?_cons, Option.some.injEq] at h
    subst h
    have := figs_nought m r e
    subst this
    rw [figs_one (by decide)] at e
    exact e.symm
theorem fig_head45 (m : Nat) (k : List Nat) : (figs m ++ k).head? ≠ some 45 := by
  cases e : figs m with
  | nil => exact absurd e (figs_ne m)
  | cons c r =>
    have := figs_all m c (by rw [e]; simp)
    simp only [List.cons_append, List.head?_cons, ne_eq, Option.some.injEq]
    omega
theorem num_reads {n : Int} {k : List Nat} (hk : Stop k) : numF (numS n ++ k) = some (n, k) := by
  obtain ⟨sg, m, e, hh⟩ := numS_split n
  rcases hh with ⟨rfl, rfl⟩ | ⟨rfl, rfl, hm⟩
  · rw [e, List.nil_append]
    have h1 : sgn (figs m ++ k) = [] := by unfold sgn; rw [if_neg (fig_head45 m k)]
    have h2 : unsg (figs m ++ k) = figs m ++ k := by unfold unsg; rw [if_neg (fig_head45 m k)]
    unfold numF
    rw [h1, h2, fig_stop hk, if_neg (figs_ne m), if_neg (fun z => z.2 (by rw [List.nil_append]; exact figs_head z.1)), if_pos rfl, figs_val, dw_of (fig_stop hk)]
  · rw [e]
    have h1 : sgn ([45] ++ figs m ++ k) = [45] := rfl
    have h2 : unsg ([45] ++ figs m ++ k) = figs m ++ k := rfl
    have h3 : (figs m).head? ≠ some 48 := fun z => by
      have y := figs_head z
      have := figs_nought m [] y
      exact hm this
    unfold numF
    rw [h1, h2, fig_stop hk, if_neg (figs_ne m), if_neg (fun z => h3 z.1), if_neg (by simp), figs_val, dw_of (fig_stop hk)]
theorem num_noletter {n : Int} {k : List Nat} : (numS n ++ k).takeWhile letter = [] ∧ (numS n ++ k).head? ≠ some 63 := by
  obtain ⟨c, r, e, hc⟩ := num_head (n := n) k
  rw [e]
  constructor
  · rw [List.takeWhile_cons, if_neg]
    unfold letter rg
    rw [Bool.and_eq_true, decide_eq_true_eq, decide_eq_true_eq]
    omega
  · simp only [List.head?_cons, ne_eq, Option.some.injEq]
    omega
theorem gdL_mem {p : Tm} : ∀ {l : List Tm}, GdL l → p ∈ l → p.Gd
  | x :: r, h, hm => by
    rcases List.mem_cons.mp hm with rfl | hm
    · exact h.1
    · exact gdL_mem h.2 hm
theorem stop_tail (ps : List Tm) (k : List Nat) : Stop (tailL ps ++ 41 :: k) := by
  cases ps with
  | nil => exact .inr ⟨k, .inr rfl⟩
  | cons p r => exact .inr ⟨_, .inl rfl⟩
theorem reads (t : Tm) : ∀ (k : List Nat) (b : Bg) (res : Option Tm), t.Gd → Stop k → WhR t k b res → Ch (t.line ++ k) b res := by
  induction t using Tm.ind with
  | h1 n =>
    intro k b res _ hk h
    exact .inl ⟨_, _, _, .num (num_noletter (n := n)).1 (num_noletter (n := n)).2 (num_reads hk), h⟩
  | h2 w =>
    intro k b res hg hk h
    have e := stop_lw hg hk
    have hl : LfR (w.cps.toList ++ k) b (some (.name (mkS ((w.cps.toList ++ k).takeWhile letter)), (w.cps.toList ++ k).dropWhile letter, b)) := .name (by rw [e]; exact hg.1) (by rw [dw_of e]; exact stop_head hk)
    rw [e, dw_of e, mkS_self] at hl
    exact .inl ⟨_, _, _, hl, h⟩
  | h3 w =>
    intro k b res hg hk h
    have e := stop_lw hg hk
    have hl : LfR (63 :: (w.cps.toList ++ k)) b (some (.blank (mkS ((w.cps.toList ++ k).takeWhile letter)), (w.cps.toList ++ k).dropWhile letter, b)) := .blank rfl (by rw [e]; exact hg.1)
    rw [e, dw_of e, mkS_self] at hl
    exact .inl ⟨_, _, _, hl, h⟩
  | h4 w ps ih =>
    intro k b res hg hk h
    simp only [Tm.Gd] at hg
    obtain ⟨hw, hne, hgl⟩ := hg
    -- the parts, from one that is read on
    have parts : ∀ (qs : List Tm) (p : Tm) (d : List Tm), (∀ q ∈ qs, q ∈ ps) → WhR (.thing w (d ++ p :: qs)) k b res → WhR p (tailL qs ++ 41 :: k) ((w, d) :: b) res := by
      intro qs
      induction qs with
      | nil => intro p d _ hw'; exact .close hw'
      | cons q qs ih2 =>
        intro p d hm hw'
        have hq : WhR q (tailL qs ++ 41 :: k) ((w, d ++ [p]) :: b) res := ih2 q (d ++ [p]) (fun x hx => hm x (by simp [hx])) (by simpa using hw')
        have hc := ih q (hm q (by simp)) _ _ _ (gdL_mem hgl (hm q (by simp))) (stop_tail qs k) hq
        have e : tailL (q :: qs) ++ 41 :: k = 44 :: (q.line ++ (tailL qs ++ 41 :: k)) := by simp [tailL]
        rw [e]
        rcases hc with ⟨t', k', b', h1, h2⟩ | ⟨h1, rfl⟩
        · exact .comma h1 h2
        · exact .nocomma h1
    cases ps with
    | nil => exact absurd rfl hne
    | cons p qs =>
      have hp := parts qs p [] (fun q hq => by simp [hq]) h
      have hc := ih p (by simp) _ _ _ (gdL_mem hgl (by simp)) (stop_tail qs k) hp
      have el : (Tm.thing w (p :: qs)).line ++ k = w.cps.toList ++ 40 :: (p.line ++ (tailL qs ++ 41 :: k)) := by simp [Tm.line, lineL]
      have e : (w.cps.toList ++ 40 :: (p.line ++ (tailL qs ++ 41 :: k))).takeWhile letter = w.cps.toList := takeWhile_stop hw.2 (.inr ⟨40, _, rfl, by decide⟩)
      have more : ∀ r, LfR (p.line ++ (tailL qs ++ 41 :: k)) ((w, []) :: b) r → LfR ((Tm.thing w (p :: qs)).line ++ k) b r := fun r hr => by
        rw [el]
        exact .more (by rw [e]; exact hw.1) (dw_of e) (by rw [e, mkS_self]; exact hr)
      rcases hc with ⟨t', k', b', h1, h2⟩ | ⟨h1, rfl⟩
      · exact .inl ⟨_, _, _, more _ h1, h2⟩
      · exact .inr ⟨more _ h1, rfl⟩
theorem rd_reads {t : Tm} (h : t.Gd) : RdR t.line (some t) := by
  have hc := reads t [] [] (some t) h (.inl rfl) .fin
  rw [List.append_nil] at hc
  rcases hc with ⟨t', k', b', h1, h2⟩ | ⟨_, e⟩
  · exact .yes h1 h2
  · cases e
/-! #### in one way only -/
theorem lf_one {k : List Nat} {b : Bg} {r1 : Option (Tm × List Nat × Bg)} (h : LfR k b r1) : ∀ r2, LfR k b r2 → r1 = r2 := by
  induction h with
  | more h1 h2 _ ih =>
    rename_i h3
    intro r2 g
    cases g with
    | more g1 g2 g3 => rw [h2] at g2; cases g2; exact ih _ g3
    | name g1 g2 => rw [h2] at g2; exact absurd rfl g2
    | blank g1 g2 => subst g1; exact absurd rfl h1
    | noblank g1 g2 => subst g1; exact absurd rfl h1
    | num g1 g2 g3 => exact absurd g1 h1
    | nonum g1 g2 g3 => exact absurd g1 h1
  | name h1 h2 =>
    intro r2 g
    cases g with
    | more g1 g2 g3 => rw [g2] at h2; exact absurd rfl h2
    | name g1 g2 => rfl
    | blank g1 g2 => subst g1; exact absurd rfl h1
    | noblank g1 g2 => subst g1; exact absurd rfl h1
    | num g1 g2 g3 => exact absurd g1 h1
    | nonum g1 g2 g3 => exact absurd g1 h1
  | blank h1 h2 =>
    subst h1
    intro r2 g
    cases g with
    | more g1 g2 g3 => exact absurd rfl g1
    | name g1 g2 => exact absurd rfl g1
    | blank g1 g2 => cases g1; rfl
    | noblank g1 g2 => cases g1; exact absurd g2 h2
    | num g1 g2 g3 => exact absurd rfl g2
    | nonum g1 g2 g3 => exact absurd rfl g2
  | noblank h1 h2 =>
    subst h1
    intro r2 g
    cases g with
    | more g1 g2 g3 => exact absurd rfl g1
    | name g1 g2 => exact absurd rfl g1
    | blank g1 g2 => cases g1; exact absurd h2 g2
    | noblank g1 g2 => rfl
    | num g1 g2 g3 => exact absurd rfl g2
    | nonum g1 g2 g3 => exact absurd rfl g2
  | num h1 h2 h3 =>
    intro r2 g
    cases g with
    | more g1 g2 g3 => exact absurd h1 g1
    | name g1 g2 => exact absurd h1 g1
    | blank g1 g2 => subst g1; exact absurd rfl h2
    | noblank g1 g2 => subst g1; exact absurd rfl h2
    | num g1 g2 g3 => rw [h3] at g3; cases g3; rfl
    | nonum g1 g2 g3 => rw [h3] at g3; cases g3
  | nonum h1 h2 h3 =>
    intro r2 g
    cases g with
    | more g1 g2 g3 => exact absurd h1 g1
    | name g1 g2 => exact absurd h1 g1
    | blank g1 g2 => subst g1; exact absurd rfl h2
    | noblank g1 g2 => subst g1; exact absurd rfl h2
    | num g1 g2 g3 => rw [h3] at g3; cases g3
    | nonum g1 g2 g3 => rfl
theorem wh_one {t : Tm} {k : List Nat} {b : Bg} {r1 : Option Tm} (h : WhR t k b r1) : ∀ r2, WhR t k b r2 → r1 = r2 := by
  induction h with
  | fin => intro r2 g; cases g; rfl
  | behind => intro r2 g; cases g; rfl
  | comma h1 _ ih =>
    intro r2 g
    cases g with
    | comma g1 g2 => have := lf_one h1 _ g1; cases this; exact ih _ g2
    | nocomma g1 => have := lf_one h1 _ g1; cases this
    | neither g1 g2 => exact absurd rfl g1
  | nocomma h1 =>
    intro r2 g
    cases g with
    | comma g1 g2 => have := lf_one h1 _ g1; cases this
    | nocomma g1 => rfl
    | neither g1 g2 => rfl
  | close _ ih =>
    intro r2 g
    cases g with
    | close g1 => exact ih _ g1
    | neither g1 g2 => exact absurd rfl g2
  | neither h1 h2 =>
    intro r2 g
    cases g with
    | comma g1 g2 => exact absurd rfl h1
    | nocomma g1 => rfl
    | close g1 => exact absurd rfl h2
    | neither g1 g2 => rfl
theorem rd_one {l : List Nat} {r1 r2 : Option Tm} (h : RdR l r1) (g : RdR l r2) : r1 = r2 := by
  cases h with
  | yes h1 h2 =>
    cases g with
    | yes g1 g2 => have := lf_one h1 _ g1; cases this; exact wh_one h2 _ g2
    | no g1 => have := lf_one h1 _ g1; cases this
  | no h1 =>
    cases g with
    | yes g1 g2 => have := lf_one h1 _ g1; cases this
    | no g1 => rfl
/-- a line that is refused is the line of no term -/
theorem rd_none {l : List Nat} (h : RdR l none) : ∀ t : Tm, t.Gd → t.line ≠ l := fun t ht e => by
  have g := rd_reads ht
  rw [e] at g
  have := rd_one h g
  cases this
end BF
set_option Elab.async false
set_option linter.all false
namespace BF
open PySem
/-! ### a line's marks, and things closed one by one -/
def Tm.lf : Tm → Prop
  | .thing _ _ => False
  | _ => True
def Tm.kd : Tm → Nat
  | .num _ => 78
  | .name _ => 87
  | .blank _ => 66
  | .thing _ _ => 84
def atom (c : Nat) : Prop := c = 87 ∨ c = 66 ∨ c = 78 ∨ c = 84
theorem kd_atom (t : Tm) : atom t.kd := by cases t <;> simp [Tm.kd, atom]
theorem line_one {t u : Tm} (ht : t.Gd) (hu : u.Gd) (e : t.line = u.line) : t = u := by
  have h := rd_reads ht
  rw [e] at h
  exact Option.some.inj (rd_one h (rd_reads hu))
open Classical in
noncomputable def kindN (l : List Nat) : Nat := if h : ∃ t : Tm, t.Gd ∧ t.lf ∧ t.line = l then h.choose.kd else 33
theorem kindN_of {t : Tm} (h1 : t.Gd) (h2 : t.lf) : kindN t.line = t.kd := by
  unfold kindN
  have h : ∃ u : Tm, u.Gd ∧ u.lf ∧ u.line = t.line := ⟨t, h1, h2, rfl⟩
  rw [dif_pos h]
  rw [line_one h.choose_spec.1 h1 h.choose_spec.2.2]
theorem kindN_no {l : List Nat} (h : ∀ t : Tm, t.Gd → t.lf → t.line ≠ l) : kindN l = 33 := by
  unfold kindN
  rw [dif_neg]
  rintro ⟨t, h1, h2, h3⟩
  exact h t h1 h2 h3
theorem kindN_or (l : List Nat) : kindN l = 33 ∨ ∃ t : Tm, t.Gd ∧ t.lf ∧ t.line = l ∧ kindN l = t.kd := by
  by_cases h : ∃ t : Tm, t.Gd ∧ t.lf ∧ t.line = l
  · obtain ⟨t, h1, h2, rfl⟩ := h
    exact .inr ⟨t, h1, h2, rfl, kindN_of h1 h2⟩
  · exact .inl (kindN_no fun t h1 h2 h3 => h ⟨t, h1, h2, h3⟩)
def sep (c : Nat) : Bool := c == 40 || c == 41 || c == 44
noncomputable def told (l : List Nat) : List Nat := if l = [] then [] else [kindN l]
noncomputable def toks : List Nat → List Nat → List Nat
  | [], cur => told cur
  | c :: r, cur => if sep c then told cur ++ c :: toks r [] else toks r (cur ++ [c])
/-- a text and its mark -/
def IC (x : List Nat) (c : Nat) : Prop := (sep c = true ∧ x = [c]) ∨ (atom c ∧ ∃ t : Tm, t.Gd ∧ t.line = x ∧ (c = 87 → ∃ w, t = .name w)) ∨ c = 33
inductive Glu : List Nat → List Nat → Prop where
  | nil : Glu [] []
  | cons {c : Nat} {m x L : List Nat} : IC x c → Glu m L → Glu (c :: m) (x ++ L)
theorem Glu.app {a b A B : List Nat} (h : Glu a A) (g : Glu b B) : Glu (a ++ b) (A ++ B) := by
  induction h with
  | nil => exact g
  | cons h1 _ ih => rw [List.cons_append, List.append_assoc]; exact .cons h1 ih
theorem Glu.cut : ∀ {a b L : List Nat}, Glu (a ++ b) L → ∃ A B, L = A ++ B ∧ Glu a A ∧ Glu b B
  | [], b, L, h => ⟨[], L, rfl, .nil, h⟩
  | c :: a, b, L, h => by
    cases h with
    | cons h1 h2 =>
      obtain ⟨A, B, rfl, h3, h4⟩ := Glu.cut h2
      exact ⟨_, B, (List.append_assoc _ _ _).symm, .cons h1 h3, h4⟩
theorem Glu.one {x : List Nat} {c : Nat} (h : IC x c) : Glu [c] x := by
  have := Glu.cons h .nil
  rwa [List.append_nil] at this
theorem told_glu (l : List Nat) : Glu (told l) l := by
  unfold told
  split
  · rename_i h; rw [h]; exact .nil
  · refine .one ?_
    rcases kindN_or l with h | ⟨t, h1, h2, h3, h4⟩
    · exact .inr (.inr h)
    · rw [h4]
      refine .inr (.inl ⟨kd_atom t, t, h1, h3, fun e => ?_⟩)
      cases t with
      | name w => exact ⟨w, rfl⟩
      | num n => simp [Tm.kd] at e
      | blank w => simp [Tm.kd] at e
      | thing w ps => simp [Tm.kd] at e
theorem toks_glu : ∀ (L cur : List Nat), Glu (toks L cur) (cur ++ L)
  | [], cur => by rw [List.append_nil]; exact told_glu cur
  | c :: r, cur => by
    rw [toks]
    split
    · rename_i h
      exact (told_glu cur).app (.cons (x := [c]) (.inl ⟨h, rfl⟩) (by simpa using toks_glu r []))
    · have := toks_glu r (cur ++ [c])
      rwa [List.append_assoc] at this
/-- atoms with commas between -/
inductive AtL : List Nat → Prop where
  | one {c : Nat} : atom c → AtL [c]
  | more {c : Nat} {m : List Nat} : atom c → AtL m → AtL (c :: 44 :: m)
theorem atom_sep {c : Nat} (h : atom c) : sep c = false ∧ c ≠ 40 ∧ c ≠ 41 ∧ c ≠ 44 ∧ c ≠ 33 := by
  rcases h with rfl | rfl | rfl | rfl <;> decide
theorem AtL.free {m : List Nat} (h : AtL m) : 40 ∉ m ∧ 41 ∉ m := by
  induction h with
  | one h => have := atom_sep h; simp; omega
  | more h _ ih => have := atom_sep h; simp [ih.1, ih.2]; omega
theorem IC.atom {x : List Nat} {c : Nat} (h : IC x c) (ha : atom c) : ∃ t : Tm, t.Gd ∧ t.line = x ∧ (c = 87 → ∃ w, t = .name w) := by
  have := atom_sep ha
  rcases h with h | h | h
  · rw [this.1] at h; exact absurd h.1 (by simp)
  · exact h.2
  · exact absurd h this.2.2.2.2
theorem IC.sep {x : List Nat} {c : Nat} (h : IC x c) (hs : c = 40 ∨ c = 41 ∨ c = 44) : x = [c] := by
  rcases h with h | h | h
  · exact h.2
  · have := atom_sep h.1; omega
  · omega
theorem AtL.terms {m : List Nat} (h : AtL m) : ∀ {L : List Nat}, Glu m L → ∃ p r, GdL (p :: r) ∧ lineL (p :: r) = L := by
  induction h with
  | one h =>
    intro L g
    cases g with
    | cons g1 g2 =>
      cases g2
      obtain ⟨t, h1, rfl, _⟩ := g1.atom h
      exact ⟨t, [], ⟨h1, trivial⟩, by simp [lineL, tailL]⟩
  | more h _ ih =>
    intro L g
    cases g with
    | cons g1 g2 =>
      cases g2 with
      | cons g3 g4 =>
        obtain ⟨t, h1, rfl, _⟩ := g1.atom h
        obtain ⟨p, r, h2, rfl⟩ := ih g4
        rw [g3.sep (.inr (.inr rfl))]
        exact ⟨t, p :: r, ⟨h1, h2⟩, by simp [lineL, tailL]⟩
/-- a thing closed: the text stays -/
theorem glu_close {p q r L : List Nat} (h : Glu (p ++ 87 :: 40 :: (q ++ 41 :: r)) L) (hq : AtL q) : Glu (p ++ 84 :: r) L := by
  obtain ⟨P, X, rfl, hp, g⟩ := h.cut
  clear h
  cases g with
  | cons h1 g =>
    cases g with
    | cons h2 g =>
      obtain ⟨Q, Y, rfl, hQ, h⟩ := g.cut
      cases h with
      | cons h3 h =>
        obtain ⟨t, g1, rfl, g2⟩ := h1.atom (.inl rfl)
        obtain ⟨w, rfl⟩ := g2 rfl
        obtain ⟨a, b, g3, rfl⟩ := hq.terms hQ
        rw [h2.sep (.inl rfl), h3.sep (.inr (.inl rfl))]
        refine hp.app ?_
        have e : ∀ Z : List Nat, (Tm.name w).line ++ ([40] ++ (lineL (a :: b) ++ ([41] ++ Z))) = (Tm.thing w (a :: b)).line ++ Z := fun Z => by simp [Tm.line]
        rw [e]
        exact .cons (.inr (.inl ⟨.inr (.inr (.inr rfl)), .thing w (a :: b), (by simp only [Tm.Gd]; exact ⟨g1, by simp, g3⟩), rfl, fun z => absurd z (by decide)⟩)) h
theorem glu_end {c : Nat} {L : List Nat} (h : Glu [c] L) (ha : atom c) : ∃ t : Tm, t.Gd ∧ t.line = L := by
  cases h with
  | cons h1 h2 =>
    cases h2
    obtain ⟨t, g1, g2, _⟩ := h1.atom ha
    exact ⟨t, g1, by rw [List.append_nil]; exact g2⟩
/-! a term's marks, with some of its things closed -/
mutual
inductive Exm : Tm → List Nat → Prop where
  | leaf {t : Tm} : t.lf → Exm t [t.kd]
  | done {w : Str} {ps : List Tm} : Exm (.thing w ps) [84]
  | begun {w : Str} {ps : List Tm} {m : List Nat} : ExmL ps m → Exm (.thing w ps) (87 :: 40 :: (m ++ [41]))
inductive ExmL : List Tm → List Nat → Prop where
  | one {p : Tm} {m : List Nat} : Exm p m → ExmL [p] m
  | more {p q : Tm} {r : List Tm} {m m' : List Nat} : Exm p m → ExmL (q :: r) m' → ExmL (p :: q :: r) (m ++ 44 :: m')
end
def Stp (E : List Nat → Prop) (m : List Nat) : Prop := ∃ p q r, m = p ++ 87 :: 40 :: (q ++ 41 :: r) ∧ 41 ∉ p ∧ AtL q ∧ E (p ++ 84 :: r)
theorem exm_step (t : Tm) : ∀ m, Exm t m → (∃ c, m = [c] ∧ atom c) ∨ Stp (Exm t) m := by
  induction t using Tm.ind with
  | h1 n => intro m h; cases h; exact .inl ⟨_, rfl, kd_atom _⟩
  | h2 n => intro m h; cases h; exact .inl ⟨_, rfl, kd_atom _⟩
  | h3 n => intro m h; cases h; exact .inl ⟨_, rfl, kd_atom _⟩
  | h4 w ps ih =>
    intro m h
    cases h with
    | leaf h => exact absurd h (by simp [Tm.lf])
    | done => exact .inl ⟨_, rfl, .inr (.inr (.inr rfl))⟩
    | begun h =>
      rename_i m
      have key : ∀ (ps' : List Tm) (m : List Nat), (∀ p ∈ ps', p ∈ ps) → ExmL ps' m → AtL m ∨ Stp (ExmL ps') m := by
        intro ps'
        induction ps' with
        | nil => intro m _ h; cases h
        | cons p r ih2 =>
          intro m hm h
          cases h with
          | one h =>
            rcases ih p (hm p (by simp)) _ h with ⟨c, rfl, hc⟩ | ⟨a, q, b, rfl, h1, h2, h3⟩
            · exact .inl (.one hc)
            · exact .inr ⟨a, q, b, rfl, h1, h2, .one h3⟩
          | more h h' =>
            rename_i q r m m'
            rcases ih p (hm p (by simp)) _ h with ⟨c, rfl, hc⟩ | ⟨a, x, b, rfl, h1, h2, h3⟩
            · rcases ih2 _ (fun z hz => hm z (by simp [hz])) h' with h4 | ⟨a, x, b, rfl, h1, h2, h3⟩
              · exact .inl (.more hc h4)
              · refine .inr ⟨c :: 44 :: a, x, b, by simp, ?_, h2, ?_⟩
                · have := atom_sep hc
                  simp [h1]; omega
                · have := ExmL.more h h3
                  simpa using this
            · refine .inr ⟨a, x, b ++ 44 :: m', by simp, h1, h2, ?_⟩
              have := ExmL.more h3 h'
              simpa using this
      rcases key ps m (fun p hp => hp) h with h1 | ⟨a, x, b, rfl, h1, h2, h3⟩
      · exact .inr ⟨[], m, [], by simp, by simp, h1, by simpa using Exm.done⟩
      · refine .inr ⟨87 :: 40 :: a, x, b ++ [41], by simp, by simp [h1], h2, ?_⟩
        have := Exm.begun (w := w) h3
        simpa using this
theorem first_one {c : Nat} : ∀ {x y r s : List Nat}, x ++ c :: r = y ++ c :: s → c ∉ x → c ∉ y → x = y ∧ r = s
  | [], [], r, s, e, _, _ => ⟨rfl, (List.cons.inj e).2⟩
  | [], b :: y, r, s, e, _, h => by have := (List.cons.inj e).1; exact absurd (by simp [this]) h
  | a :: x, [], r, s, e, h, _ => by have := (List.cons.inj e).1; exact absurd (by simp [this]) h
  | a :: x, b :: y, r, s, e, h1, h2 => by
    have e' := List.cons.inj e
    obtain ⟨z1, z2⟩ := first_one e'.2 (fun z => h1 (by simp [z])) (fun z => h2 (by simp [z]))
    exact ⟨by rw [e'.1, z1], z2⟩
theorem last_one {c : Nat} {x y r s : List Nat} (e : x ++ c :: r = y ++ c :: s) (h1 : c ∉ r) (h2 : c ∉ s) : x = y ∧ r = s := by
  have e' : r.reverse ++ c :: x.reverse = s.reverse ++ c :: y.reverse := by
    have := congrArg List.reverse e
    simpa using this
  obtain ⟨z1, z2⟩ := first_one e' (by simpa using h1) (by simpa using h2)
  exact ⟨by have := congrArg List.reverse z2; simpa using this, by have := congrArg List.reverse z1; simpa using this⟩
theorem exm_fin {t : Tm} {m : List Nat} (h : Exm t m) (hn : 41 ∉ m) : ∃ c, m = [c] ∧ atom c := by
  rcases exm_step t m h with h | ⟨p, q, r, rfl, _⟩
  · exact h
  · exact absurd (by simp) hn
theorem exm_begins {t : Tm} {x r : List Nat} (h : Exm t (x ++ 41 :: r)) (h1 : 41 ∉ x) : 40 ∈ x := by
  rcases exm_step t _ h with ⟨c, e, hc⟩ | ⟨p, q, r', e, h2, h3, _⟩
  · cases x with
    | nil => have := (List.cons.inj e).1; have := atom_sep hc; omega
    | cons a x => have := congrArg List.length e; simp at this
  · have e' : x ++ 41 :: r = (p ++ 87 :: 40 :: q) ++ 41 :: r' := by rw [e]; simp
    obtain ⟨rfl, _⟩ := first_one e' h1 (by have := h3.free.2; simp [h2, this])
    simp
theorem exm_turn {t : Tm} {y q r : List Nat} (h : Exm t (y ++ 40 :: (q ++ 41 :: r))) (h1 : 41 ∉ y) (h2 : 41 ∉ q) (h3 : 40 ∉ q) : ∃ p, y = p ++ [87] ∧ AtL q ∧ Exm t (p ++ 84 :: r) := by
  rcases exm_step t _ h with ⟨c, e, hc⟩ | ⟨p, q', r', e, h4, h5, h6⟩
  · have := congrArg List.length e; simp at this; omega
  · have e' : (y ++ 40 :: q) ++ 41 :: r = (p ++ 87 :: 40 :: q') ++ 41 :: r' := by
      rw [show (y ++ 40 :: q) ++ 41 :: r = y ++ 40 :: (q ++ 41 :: r) by simp, e]; simp
    obtain ⟨e1, rfl⟩ := first_one e' (by simp [h1, h2]) (by have := h5.free.2; simp [h4, this])
    obtain ⟨e2, rfl⟩ := last_one (show y ++ 40 :: q = (p ++ [87]) ++ 40 :: q' by rw [e1]; simp) h3 h5.free.1
    exact ⟨p, e2, h5, h6⟩
/-! the marks of a term's line -/
mutual
def Tm.mks : Tm → List Nat
  | .num _ => [78]
  | .name _ => [87]
  | .blank _ => [66]
  | .thing _ ps => 87 :: 40 :: (mksL ps ++ [41])
def mksL : List Tm → List Nat
  | [] => []
  | p :: r => p.mks ++ mksT r
def mksT : List Tm → List Nat
  | [] => []
  | p :: r => 44 :: (p.mks ++ mksT r)
end
theorem mks_exm (t : Tm) : t.Gd → Exm t t.mks := by
  induction t using Tm.ind with
  | h1 n => intro _; exact .leaf (t := .num n) trivial
  | h2 n => intro _; exact .leaf (t := .name n) trivial
  | h3 n => intro _; exact .leaf (t := .blank n) trivial
  | h4 w ps ih =>
    intro h
    simp only [Tm.Gd] at h
    obtain ⟨_, hne, hg⟩ := h
    have key : ∀ (r : List Tm) (p : Tm), (∀ x ∈ p :: r, x ∈ ps) → ExmL (p :: r) (p.mks ++ mksT r) := by
      intro r
      induction r with
      | nil => intro p hm; rw [mksT, List.append_nil]; exact .one (ih p (hm p (by simp)) (gdL_mem hg (hm p (by simp))))
      | cons q r ih2 => intro p hm; rw [mksT]; exact .more (ih p (hm p (by simp)) (gdL_mem hg (hm p (by simp)))) (ih2 q fun x hx => hm x (by simp only [List.mem_cons] at hx ⊢; exact .inr hx))
    cases ps with
    | nil => exact absurd rfl hne
    | cons p r => exact .begun (key r p fun x hx => hx)
def StopN (k : List Nat) : Prop := k = [] ∨ ∃ c r, k = c :: r ∧ sep c = true
theorem toks_word : ∀ (l k cur : List Nat), (∀ c ∈ l, sep c = false) → toks (l ++ k) cur = toks k (cur ++ l)
  | [], k, cur, _ => by simp
  | c :: l, k, cur, h => by
    rw [List.cons_append, toks, if_neg (by rw [h c (by simp)]; simp), toks_word l k _ (fun x hx => h x (by simp [hx]))]
    simp
theorem toks_stop {k l : List Nat} (hk : StopN k) (hl : l ≠ []) : toks k l = kindN l :: toks k [] := by
  have e : told l = [kindN l] := if_neg hl
  have e0 : told [] = [] := if_pos rfl
  rcases hk with rfl | ⟨c, r, rfl, hc⟩
  · simp only [toks, e, e0]
  · simp only [toks, hc, if_true, e, e0]; simp
theorem letter_sep {c : Nat} (h : letter c = true) : sep c = false := by
  unfold letter rg at h
  rw [Bool.and_eq_true, decide_eq_true_eq, decide_eq_true_eq] at h
  unfold sep
  simp
  omega
theorem figure_sep {c : Nat} (h : figure c = true) : sep c = false := by
  unfold figure rg at h
  rw [Bool.and_eq_true, decide_eq_true_eq, decide_eq_true_eq] at h
  unfold sep
  simp
  omega
theorem leaf_sep {t : Tm} (h : t.Gd) (hl : t.lf) : t.line ≠ [] ∧ ∀ c ∈ t.line, sep c = false := by
  cases t with
  | num n =>
    obtain ⟨sg, m, e, hh⟩ := numS_split n
    simp only [Tm.line]
    rw [e]
    refine ⟨fun z => figs_ne m (List.append_eq_nil_iff.mp z).2, fun c hc => ?_⟩
    rcases List.mem_append.mp hc with hc | hc
    · rcases hh with ⟨rfl, _⟩ | ⟨rfl, _⟩
      · simp at hc
      · simp at hc; subst hc; decide
    · exact figure_sep (figs_rg m c hc)
  | name w => exact ⟨h.1, fun c hc => letter_sep (h.2 c hc)⟩
  | blank w =>
    refine ⟨by simp [Tm.line], fun c hc => ?_⟩
    simp only [Tm.line, List.mem_cons] at hc
    rcases hc with rfl | hc
    · decide
    · exact letter_sep (h.2 c hc)
  | thing w ps => exact absurd hl (by simp [Tm.lf])
theorem toks_leaf {t : Tm} (h : t.Gd) (hl : t.lf) {k : List Nat} (hk : StopN k) : toks (t.line ++ k) [] = t.kd :: toks k [] := by
  obtain ⟨h1, h2⟩ := leaf_sep h hl
  rw [toks_word _ _ _ h2, List.nil_append, toks_stop hk h1, kindN_of h hl]
theorem toks_sep {c : Nat} (h : sep c = true) (k : List Nat) : toks (c :: k) [] = c :: toks k [] := by
  rw [toks, if_pos h, told, if_pos rfl, List.nil_append]
theorem toks_line (t : Tm) : t.Gd → ∀ k, StopN k → toks (t.line ++ k) [] = t.mks ++ toks k [] := by
  induction t using Tm.ind with
  | h1 n => intro h k hk; exact toks_leaf h trivial hk
  | h2 n => intro h k hk; exact toks_leaf h trivial hk
  | h3 n => intro h k hk; exact toks_leaf h trivial hk
  | h4 w ps ih =>
    intro h k hk
    simp only [Tm.Gd] at h
    obtain ⟨hw, hne, hg⟩ := h
    have tl : ∀ (r : List Tm) (k : List Nat), (∀ x ∈ r, x ∈ ps) → StopN k → toks (tailL r ++ k) [] = mksT r ++ toks k [] ∧ StopN (tailL r ++ k) := by
      intro r
      induction r with
      | nil => intro k _ hk; exact ⟨rfl, hk⟩
      | cons q r ih2 =>
        intro k hm hk
        obtain ⟨e1, e2⟩ := ih2 k (fun x hx => hm x (by simp [hx])) hk
        refine ⟨?_, .inr ⟨44, _, rfl, by decide⟩⟩
        rw [tailL, List.cons_append, toks_sep (by decide), List.append_assoc, ih q (hm q (by simp)) (gdL_mem hg (hm q (by simp))) _ e2, e1, mksT]
        simp
    cases ps with
    | nil => exact absurd rfl hne
    | cons p r =>
      obtain ⟨e1, e2⟩ := tl r (41 :: k) (fun x hx => by simp [hx]) (.inr ⟨41, _, rfl, by decide⟩)
      have e : (Tm.thing w (p :: r)).line ++ k = (Tm.name w).line ++ (40 :: (p.line ++ (tailL r ++ 41 :: k))) := by simp [Tm.line, lineL]
      rw [e, toks_leaf (t := .name w) hw trivial (.inr ⟨40, _, rfl, by decide⟩), toks_sep (by decide), ih p (by simp) (gdL_mem hg (by simp)) _ e2, e1, toks_sep (by decide)]
      simp [Tm.mks, Tm.kd, mksL]
theorem marks_exm {t : Tm} (h : t.Gd) : Exm t (toks t.line []) := by
  have e := toks_line t h [] (.inl rfl)
  rw [List.append_nil] at e
  rw [e]
  simpa [toks, told] using mks_exm t h
/-! parts of a text cut at the commas -/
theorem atl_of : ∀ {ps : List (List Nat)}, ps ≠ [] → (∀ p ∈ ps, ∃ c, atom c ∧ p = [c]) → AtL (([44] : List Nat).intercalate ps)
  | [p], _, h => by
    obtain ⟨c, hc, rfl⟩ := h p (by simp)
    simpa [List.intercalate] using AtL.one hc
  | p :: q :: r, _, h => by
    obtain ⟨c, hc, rfl⟩ := h p (by simp)
    have := atl_of (ps := q :: r) (by simp) fun x hx => h x (by simp only [List.mem_cons] at hx ⊢; exact .inr hx)
    have e : ([44] : List Nat).intercalate ([c] :: q :: r) = c :: 44 :: ([44] : List Nat).intercalate (q :: r) := by simp [List.intercalate]
    rw [e]
    exact .more hc this
theorem of_atl : ∀ {ps : List (List Nat)}, (∀ p ∈ ps, 44 ∉ p) → AtL (([44] : List Nat).intercalate ps) → ∀ p ∈ ps, ∃ c, atom c ∧ p = [c]
  | [p], hf, h => by
    intro x hx
    simp at hx
    subst hx
    have e : ([44] : List Nat).intercalate [x] = x := by simp [List.intercalate]
    rw [e] at h
    cases h with
    | one h => exact ⟨_, h, rfl⟩
    | more h _ => exact absurd (List.mem_cons_of_mem _ (List.mem_cons_self ..)) (hf _ (List.mem_cons_self ..))
  | p :: q :: r, hf, h => by
    have e : ([44] : List Nat).intercalate (p :: q :: r) = p ++ 44 :: ([44] : List Nat).intercalate (q :: r) := by simp [List.intercalate]
    rw [e] at h
    have hp := hf p (by simp)
    generalize he : p ++ 44 :: ([44] : List Nat).intercalate (q :: r) = z at h
    cases h with
    | one h =>
      cases p with
      | nil => have := (List.cons.inj he).1; have := atom_sep h; omega
      | cons a p => have := congrArg List.length he; simp at this
    | more h h' =>
      rename_i c m
      have hc := atom_sep h
      obtain ⟨rfl, rfl⟩ := first_one (x := p) (y := [c]) (show p ++ 44 :: _ = [c] ++ 44 :: m from he) hp (by simp; omega)
      intro x hx
      rcases List.mem_cons.mp hx with rfl | hx
      · exact ⟨c, h, rfl⟩
      · exact of_atl (fun p hp => hf p (by simp only [List.mem_cons] at hp ⊢; exact .inr hp)) h' x hx
end BF
set_option Elab.async false
set_option linter.all false
set_option maxRecDepth 100000
namespace BF
open PySem
/-! ### runs of figures, and good terms with bounded numbers -/
def Rn (m : Nat) (l : List Nat) : Prop := ∀ i, ((l.drop i).takeWhile figure).length ≤ m
theorem tw_len {p : Nat → Bool} (l : List Nat) : (l.takeWhile p).length ≤ l.length := (List.takeWhile_sublist _).length_le
theorem tw_app {p : Nat → Bool} (a b : List Nat) : ((a ++ b).takeWhile p).length ≤ (a.takeWhile p).length + (b.takeWhile p).length ∧ (a.takeWhile p).length ≤ ((a ++ b).takeWhile p).length := by
  induction a with
  | nil => simp
  | cons c r ih =>
    simp only [List.cons_append, List.takeWhile_cons]
    split
    · simp only [List.length_cons]; omega
    · simp
theorem tw_self {p : Nat → Bool} : ∀ {l : List Nat}, (∀ c ∈ l, p c = true) → l.takeWhile p = l
  | [], _ => rfl
  | c :: r, h => by rw [List.takeWhile_cons, h c (by simp), if_pos rfl, tw_self fun x hx => h x (by simp [hx])]
theorem dw_nil {p : Nat → Bool} : ∀ {l : List Nat}, l.dropWhile p = [] ↔ ∀ c ∈ l, p c = true
  | [] => by simp
  | c :: r => by
    rw [List.dropWhile_cons]
    split
    · rename_i h
      rw [dw_nil]
      simp [h]
    · rename_i h
      simp [h]
theorem Rn.le {m n : Nat} {l : List Nat} (h : Rn m l) (hm : m ≤ n) : Rn n l := fun i => Nat.le_trans (h i) hm
theorem rn_len {m : Nat} {l : List Nat} (h : l.length ≤ m) : Rn m l := fun i => by
  have := tw_len (p := figure) (l.drop i)
  rw [List.length_drop] at this
  omega
theorem Rn.left {m : Nat} {a b : List Nat} (h : Rn m (a ++ b)) : Rn m a := fun i => by
  by_cases hi : i ≤ a.length
  · have := h i
    rw [List.drop_append_of_le_length hi] at this
    have := (tw_app (p := figure) (a.drop i) b).2
    omega
  · rw [List.drop_eq_nil_of_le (by omega)]; simp
theorem Rn.right {m : Nat} {a b : List Nat} (h : Rn m (a ++ b)) : Rn m b := fun i => by
  have := h (a.length + i)
  rwa [List.drop_append, List.drop_eq_nil_of_le (by omega), List.nil_append, show a.length + i - a.length = i by omega] at this
theorem Rn.drop {m : Nat} {a : List Nat} (h : Rn m a) (i : Nat) : Rn m (a.drop i) := by
  have : Rn m (a.take i ++ a.drop i) := by rw [List.take_append_drop]; exact h
  exact this.right
theorem Rn.take {m : Nat} {a : List Nat} (h : Rn m a) (i : Nat) : Rn m (a.take i) := by
  have : Rn m (a.take i ++ a.drop i) := by rw [List.take_append_drop]; exact h
  exact this.left
theorem rn_app {m n : Nat} {a b : List Nat} (h : Rn m a) (g : Rn n b) : Rn (m + n) (a ++ b) := fun i => by
  by_cases hi : i ≤ a.length
  · rw [List.drop_append_of_le_length hi]
    have h1 := (tw_app (p := figure) (a.drop i) b).1
    have h2 := h i
    have h3 := g 0
    rw [List.drop_zero] at h3
    omega
  · have e : (a ++ b).drop i = b.drop (i - a.length) := by
      rw [List.drop_append, List.drop_eq_nil_of_le (by omega), List.nil_append]
    rw [e]
    have := g (i - a.length)
    omega
theorem rn_sep {m : Nat} {a b : List Nat} {s : Nat} (hs : figure s = false) (h : Rn m a) (g : Rn m b) : Rn m (a ++ s :: b) := fun i => by
  by_cases hi : i ≤ a.length
  · rw [List.drop_append_of_le_length hi]
    have h1 := (tw_app (p := figure) (a.drop i) (s :: b)).1
    rw [List.takeWhile_cons, hs] at h1
    have h2 := h i
    simp at h1
    omega
  · have e : (a ++ s :: b).drop i = b.drop (i - a.length - 1) := by
      rw [List.drop_append, List.drop_eq_nil_of_le (by omega), List.nil_append, show i - a.length = (i - a.length - 1) + 1 by omega, List.drop_succ_cons]
      rfl
    rw [e]
    exact g _
theorem rn_cons {m : Nat} {b : List Nat} {s : Nat} (hs : figure s = false) (g : Rn m b) : Rn m (s :: b) := rn_sep (a := []) hs (rn_len (by simp)) g
theorem rn_lw {w : Str} (h : ∀ c ∈ w.cps.toList, letter c = true) (m : Nat) : Rn m w.cps.toList := fun i => by
  have e : (w.cps.toList.drop i).takeWhile figure = [] := by
    cases hd : w.cps.toList.drop i with
    | nil => rfl
    | cons c r =>
      have hc := h c (List.mem_of_mem_drop (by rw [hd]; simp))
      unfold letter rg at hc
      rw [Bool.and_eq_true, decide_eq_true_eq, decide_eq_true_eq] at hc
      rw [List.takeWhile_cons, if_neg]
      unfold figure rg
      rw [Bool.and_eq_true, decide_eq_true_eq, decide_eq_true_eq]
      omega
  rw [e]
  simp
theorem wd_lw {w : Str} (h : Wd w) : Lw w := ⟨fun e => by have := h.1; rw [e] at this; simp at this, fun c hc => by
  have := h.2.2 c hc
  unfold letter rg
  rw [Bool.and_eq_true, decide_eq_true_eq, decide_eq_true_eq]
  omega⟩
theorem gdL_iff (l : List Tm) : GdL l ↔ ∀ t ∈ l, t.Gd := by
  induction l with
  | nil => simp [GdL]
  | cons x r ih => simp [GdL, ih]
theorem Tm.Ok.gd (t : Tm) : t.Ok → t.Gd := by
  induction t using Tm.ind with
  | h1 n => intro _; trivial
  | h2 w => intro h; exact wd_lw h
  | h3 w => intro h; exact wd_lw h
  | h4 w ps ih =>
    intro h
    simp only [Tm.Ok] at h
    simp only [Tm.Gd]
    exact ⟨wd_lw h.1, h.2.1, (gdL_iff _).mpr fun t ht => ih t ht ((okL_iff _).mp h.2.2 t ht)⟩
theorem rn_line (t : Tm) : t.Ok → Rn 63 t.line := by
  induction t using Tm.ind with
  | h1 n => intro h; exact rn_len (numS_len h)
  | h2 w => intro h; exact rn_lw (wd_lw h).2 _
  | h3 w => intro h; exact rn_cons (by decide) (rn_lw (wd_lw h).2 _)
  | h4 w ps ih =>
    intro h
    simp only [Tm.Ok] at h
    have hp := (okL_iff _).mp h.2.2
    have tl : ∀ r : List Tm, (∀ x ∈ r, x ∈ ps) → ∀ k, Rn 63 k → (∀ c, k.head? = some c → figure c = false) → Rn 63 (tailL r ++ k) ∧ (∀ c, (tailL r ++ k).head? = some c → figure c = false) := by
      intro r
      induction r with
      | nil => intro _ k hk hc; exact ⟨hk, hc⟩
      | cons p r ih2 =>
        intro hm k hk hc
        obtain ⟨h1, h2⟩ := ih2 (fun x hx => hm x (by simp [hx])) k hk hc
        have h3 := ih p (hm p (by simp)) (hp p (hm p (by simp)))
        refine ⟨?_, fun c z => by simp [tailL] at z; subst z; decide⟩
        rw [tailL, List.cons_append, List.append_assoc]
        refine rn_cons (by decide) ?_
        cases e : tailL r ++ k with
        | nil => rw [List.append_nil]; exact h3
        | cons c z =>
          rw [e] at h1 h2
          have h4 : Rn 63 z := by have := h1.drop 1; simpa using this
          exact rn_sep (h2 c rfl) h3 h4
    have h1 := rn_lw (wd_lw h.1).2 63
    simp only [Tm.line]
    refine rn_sep (by decide) h1 ?_
    cases ps with
    | nil => exact absurd rfl h.2.1
    | cons p r =>
      obtain ⟨h2, h3⟩ := tl r (fun x hx => by simp [hx]) [41] (rn_len (by simp)) (fun c z => by simp at z; subst z; decide)
      have h4 := ih p (by simp) (hp p (by simp))
      rw [lineL, List.append_assoc]
      cases e : tailL r ++ [41] with
      | nil => rw [List.append_nil]; exact h4
      | cons c z =>
        rw [e] at h2 h3
        have h5 : Rn 63 z := by have := h2.drop 1; simpa using this
        exact rn_sep (h3 c rfl) h4 h5
/-! numbers of at most 401 signs -/
mutual
def Tm.Nb : Tm → Prop
  | .num n => (numS n).length ≤ 401
  | .thing _ ps => NbL ps
  | _ => True
def NbL : List Tm → Prop
  | [] => True
  | p :: r => p.Nb ∧ NbL r
end
theorem nbL_iff (l : List Tm) : NbL l ↔ ∀ t ∈ l, t.Nb := by
  induction l with
  | nil => simp [NbL]
  | cons x r ih => simp [NbL, ih]
theorem nb_of (t : Tm) : Rn 400 t.line → t.Nb := by
  induction t using Tm.ind with
  | h1 n =>
    intro h
    obtain ⟨sg, m, e, hh⟩ := numS_split n
    simp only [Tm.line] at h
    simp only [Tm.Nb]
    rw [e] at h ⊢
    have h1 := h.right 0
    rw [List.drop_zero, tw_self (p := figure) (figs_rg m)] at h1
    rw [List.length_append]
    rcases hh with ⟨rfl, _⟩ | ⟨rfl, _⟩ <;> simp <;> omega
  | h2 w => intro _; simp only [Tm.Nb]
  | h3 w => intro _; simp only [Tm.Nb]
  | h4 w ps ih =>
    intro h
    simp only [Tm.line] at h
    have h1 := h.right.drop 1
    simp only [List.drop_succ_cons, List.drop_zero] at h1
    have h2 := h1.left
    have tl : ∀ r : List Tm, (∀ x ∈ r, x ∈ ps) → Rn 400 (tailL r) → ∀ t ∈ r, t.Nb := by
      intro r
      induction r with
      | nil => intro _ _ t ht; simp at ht
      | cons p r ih2 =>
        intro hm hr t ht
        rw [tailL] at hr
        have h3 := hr.drop 1
        simp only [List.drop_succ_cons, List.drop_zero] at h3
        rcases List.mem_cons.mp ht with rfl | ht
        · exact ih t (hm t (by simp)) h3.left
        · exact ih2 (fun x hx => hm x (by simp [hx])) h3.right t ht
    simp only [Tm.Nb]
    rw [nbL_iff]
    cases ps with
    | nil => intro t ht; simp at ht
    | cons p r =>
      rw [lineL] at h2
      intro t ht
      rcases List.mem_cons.mp ht with rfl | ht
      · exact ih t (by simp) h2.left
      · exact tl r (fun x hx => by simp [hx]) h2.right t ht
theorem dv_lt : ∀ (l : List Nat) (a : Nat), (∀ c ∈ l, figure c = true) → l.foldl (fun a c => a * 10 + (c - 48)) a < (a + 1) * 10 ^ l.length
  | [], a, _ => by simp
  | c :: r, a, h => by
    have hc := h c (by simp)
    unfold figure rg at hc
    rw [Bool.and_eq_true, decide_eq_true_eq, decide_eq_true_eq] at hc
    have h1 := dv_lt r (a * 10 + (c - 48)) fun x hx => h x (by simp [hx])
    rw [List.foldl_cons, List.length_cons, Nat.pow_succ]
    refine Nat.lt_of_lt_of_le h1 ?_
    have : (a * 10 + (c - 48) + 1) ≤ (a + 1) * 10 := by omega
    calc (a * 10 + (c - 48) + 1) * 10 ^ r.length ≤ ((a + 1) * 10) * 10 ^ r.length := Nat.mul_le_mul_right _ this
      _ = (a + 1) * (10 ^ r.length * 10) := by rw [Nat.mul_assoc, Nat.mul_comm 10]
set_option exponentiation.threshold 500 in
theorem nb_small {n : Int} (h : (Tm.num n).Nb) : n.natAbs.log2 < 1920 := by
  simp only [Tm.Nb] at h
  obtain ⟨sg, m, e, hh⟩ := numS_split n
  rw [e, List.length_append] at h
  have h1 := dv_lt (figs m) 0 (figs_rg m)
  have h2 : (figs m).foldl (fun a c => a * 10 + (c - 48)) 0 = m := figs_val m
  rw [h2] at h1
  have h3 : m < 10 ^ 401 := by
    refine Nat.lt_of_lt_of_le h1 ?_
    rw [Nat.zero_add, Nat.one_mul]
    exact Nat.pow_le_pow_right (by decide) (by omega)
  have h4 : n.natAbs = m := by rcases hh with ⟨_, rfl⟩ | ⟨_, rfl, _⟩ <;> simp
  rw [h4]
  by_cases h0 : m = 0
  · rw [h0]; decide
  · rw [Nat.log2_lt h0]
    exact Nat.lt_trans h3 (by decide +kernel)
theorem nodes_line (t : Tm) : t.Gd → t.nodes ≤ t.line.length := by
  induction t using Tm.ind with
  | h1 n =>
    intro _
    obtain ⟨c, r, e, _⟩ := num_head (n := n) []
    rw [List.append_nil] at e
    simp [Tm.line, Tm.nodes, e]
  | h2 w => intro h; simp only [Tm.line, Tm.nodes]; exact List.length_pos_iff.mpr h.1
  | h3 w => intro h; simp [Tm.line, Tm.nodes]
  | h4 w ps ih =>
    intro h
    simp only [Tm.Gd] at h
    have hp := (gdL_iff _).mp h.2.2
    have tl : ∀ r : List Tm, (∀ x ∈ r, x ∈ ps) → nodesL r ≤ (tailL r).length := by
      intro r
      induction r with
      | nil => intro _; simp [nodesL]
      | cons p r ih2 =>
        intro hm
        have h1 := ih2 fun x hx => hm x (by simp [hx])
        have h2 := ih p (hm p (by simp)) (hp p (hm p (by simp)))
        simp only [nodesL, tailL, List.length_cons, List.length_append]
        omega
    cases ps with
    | nil => exact absurd rfl h.2.1
    | cons p r =>
      have h1 := tl r fun x hx => by simp [hx]
      have h2 := ih p (by simp) (hp p (by simp))
      simp only [Tm.nodes, nodesL, Tm.line, lineL, List.length_append, List.length_cons, List.length_nil]
      omega
def PcG : Pc → Prop
  | .sg x => x.cps.toList.length ≤ 1
  | .tm u => u.Gd ∧ u.Nb
theorem pushed_g {t : Tm} {ts : List Tm} (h : GdL (t :: ts)) (g : NbL (t :: ts)) : ∀ c ∈ pushed t ts, PcG c := by
  rw [gdL_iff] at h
  rw [nbL_iff] at g
  intro c hc
  unfold pushed commas at hc
  simp only [List.mem_append, List.mem_cons, List.not_mem_nil, or_false, List.mem_flatMap, List.mem_reverse] at hc
  rcases hc with (rfl | ⟨u, hu, rfl | rfl⟩) | rfl
  · simp [PcG, close_cps]
  · exact ⟨h u (by simp [hu]), g u (by simp [hu])⟩
  · simp [PcG, comma_cps]
  · exact ⟨h t (by simp), g t (by simp)⟩
end BF
set_option Elab.async false
set_option linter.all false
set_option maxRecDepth 100000
namespace BF
open PySem PySem.Spec PyProof.Rows L2
open Sem (wp)

/-! ### list comprehensions -/
/-- the cells that a comprehension's block sees -/
def closOf (env : Env) : List (Str × NameKind) → List (Str × Addr) → List (Str × Addr)
  | [], cs => cs
  | (n, k) :: r, cs => closOf env r (if (k == NameKind.free) = true then (match env.cells.lookup n with | some c => (n, c) :: cs | none => cs) else cs)
theorem closOf_eq (env : Env) (scope : Scope) (h : ∀ y ∈ scope.names, y.2 = .free → ∃ c, env.cells.lookup y.1 = some c) : closureFor scope env = pure (closOf env scope.names []) := by
  unfold closureFor
  have key : ∀ (l : List (Str × NameKind)) (cs : List (Str × Addr)), (∀ y ∈ l, y.2 = .free → ∃ c, env.cells.lookup y.1 = some c) →
      (forIn l cs fun x r => match x with | (name, kind) => if (kind == NameKind.free) = true then (do let a ← cellOf env name; pure (ForInStep.yield ((name, a) :: r))) else pure (ForInStep.yield r) : Sem (List (Str × Addr))) = pure (closOf env l cs) := by
    intro l
    induction l with
    | nil => intro cs _; rfl
    | cons y r ih =>
      intro cs hl
      obtain ⟨n, k⟩ := y
      rw [List.forIn_cons]
      by_cases hk : k = .free
      · subst hk
        obtain ⟨c, hc⟩ := hl (n, .free) List.mem_cons_self rfl
        have e : cellOf env n = pure c := by unfold cellOf; rw [hc]
        simp only [beq_self_eq_true, if_true, e, closOf, hc, pure_bind]
        exact ih _ fun y hy => hl y (List.mem_cons_of_mem _ hy)
      · have hb : (k == NameKind.free) = false := by simpa using hk
        simp only [hb, Bool.false_eq_true, if_false, closOf, pure_bind]
        exact ih _ fun y hy => hl y (List.mem_cons_of_mem _ hy)
  have := key scope.names [] h
  simpa using this
theorem closOf_sound (env : Env) : ∀ (l : List (Str × NameKind)) (cs : List (Str × Addr)), (∀ x c, cs.lookup x = some c → env.cells.lookup x = some c) → ∀ x c, (closOf env l cs).lookup x = some c → env.cells.lookup x = some c := by
  intro l
  induction l with
  | nil => intro cs h x c e; exact h x c e
  | cons y r ih =>
    intro cs h x c e
    obtain ⟨n, k⟩ := y
    simp only [closOf] at e
    refine ih _ (fun x c e => ?_) x c e
    split at e
    · split at e
      · next c' hc =>
        rw [List.lookup_cons] at e
        split at e
        · next hx =>
          have hx' : x = n := by simpa using hx
          cases e
          rw [hx']
          exact hc
        · exact h x c e
      · exact h x c e
    · exact h x c e
theorem closOf_has (env : Env) : ∀ (l : List (Str × NameKind)) (cs : List (Str × Addr)) (x : Str), ((x, NameKind.free) ∈ l ∧ (∃ c, env.cells.lookup x = some c)) ∨ (∃ c, cs.lookup x = some c) → ∃ c, (closOf env l cs).lookup x = some c := by
  intro l
  induction l with
  | nil =>
    intro cs x h
    rcases h with ⟨h, _⟩ | h
    · simp at h
    · exact h
  | cons y r ih =>
    intro cs x h
    obtain ⟨n, k⟩ := y
    simp only [closOf]
    rcases h with ⟨h, c, hc⟩ | ⟨c, hc⟩
    · rcases List.mem_cons.mp h with e | e
      · cases e
        refine ih _ _ (.inr ⟨c, ?_⟩)
        simp [hc]
      · exact ih _ _ (.inl ⟨e, c, hc⟩)
    · refine ih _ _ (.inr ?_)
      split
      · split
        · rw [List.lookup_cons]
          split
          · exact ⟨_, rfl⟩
          · exact ⟨c, hc⟩
        · exact ⟨c, hc⟩
      · exact ⟨c, hc⟩
/-- the block's context -/
abbrev cmp (X : Cx) (Nc : List Str) (scope : Scope) (C : Addr) (s₀ : Shared) (H₀ : Hp) (fp : List Addr) : Cx :=
  { X with N := Nc, s₀ := s₀, H₀ := H₀, env := compEnvC scope (closOf X.env scope.names []) C X.env, outer := X.stack, stack := X.stack, ex := fp, fn := fun _ => false, xe := fun _ _ => False }
/-- a comprehension's tests -/
def PTs (X : Cx) (ifs : List Expr) (tt : TT) : Prop :=
  ∀ (pins : List (Addr × Obj)) (s : Shared) (σ : L2.St) (H : Hp) (Q : Bool → Hp → Prop), Inv X pins σ H s → tt σ H Q →
    wpAny (model X.prog X.w) X.A (forIn ifs true fun c r => if r = true then do let ok ← isTrue c X.env (eval c X.env); pure (ForInStep.yield ok) else pure (ForInStep.yield r)) (TP X pins σ Q) X.xe s
def tAll : TT := fun _ H Q => Q true H
theorem pts_nil {X : Cx} : PTs X [] tAll := fun _ _ _ H _ I h => wpAny_tests_nil ⟨H, I, h⟩
section
variable {prog : Program} {w : World} {A : Around} {E : Value → Shared → Prop} {R : Result → Shared → Prop} {s : Shared}
theorem compLoop_go {elt target iter : Expr} {ifs : List Expr} {scope : Scope} {pos : Pos} {it acc : Value} {env : Env} (I : Nat → Shared → Prop)
    (turn : ∀ n s, I n s → wpAny (model prog w) A (pyNext it) (fun r s₁ => match r with
      | none => R (.ok .next) s₁
      | some v => wpAny (model prog w) A (letOwnedTupleGo target it v) (fun _ s₀ => wpAny (model prog w) A (assign target env v) (fun _ s₂ =>
          wpAny (model prog w) A (forIn ifs true fun c r => if r = true then do let ok ← isTrue c env (eval c env); pure (ForInStep.yield ok) else pure (ForInStep.yield r)) (fun ok s₃ =>
            if ok = true then wpAny (model prog w) A (eval elt env) (fun x s₄ =>
              wpAny (model prog w) A (call (.builtin "list.append") [acc, x]) (fun _ s₅ => ∃ m, m < n ∧ I m s₅) (notedBy (model prog w) A env fun e s' => R (.error e) s') s₄) (notedBy (model prog w) A env fun e s' => R (.error e) s') s₃
            else ∃ m, m < n ∧ I m s₃) (notedBy (model prog w) A env fun e s' => R (.error e) s') s₂) (notedBy (model prog w) A env fun e s' => R (.error e) s') s₀) (notedBy (model prog w) A env fun e s' => R (.error e) s') s₁) (notedBy (model prog w) A env fun e s' => R (.error e) s') s)
    (n : Nat) (h : I n s) :
    codeAny (model prog w) A (.compLoop (.ListComp elt [⟨target, iter, ifs, 0⟩] scope pos) 0 it acc env) R s := by
  refine codeAny_loop rfl I (fun n s hI => ?_) n h
  show wpAny _ A ((compTurn (.ListComp elt [⟨target, iter, ifs, 0⟩] scope pos) 0 it acc env).onRaise (fun x => do noteFrame x env; theTreesLotGoes x)) _ _ s
  refine wpAny_noted ?_
  rw [compTurn_list]
  refine wpAny_bind (wpAny_standAt (wpAny_bind (wpAny_mono (turn n s hI) (fun r s₁ h₁ => ?_) fun _ _ h' => h')))
  cases r with
  | none => exact wpAny_pure h₁
  | some v =>
    refine wpAny_bind (wpAny_mono h₁ (fun _ s₀ h₀ => ?_) fun _ _ h' => h')
    refine wpAny_bind (wpAny_mono h₀ (fun _ s₂ h₂ => wpAny_bind (wpAny_mono h₂ (fun ok s₃ h₃ => ?_) fun _ _ h' => h')) fun _ _ h' => h')
    cases ok with
    | false => exact wpAny_pure ⟨rfl, h₃⟩
    | true =>
      exact wpAny_bind (wpAny_bind (wpAny_mono h₃ (fun x s₄ h₄ => wpAny_bind (wpAny_mono h₄ (fun _ s₅ h₅ => wpAny_pure (wpAny_pure ⟨rfl, h₅⟩)) fun _ _ h' => h')) fun _ _ h' => h'))
end
/-- the names' values in the block: the targets' first, then those that it sees of the def's -/
def cst (σ : L2.St) (k : Nat) (js : List Nat) : L2.St := List.replicate k none ++ js.map fun j => (σ[j]?).join
/-- the turns of a comprehension whose list stands at D -/
def tCompW (g : TG) (tt : TT) (te : TE) (J : It) (σc : L2.St) (H1 : Hp) (D : Addr) (Q : Hp → Prop) : Prop :=
  ∃ W : Nat → Nat → L2.St → Hp → Prop, (∃ m, W 0 m σc H1) ∧ ∀ i m σ H, W i m σ H →
    (J.stop i H ∧ Q H) ∨ (J.go i H ∧ ∃ N : L2.St → Hp → Prop, (∀ σ' H', N σ' H' → ∃ m', m' < m ∧ W (i + 1) m' σ' H') ∧ ∀ x H', J.yld i H x H' → g x σ H' fun σ2 H2 => tt σ2 H2 fun b H3 =>
      if b = true then te σ2 H3 fun y H4 => ∃ ys, H4 D = some (.lst ys) ∧ ys.length < sizeLine ∧ N σ2 (upd H4 D (.lst (ys ++ [y]))) else N σ2 H3)
abbrev Fam (α : Type) := Addr → Shared → Hp → List Addr → α
def tComp (k : Nat) (js : List Nat) (wi : TI) (g : Fam TG) (tt : Fam TT) (te : Fam TE) : TE := fun σ H Q => wi σ H fun J H1 => ∀ D, H1 D = none → ∀ C s₀ H₀ fp, tCompW (g C s₀ H₀ fp) (tt C s₀ H₀ fp) (te C s₀ H₀ fp) J (cst σ k js) (upd H1 D (.lst [])) D fun H2 => Q (.ref D) H2
/-- what a comprehension's scope must be, beside the def's -/
structure CompSc (X : Cx) (Nc : List Str) (k : Nat) (js : List Nat) (scope : Scope) : Prop where
  kind : scope.kind = .function
  nocell : (scope.names.all fun y => y.2 != .cell) = true
  loc : (scope.names.all fun y => y.2 != .local || scope.names.lookup y.1 == some .local) = true
  fre : (scope.names.all fun y => y.2 != .free || X.env.scope.names.lookup y.1 == some .cell) = true
  len : Nc.length = k + js.length
  out : ((Nc.drop k).zip js).all (fun p => X.N[p.2]? == some p.1 && X.env.scope.names.lookup p.1 == some .cell && scope.names.lookup p.1 == some .free) = true
theorem lookup_relabel {env : Env} {x : Str} : ∀ {names : List (Str × NameKind)}, (names.map fun (n, k) => if (k == NameKind.free && env.scope.kind == .function && env.kindOf n == some .cell) then (n, NameKind.cell) else (n, k)).lookup x = some .cell ∨ (names.map fun (n, k) => if (k == NameKind.free && env.scope.kind == .function && env.kindOf n == some .cell) then (n, NameKind.cell) else (n, k)).lookup x = some .free →
    (names.all fun y => y.2 != .cell) = true → (x, NameKind.free) ∈ names
  | [], h, _ => by simp at h
  | (n, k) :: r, h, hc => by
    have hc' : k ≠ .cell ∧ (r.all fun y => y.2 != .cell) = true := by simpa using hc
    by_cases hx : x = n
    · subst hx
      by_cases hk : k = .free
      · rw [hk]; exact List.mem_cons_self
      · exfalso
        have hb : (k == NameKind.free) = false := by simpa using hk
        simp only [List.map_cons, hb, Bool.false_and, Bool.false_eq_true, if_false, List.lookup_cons, beq_self_eq_true] at h
        rcases h with h | h
        · exact hc'.1 (Option.some.inj h)
        · exact hk (Option.some.inj h)
    · have hb : (x == n) = false := by simpa using hx
      refine List.mem_cons_of_mem _ (lookup_relabel (env := env) ?_ hc'.2)
      simp only [List.map_cons] at h
      split at h <;> (simp only [List.lookup_cons, hb] at h; exact h)
theorem relabel_free {env : Env} {x : Str} : ∀ {names : List (Str × NameKind)}, names.lookup x = some .free →
    (names.map fun (n, k) => if (k == NameKind.free && env.scope.kind == .function && env.kindOf n == some .cell) then (n, NameKind.cell) else (n, k)).lookup x = some .cell ∨ (names.map fun (n, k) => if (k == NameKind.free && env.scope.kind == .function && env.kindOf n == some .cell) then (n, NameKind.cell) else (n, k)).lookup x = some .free
  | [], h => by simp at h
  | (n, k) :: r, h => by
    by_cases hx : x = n
    · subst hx
      simp only [List.lookup_cons, beq_self_eq_true] at h
      cases h
      simp only [List.map_cons]
      split
      · left; simp [List.lookup_cons]
      · right; simp [List.lookup_cons]
    · have hb : (x == n) = false := by simpa using hx
      simp only [List.lookup_cons, hb] at h
      have := relabel_free (env := env) h
      simp only [List.map_cons]
      split <;> (simp only [List.lookup_cons, hb]; exact this)
section
variable {X : Cx} {pins : List (Addr × Obj)} {σ : L2.St} {s2 : Shared} {tg elt iter : Expr} {ifs : List Expr} {scope : Scope} {pos : Pos} {Nc : List Str} {k : Nat} {js : List Nat} {g : Fam TG} {tt : Fam TT} {te : Fam TE} {J : It} {fp : List Addr} {it : Addr} {tn : Nat → Heap → Prop} {H2 : Hp}
theorem comp_inv {H3 : Hp} {s3 s4 : Shared} {C : Addr} {m4 : Str → Option Value} (S : CompSc X Nc k js scope) (I3 : Inv X pins σ H3 s3) (f3 : ∀ b ∈ fp, FpOk X pins H3 b) (hfp : ∀ b ∈ fp, ∃ o, s3.heap.get? b = some o) (hC : s3.heap.objs.size ≤ C)
    (ho : s4.os = s3.os) (hgn : s4.gens = s3.gens) (hk : ∀ b o, s3.heap.get? b = some o → s4.heap.get? b = some o) (hn : s4.heap.Ns C m4) : Inv (cmp X Nc scope C s3 H3 fp) [] (cst σ k js) H3 s4 := by
  have hclo : ∀ x c, (closOf X.env scope.names []).lookup x = some c → X.env.cells.lookup x = some c := closOf_sound X.env _ _ (fun _ _ e => by simp at e)
  have below : ∀ b, b ∈ fp → b ∉ frs X.stack := fun b hb z => (List.mem_cons.mp (I3.stkSub b z)).elim (f3 b hb).2.1 (f3 b hb).2.2.1
  have fresh : ∀ b o, s3.heap.get? b = some o → b ≠ C := fun b o e => Nat.ne_of_lt (Nat.lt_of_lt_of_le (Heap.lt_size e) hC)
  refine ⟨⟨I3.ok.mod, S.kind, I3.ok.glob, I3.ok.blt, hC, fun x y c h1 h2 => I3.ok.inj x y c (hclo x c h1) (hclo y c h2), fun x hx => ?_, fun x c h _ => absurd h Bool.false_ne_true, I3.ok.hd, I3.ok.frames, .inl rfl, fun b hb => ⟨?_, fun x c e => (f3 b hb).2.2.2.2.1 x c (hclo x c e)⟩, I3.bs,
      Nat.le_trans I3.ok.bsz I3.sz, fun b o e hb => ?_, below, I3.stack, I3.stkFree⟩, ho, by rw [hgn]; exact I3.bare, Un.kept hk, ⟨m4, hn, fun i x v h1 h2 h3 => ?_⟩, fun x c e => ?_, I3.hok.fresh hC, fun x c e => I3.freeC x c (hclo x c e), fun p hp => ?_, I3.hok.kept hk, ?_⟩
  · have hm := lookup_relabel (env := X.env) (names := scope.names) hx S.nocell
    refine closOf_has X.env _ _ x (.inl ⟨hm, ?_⟩)
    have := List.all_eq_true.mp S.fre _ hm
    have this' : X.env.scope.names.lookup x = some .cell := by simpa using this
    exact I3.ok.has x (.inl this')
  · obtain ⟨o, e⟩ := hfp b hb
    exact fresh b o e
  · rcases (f3 b hb).2.2.2.1 with z | z
    · exact I3.ok.noex b o e z
    · exact absurd (Nat.lt_of_lt_of_le (Heap.lt_size (I3.ok.bs b o e).1) z) (Nat.lt_irrefl _)
  · have hik : k ≤ i := by
      by_cases hi : k ≤ i
      · exact hi
      · exfalso
        have hi' : i < k := by omega
        unfold cst at h2
        rw [List.getElem?_append_left (by simpa using hi'), List.getElem?_replicate, if_pos hi'] at h2
        cases h2
    have h2' : (js[i - k]?).map (fun j => (σ[j]?).join) = some (some v) := by
      unfold cst at h2
      rw [List.getElem?_append_right (by simpa using hik)] at h2
      simpa using h2
    obtain ⟨j, hj, hv⟩ := Option.map_eq_some_iff.mp h2'
    have hσ : σ[j]? = some (some v) := by
      cases e : σ[j]? with
      | none => rw [e] at hv; cases hv
      | some o => rw [e] at hv; rw [show o = some v from hv]
    have hz : ((Nc.drop k).zip js)[i - k]? = some (x, j) := by
      rw [List.getElem?_zip_eq_some]
      refine ⟨?_, hj⟩
      rw [List.getElem?_drop]
      have : k + (i - k) = i := by omega
      rw [this]
      exact h1
    have ho := List.all_eq_true.mp S.out _ (List.mem_of_getElem? hz)
    simp only [Bool.and_eq_true, beq_iff_eq] at ho
    obtain ⟨⟨o1, o2⟩, o3⟩ := ho
    obtain ⟨m, hm, hl⟩ := I3.loc
    obtain ⟨u, r, l⟩ := hl j x v o1 hσ (.inr (.inl o2))
    rcases l with ⟨l, _⟩ | ⟨_, c, hc, o, hco, hcd⟩
    · have l' : X.env.scope.names.lookup x = some .local := l
      rw [o2] at l'
      cases l'
    · obtain ⟨c', hc'⟩ := closOf_has X.env scope.names [] x (.inl ⟨PySem.mem_of_lookup o3, c, hc⟩)
      have e := hclo x c' hc'
      rw [hc] at e
      cases e
      exact ⟨u, r, .inr ⟨relabel_free (env := X.env) o3, c, hc', o, hk _ _ hco, hcd⟩⟩
  · obtain ⟨v, o, h1, h2⟩ := I3.cell x c (hclo x c e)
    exact ⟨v, o, hk _ _ h1, h2⟩
  · have hp' : p ∈ X.pn := by simpa using hp
    obtain ⟨e, n, ne, nf, d⟩ := I3.pin p (List.mem_append_left _ hp')
    exact ⟨hk _ _ e, n, fresh _ _ e, fun z => (List.mem_cons.mp (I3.stkSub _ z)).elim ne nf, d⟩
  · simp [cst, S.len]
/-- behind the block: the def's own state again -/
theorem comp_back {H3 H5 : Hp} {s3 s5 : Shared} {C : Addr} {σ5 : L2.St} (I3 : Inv X pins σ H3 s3) (f3 : ∀ b ∈ fp, FpOk X pins H3 b) (hC : s3.heap.objs.size ≤ C) (I5 : Inv (cmp X Nc scope C s3 H3 fp) [] σ5 H5 s5) :
    Inv X pins σ H5 s5 ∧ FpOk X pins H5 C ∧ ∃ m, s5.heap.Ns C m := by
  refine ⟨I3.call' I5.os I5.base I5.hok I5.bare (fun b hb => ?_), I3.fpOk hC I5.free, let ⟨m, hm, _⟩ := I5.loc; ⟨m, hm⟩⟩
  obtain ⟨f0, f1, f2, f4, f5, f6⟩ := f3 b hb
  exact ⟨f4, f1, f5, f6⟩
theorem comp_core {Q : Addr → Hp → Prop} {E : Value → Shared → Prop} {RR : Value → Addr → Result → Shared → Prop} (S : CompSc X Nc k js scope) (hcalm : X.calm = true) (hg : ∀ C s₀ H₀ fp, PG (cmp X Nc scope C s₀ H₀ fp) tg (g C s₀ H₀ fp)) (ht : ∀ C s₀ H₀ fp, PTs (cmp X Nc scope C s₀ H₀ fp) ifs (tt C s₀ H₀ fp))
    (he : ∀ C s₀ H₀ fp, PE (cmp X Nc scope C s₀ H₀ fp) elt (te C s₀ H₀ fp)) (I2 : Inv X pins σ H2 s2) (T : Turn X.prog X.w X.K tg J fp it tn) (st2 : tn 0 s2.heap) (f2 : ∀ b ∈ fp, FpOk X pins H2 b)
    (hw : ∀ D, H2 D = none → ∀ C s₀ H₀ fp, tCompW (g C s₀ H₀ fp) (tt C s₀ H₀ fp) (te C s₀ H₀ fp) J (cst σ k js) (upd H2 D (.lst [])) D (Q D))
    (hRR : ∀ D C s' H', Q D H' → Inv X pins σ H' s' → FpOk X pins H' C → (∃ m, s'.heap.Ns C m) → RR (.ref D) C (.ok .next) s') :
    wpAny (model X.prog X.w) X.A (newList []) (fun acc s₃ => wpAny (model X.prog X.w) X.A (newFunctionEnv scope X.env.globals (closOf X.env scope.names []) [] X.env.qual none .none (some X.env)) (fun cenv s₄ =>
      codeAny (model X.prog X.w) X.A (.compStart (.ListComp elt [⟨tg, iter, ifs, 0⟩] scope pos) 0 (.ref it) acc { cenv with scope := relabel scope X.env }) (RR acc cenv.locals) s₄) E s₃) E s2 := by
  have I3 : Inv X pins σ (upd H2 s2.heap.objs.size (.lst [])) { s2 with heap := s2.heap.push { cls := .type "list", data := .seq ([] : List Value).toArray } } := I2.lnew (its := []) (t' := s2.toks) .nil (by decide)
  have hold : ∀ b ∈ fp, ∃ o, s2.heap.get? b = some o := fun b hb => let ⟨o, e, _⟩ := T.obj _ _ st2 b hb; ⟨o, e⟩
  have f3 : ∀ b ∈ fp, FpOk X pins (upd H2 s2.heap.objs.size (.lst [])) b := fun b hb => by
    obtain ⟨o, e⟩ := hold b hb
    exact ⟨by rw [upd_ne (Nat.ne_of_lt (Heap.lt_size e))]; exact (f2 b hb).1, (f2 b hb).2⟩
  have w3 := hw _ I2.fresh
  generalize hD : s2.heap.objs.size = D at I3 f3 w3
  have kp3 : ∀ b o, s2.heap.get? b = some o → (s2.heap.push { cls := .type "list", data := .seq ([] : List Value).toArray }).get? b = some o := fun b o e => Heap.get?_push_of_some _ e
  refine wpAny_newObj_type (wpAny_newFunctionEnv (fun y hy z => ?_) (by intro y hy; simp at hy) (fun h₁ hns₁ hsb₁ => ?_) S.kind)
  · have := List.all_eq_true.mp S.nocell y hy
    rw [z] at this
    exact absurd this (by decide)
  dsimp only at hns₁ hsb₁ ⊢
  rw [hD]
  generalize hH : s2.heap.push { cls := .type "list", dict := none, data := .seq ([] : List Value).toArray } = h3 at hns₁ hsb₁ I3 kp3 ⊢
  have k4 : ∀ b o, h3.get? b = some o → h₁.get? b = some o := fun b o e => hsb₁.extBut b o (Nat.ne_of_lt (Heap.lt_size e)) (Heap.get?_push_of_some _ e)
  have hold3 : ∀ b ∈ fp, ∃ o, h3.get? b = some o := fun b hb => let ⟨o, e⟩ := hold b hb; ⟨o, kp3 b o e⟩
  have I4 : Inv (cmp X Nc scope h3.objs.size { s2 with heap := h3 } (upd H2 D (.lst [])) fp) [] (cst σ k js) (upd H2 D (.lst [])) { s2 with heap := h₁, toks := s2.toks + ([] : List (Str × Value)).length } :=
    comp_inv S I3 f3 hold3 (Nat.le_refl _) rfl rfl k4 hns₁
  have hclo : ∀ x c, (closOf X.env scope.names []).lookup x = some c → X.env.cells.lookup x = some c := closOf_sound X.env _ _ (fun _ _ e => by simp at e)
  have stat : ∀ {H' : Hp}, (∀ b ∈ fp, H' b = none) → ∀ b ∈ fp, FpOk (cmp X Nc scope h3.objs.size { s2 with heap := h3 } (upd H2 D (.lst [])) fp) [] H' b := fun hn b hb => by
    obtain ⟨o, e⟩ := hold3 b hb
    obtain ⟨_, g1, g2, g3, g4, g5⟩ := f3 b hb
    exact ⟨hn b hb, Nat.ne_of_lt (Heap.lt_size e), fun z => (List.mem_cons.mp (I3.stkSub b z)).elim g1 g2, .inl hb, fun x c e => g4 x c (hclo x c e), fun p hp => g5 p (List.mem_append_left _ (by simpa using hp))⟩
  have loop : codeAny (model X.prog X.w) X.A (.compLoop (.ListComp elt [⟨tg, iter, ifs, 0⟩] scope pos) 0 (.ref it) (.ref D) (compEnvC scope (closOf X.env scope.names []) h3.objs.size X.env)) (RR (.ref D) h3.objs.size)
      { s2 with heap := h₁, toks := s2.toks + ([] : List (Str × Value)).length } := by
    obtain ⟨W, ⟨m0, w0⟩, turn⟩ := w3 h3.objs.size { s2 with heap := h3 } (upd H2 D (.lst [])) fp
    refine compLoop_go (fun n s' => ∃ i σ' H', Inv (cmp X Nc scope h3.objs.size { s2 with heap := h3 } (upd H2 D (.lst [])) fp) [] σ' H' s' ∧ tn i s'.heap ∧ (∀ b ∈ fp, H' b = none) ∧ W i n σ' H') ?_ m0
      ⟨0, _, _, I4, T.keep _ _ _ st2 (fun b hb o e => k4 b o (kp3 b o e)), fun b hb => (f3 b hb).1, w0⟩
    rintro n s5 ⟨i, σ5, H5, I5, st5, fr5, w5⟩
    rcases turn i n σ5 H5 w5 with ⟨stop, q⟩ | ⟨go, N, hN, step⟩
    · refine thn (T.done (cmp X Nc scope h3.objs.size { s2 with heap := h3 } (upd H2 D (.lst [])) fp) rfl rfl rfl hcalm i [] s5 σ5 H5 _ I5 (stat fr5) st5 stop) fun r s6 ⟨hr, I6⟩ => ?_
      subst hr
      obtain ⟨a, b, c⟩ := comp_back I3 f3 (Nat.le_refl _) I6
      exact hRR D _ s6 H5 q a b c
    · refine thn (T.item (cmp X Nc scope h3.objs.size { s2 with heap := h3 } (upd H2 D (.lst [])) fp) rfl rfl rfl hcalm i [] s5 σ5 H5 _ I5 (stat fr5) st5 go) fun r s6 ⟨u, hr, h6⟩ => ?_
      subst hr
      refine thn h6 fun _ s7 ⟨x, H7, I7, r7, y7, st7, fr7⟩ => ?_
      have I7' := I7.pinned (stat fr7) (T.obj _ _ st7)
      have q7 := step x H7 y7
      have again : ∀ {σ' : L2.St} {H' : Hp} {s' : Shared}, Inv (cmp X Nc scope h3.objs.size { s2 with heap := h3 } (upd H2 D (.lst [])) fp) ([] ++ pinsAt fp s7.heap) σ' H' s' → N σ' H' →
          ∃ m, m < n ∧ ∃ i σ' H', Inv (cmp X Nc scope h3.objs.size { s2 with heap := h3 } (upd H2 D (.lst [])) fp) [] σ' H' s' ∧ tn i s'.heap ∧ (∀ b ∈ fp, H' b = none) ∧ W i m σ' H' := fun {σ' H' s'} I' n' => by
        obtain ⟨m', hm, w7⟩ := hN σ' H' n'
        refine ⟨m', hm, i + 1, σ', H', I'.unpinned, T.keep _ _ _ st7 fun b hb o e => (I'.pin (b, o) (List.mem_append_right _ (List.mem_append_right _ (mem_pinsAt hb e)))).1, fun b hb => ?_, w7⟩
        obtain ⟨o, e, d⟩ := T.obj _ _ st7 b hb
        exact (I'.pin (b, o) (List.mem_append_right _ (List.mem_append_right _ (mem_pinsAt hb e)))).2.1
      refine wpAny_mono (hg _ _ _ _ _ s7 σ5 H7 x u _ I7' r7 q7) (fun _ s8 ⟨σ8, H8, I8, q8⟩ => ?_) (fun _ _ f => f.elim)
      refine wpAny_mono (ht _ _ _ _ _ s8 σ8 H8 _ I8 q8) (fun ok s9 ⟨H9, I9, q9⟩ => ?_) (fun _ _ f => f.elim)
      cases ok with
      | false =>
        rw [if_neg Bool.false_ne_true] at q9 ⊢
        exact again I9 q9
      | true =>
        rw [if_pos rfl] at q9 ⊢
        refine wpAny_mono (he _ _ _ _ _ s9 σ8 H9 _ I9 q9) (fun y s10 ⟨v, H10, I10, r10, ys, hys, hz, q10⟩ => ?_) (fun _ _ f => f.elim)
        exact wpAny_mono (mt_append (X := cmp X Nc scope h3.objs.size { s2 with heap := h3 } (upd H2 D (.lst [])) fp) _ s10 σ8 H10 (.ref D) [v] (.ref D) [y] (fun _ H' => N σ8 H') I10 rfl (.cons r10 .nil) ⟨D, ys, v, rfl, rfl, hys, hz, q10⟩) (fun _ s11 ⟨_, H11, I11, _, q11⟩ => again I11 q11) (fun _ _ f => f.elim)
  exact codeAny_compStart_list loop (T.self _ 0 _ _ _ (T.keep _ _ _ st2 (fun b hb o e => k4 b o (kp3 b o e))) loop)
theorem comp_clos (S : CompSc X Nc k js scope) {H : Hp} {s : Shared} (I : Inv X pins σ H s) : closureFor scope X.env = pure (closOf X.env scope.names []) :=
  closOf_eq X.env scope fun y hy z => by
    have := List.all_eq_true.mp S.fre y hy
    rw [z] at this
    have this' : X.env.scope.names.lookup y.1 = some .cell := by simpa using this
    exact I.ok.has y.1 (.inl this')
theorem comp_names (S : CompSc X Nc k js scope) : ∀ y ∈ scope.names, y.2 = .local → scope.names.lookup y.1 = some .local := fun y hy z => by
  have := List.all_eq_true.mp S.loc y hy
  rw [z] at this
  simpa using this
theorem pe_comp {wi : TI} (S : CompSc X Nc k js scope) (hi : PI X tg iter wi) (hg : ∀ C s₀ H₀ fp, PG (cmp X Nc scope C s₀ H₀ fp) tg (g C s₀ H₀ fp)) (ht : ∀ C s₀ H₀ fp, PTs (cmp X Nc scope C s₀ H₀ fp) ifs (tt C s₀ H₀ fp))
    (he : ∀ C s₀ H₀ fp, PE (cmp X Nc scope C s₀ H₀ fp) elt (te C s₀ H₀ fp)) (hcalm : X.calm = true := by rfl) (hs : ∀ x, foldedSetIterable iter X.env x = pure x := by intro _; rfl) : PE X (.ListComp elt [⟨tg, iter, ifs, 0⟩] scope pos) (tComp k js wi g tt te) := by
  intro pins s σ H Q I h
  rw [eval_ListComp]
  refine wpAny_comprehension_free (use := none) rfl hs (comp_clos S I) S.kind (comp_names S) ?_
  refine thn (hi pins s σ H _ I h) fun v s1 h1 => thn h1 fun itv s2 h2 => ?_
  obtain ⟨it, fp, tn, J, H2, e, I2, T, st2, f2, w⟩ := h2
  subst e
  refine comp_core (Q := fun D H' => Q (.ref D) H') (RR := fun acc C => compPost (model X.prog X.w) X.A X.xe none (EP X pins σ Q) acc C) S hcalm hg ht he I2 T st2 f2 w fun D C s' H' q I' fC hm => ?_
  obtain ⟨m, hm⟩ := hm
  exact ⟨m, hm, fun h' sb => ⟨.ref D, H', I'.turned (t' := s'.toks) (fun b o hb e => (sb.2 b hb).trans e) fC.1 fC.2.1 fC.2.2.2.1 fC.2.2.2.2.1 fC.2.2.2.2.2, rfl, q⟩⟩
end
/-! the forms one uses -/
/-- over a list that the turns leave as it is; what is made stands at D -/
theorem comp_list {K : PySem.W.Frag} {a D : Addr} {xs : List V} {g : TG} {tt : TT} {te : TE} {σ : L2.St} {H : Hp} {Q : Hp → Prop} (Pv : Nat → L2.St → Hp → Prop) (h0 : Pv 0 σ H) (hl : ∀ i σ H, i ≤ xs.length → Pv i σ H → SqL K H a xs)
    (hs : ∀ i x σ H, xs[i]? = some x → Pv i σ H → g x σ H fun σ2 H2 => tt σ2 H2 fun b H3 => if b = true then te σ2 H3 fun y H4 => ∃ ys, H4 D = some (.lst ys) ∧ ys.length < sizeLine ∧ Pv (i + 1) σ2 (upd H4 D (.lst (ys ++ [y]))) else Pv (i + 1) σ2 H3)
    (hd : ∀ σ H, Pv xs.length σ H → Q H) : tCompW g tt te (Itl K a) σ H D Q := by
  refine ⟨fun i m σ H => m = xs.length - i ∧ i ≤ xs.length ∧ Pv i σ H, ⟨xs.length, by simp, Nat.zero_le _, h0⟩, ?_⟩
  rintro i m σ H ⟨rfl, hi, p⟩
  have q := hl i σ H hi p
  by_cases hlt : i < xs.length
  · refine .inr ⟨⟨xs, xs[i], q, by simp [hlt]⟩, Pv (i + 1), fun σ' H' p' => ⟨xs.length - (i + 1), by omega, rfl, hlt, p'⟩, fun x H' y => ?_⟩
    obtain ⟨e, y⟩ := y
    subst e
    exact hs i x σ _ (y xs q) p
  · have e : i = xs.length := by omega
    subst e
    exact .inl ⟨⟨xs, q, Nat.le_refl _⟩, hd σ H p⟩
theorem comp_listN {K : PySem.W.Frag} {a D : Addr} {xs : List V} {te : TE} {σ : L2.St} {H : Hp} {Q : Hp → Prop} (Pv : Nat → L2.St → Hp → Prop) (h0 : Pv 0 σ H) (hl : ∀ i σ H, i ≤ xs.length → Pv i σ H → SqL K H a xs)
    (hs : ∀ i x σ H, xs[i]? = some x → Pv i σ H → te (σ.set 0 (some x)) H fun y H4 => ∃ ys, H4 D = some (.lst ys) ∧ ys.length < sizeLine ∧ Pv (i + 1) (σ.set 0 (some x)) (upd H4 D (.lst (ys ++ [y]))))
    (hd : ∀ σ H, Pv xs.length σ H → Q H) : tCompW (gName 0) tAll te (Itl K a) σ H D Q :=
  comp_list Pv h0 hl (fun i x σ H hx hp => by
    simp only [gName, tAll, if_true]
    exact hs i x σ H hx hp) hd
end BF
set_option Elab.async false
set_option linter.all false
set_option maxRecDepth 100000
namespace BF
open PySem PySem.Spec PyProof.Rows L2
open Sem (wp)

/-! ### lists of data: !=, in, index -/
section
variable {P : Program} {w : World} {H : Hp} {s : Shared}
end
section
variable {X : Cx}
end
/-! ### reversed(a list) -/
section
variable {X : Cx} {tg : Expr}
end
end BF
set_option Elab.async false
set_option linter.all false
set_option maxRecDepth 100000
namespace BF
open PySem PySem.Spec PyProof.Rows L2
open Sem (wp)
/-! ### all, any of a list of truths -/
section
variable {X : Cx}
/-! ### isinstance with a tuple of classes -/
/-! ### zip of two lists -/
end
section
variable {X : Cx} {elts : List Expr} {epos : Pos}
end
end BF
set_option Elab.async false
set_option linter.all false
set_option maxRecDepth 100000
namespace BF
open PySem PySem.Spec PyProof.Rows L2
open Sem (wp)
/-! ### sorted(a dict with texts for keys) -/
end BF
set_option Elab.async false
set_option linter.all false
set_option maxRecDepth 100000
namespace BF
open PySem PySem.Spec PyProof.Rows L2
open Builtin.Str
/-! ### where one sign stands in a text: find, rfind, split -/
section
variable {X : Cx}
theorem mt_find : MtR X "str.find" (fun x vs H Q => ∃ z y, x = .str z ∧ vs = [.str y] ∧ Q (.int (Txt.find z y)) H) := by
  intro pins s σ H x vs v us Q I rx rv h
  obtain ⟨z, y, rfl, rfl, q⟩ := h
  obtain ⟨t, rfl⟩ := rx
  obtain ⟨u, rfl, ru⟩ := vals1 rv
  obtain ⟨t2, rfl⟩ := ru
  exact SC.find ⟨.int _, H, I.tok _, ⟨_, rfl⟩, q⟩
theorem mt_rfind : MtR X "str.rfind" (fun x vs H Q => ∃ z y, x = .str z ∧ vs = [.str y] ∧ Q (.int (Txt.rfind z y)) H) := by
  intro pins s σ H x vs v us Q I rx rv h
  obtain ⟨z, y, rfl, rfl, q⟩ := h
  obtain ⟨t, rfl⟩ := rx
  obtain ⟨u, rfl, ru⟩ := vals1 rv
  obtain ⟨t2, rfl⟩ := ru
  exact SC.rfind ⟨.int _, H, I.tok _, ⟨_, rfl⟩, q⟩
theorem num_vals : ∀ (n : Nat) (l : List Str), Vals (l.map V.str) (strsFrom n l)
  | _, [] => .nil
  | n, x :: r => .cons ⟨n, rfl⟩ (num_vals (n + 1) r)
/-- a text cut at a sign: the parts -/
theorem mt_split : MtR X "str.split" (fun x vs H Q => ∃ z y, x = .str z ∧ vs = [.str y] ∧ y.length = 1 ∧ z.length + 2 ≤ sizeLine ∧ ∀ l, H l = none → Q (.ref l) (upd H l (.lst ((Txt.split z y).map V.str)))) := by
  intro pins s σ H x vs v us Q I rx rv h
  obtain ⟨z, y, rfl, rfl, hy1, hz, q⟩ := h
  obtain ⟨t, rfl⟩ := rx
  obtain ⟨u, rfl, ru⟩ := vals1 rv
  obtain ⟨t2, rfl⟩ := ru
  have hy : (y.length == 0) = false := by rw [hy1]; rfl
  have hoc := StrLaws.occ_length_le_len z y 0 z.length (z.length + 1)
  have hf := I.hok.fresh (Nat.le_refl s.heap.objs.size)
  have self : Txt.split z y = [z] → EP X pins σ Q (.ref s.heap.objs.size) { s with heap := s.heap.push { cls := .type "list", data := .seq [Value.str z t].toArray } } := fun e => by
    refine ⟨.ref _, upd H _ (.lst [.str z]), I.laid (a := s.heap.objs.size) (t' := s.toks) (fun b o eb => Heap.get?_push_of_some _ eb) (Nat.le_refl _) ⟨(by show 1 ≤ sizeLine; decide), _, _, .cons ⟨t, rfl⟩ .nil, Heap.get?_push_size _ rfl⟩, rfl, ?_⟩
    have := q _ hf
    rw [e] at this
    exact this
  cases h1 : (decide (z.length < y.length) || decide (strKind z < strKind y))
  · cases hf2 : (occurrences z y 0 z.length (z.length + 1)).isEmpty
    · have e : Txt.split z y = partsBetween z (occurrences z y 0 z.length (z.length + 1)) y.length := (if_neg (ne_true_of_eq_false h1)).trans (if_neg (ne_true_of_eq_false hf2))
      have hl : (partsBetween z (occurrences z y 0 z.length (z.length + 1)) y.length).length ≤ sizeLine := by rw [length_partsBetween]; omega
      refine call_meets F.slot_str_split (typeIs_str _ _ _) F.entry_str_split (F.args_str_split_2 _ _) (meets_str_split_sep z y t t2 h1 hy hf2 (by omega) hl) ?_
      refine ⟨.ref _, upd H _ (.lst ((partsBetween z (occurrences z y 0 z.length (z.length + 1)) y.length).map V.str)), I.laid (a := s.heap.objs.size) (fun b o eb => Heap.get?_push_of_some _ eb) (Nat.le_refl _) ⟨by rw [List.length_map]; exact hl, _, _, num_vals _ _, Heap.get?_push_size _ rfl⟩, rfl, ?_⟩
      have := q _ hf
      rw [e] at this
      exact this
    · exact call_meets F.slot_str_split (typeIs_str _ _ _) F.entry_str_split (F.args_str_split_2 _ _) (meets_str_split_not_found z y t t2 h1 hy hf2) (self ((if_neg (ne_true_of_eq_false h1)).trans (if_pos hf2)))
  · exact call_meets F.slot_str_split (typeIs_str _ _ _) F.entry_str_split (F.args_str_split_2 _ _) (meets_str_split_cannot_occur z y t t2 h1) (self (if_pos h1))
end
end BF
set_option Elab.async false
set_option linter.all false
set_option maxRecDepth 100000
namespace BF
open PySem PySem.Spec PyProof.Rows L2
open Builtin.Str
/-! ### any slice of a text; where a sign stands -/
def LoB (lo : Option Int) (a : Nat) : Prop := lo = some (a : Int) ∨ (lo = none ∧ a = 0)
def HiB (n : Nat) (hi : Option Int) (b : Nat) : Prop := hi = some (b : Int) ∨ (hi = none ∧ b = n) ∨ (hi = some (-1) ∧ b + 1 = n)
theorem idx_a {n a b : Nat} {lo hi : Option Int} (hl : LoB lo a) (hh : HiB n hi b) : strSliceIndices lo hi 1 n = strSliceIndices (some (a : Int)) (some (b : Int)) 1 n := by
  have e1 : strSliceIndices lo hi 1 n = strSliceIndices (some (a : Int)) hi 1 n := by
    rcases hl with rfl | ⟨rfl, rfl⟩
    · rfl
    · exact StrLaws.sliceIdx_none_lo _ _
  rw [e1]
  rcases hh with rfl | ⟨rfl, rfl⟩ | ⟨rfl, rfl⟩
  · rfl
  · exact StrLaws.sliceIdx_none_hi _ _
  · have h1 : ¬ ((b : Int) < 0) := by omega
    have h2 : ((-1 : Int) + ((b + 1 : Nat) : Int)) = b := by omega
    simp only [strSliceIndices, h1, if_false]
    rw [if_pos (by decide : (-1 : Int) < 0), h2]
theorem slice_a {z : Str} {a b : Nat} {lo hi : Option Int} (hl : LoB lo a) (hh : HiB z.length hi b) (hab : a ≤ z.length ∧ a ≤ b ∨ b = z.length ∧ z.length ≤ a) : Txt.slice z lo hi = cutS z a b := by
  have e0 : Txt.slice z lo hi = Txt.slice z (some (a : Int)) (some (b : Int)) := by
    unfold Txt.slice
    rw [idx_a hl hh]
  rw [e0]
  rcases hab with ⟨h1, h2⟩ | ⟨rfl, h⟩
  · have := slice_cps z a b h1 h2
    unfold cutS
    rw [← this]
  · have e : Txt.slice z (some (a : Int)) (some (z.length : Int)) = Txt.slice z (some (z.length : Int)) (some (z.length : Int)) := by
      unfold Txt.slice
      have h1 : ¬ ((a : Int) < 0) := by omega
      have h2 : ¬ ((z.length : Int) < 0) := by omega
      have h3 : min (a : Int) (z.length : Int) = z.length := by omega
      have : strSliceIndices (some (a : Int)) (some (z.length : Int)) 1 z.length = strSliceIndices (some (z.length : Int)) (some (z.length : Int)) 1 z.length := by
        simp only [strSliceIndices, h1, h2, if_false, h3, Int.min_self, show ((1 : Int) > 0) = True from by simp, if_true]
      rw [this]
    rw [e]
    have := slice_cps z z.length z.length (Nat.le_refl _) (Nat.le_refl _)
    have e2 : cutS z a z.length = cutS z z.length z.length := by
      unfold cutS
      rw [Nat.sub_self, Nat.sub_eq_zero_of_le h, List.take_zero, List.take_zero]
    rw [e2]
    unfold cutS
    rw [← this]
section
variable {X : Cx}
theorem sl_strA : SlR X (fun x lo hi H Q => ∃ (z : Str) (a b : Nat), x = .str z ∧ LoB lo a ∧ HiB z.length hi b ∧ (a ≤ z.length ∧ a ≤ b ∨ b = z.length ∧ z.length ≤ a) ∧ z.length ≤ sizeLine ∧ Q (.str (cutS z a b)) H) := by
  intro pins s σ H x v vl vu lo hi sl Q I rx hs pl pu h
  obtain ⟨z, a, b, rfl, hl, hh, hab, hz, q⟩ := h
  obtain ⟨t, rfl⟩ := rx
  have e := slice_a hl hh hab
  cases pl with
  | int i tl =>
    cases pu with
    | int j tu =>
      refine ⟨"str", _, F.slot_str_getitem.lookup, typeIs_str _ _ _, wpAny_getItem_str_slice (l := some (i, tl)) (u := some (j, tu)) (st := none) hs rfl (post_val_or_str ⟨Nat.le_trans (Txt.slice_le z _ _) hz, fun t' k => ?_⟩)⟩
      exact ⟨.str (cutS z a b), H, I.tok k, ⟨t', by rw [← e]; rfl⟩, q⟩
    | none =>
      refine ⟨"str", _, F.slot_str_getitem.lookup, typeIs_str _ _ _, wpAny_getItem_str_slice (l := some (i, tl)) (u := none) (st := none) hs rfl (post_val_or_str ⟨Nat.le_trans (Txt.slice_le z _ _) hz, fun t' k => ?_⟩)⟩
      exact ⟨.str (cutS z a b), H, I.tok k, ⟨t', by rw [← e]; rfl⟩, q⟩
  | none =>
    cases pu with
    | int j tu =>
      refine ⟨"str", _, F.slot_str_getitem.lookup, typeIs_str _ _ _, wpAny_getItem_str_slice (l := none) (u := some (j, tu)) (st := none) hs rfl (post_val_or_str ⟨Nat.le_trans (Txt.slice_le z _ _) hz, fun t' k => ?_⟩)⟩
      exact ⟨.str (cutS z a b), H, I.tok k, ⟨t', by rw [← e]; rfl⟩, q⟩
    | none =>
      refine ⟨"str", _, F.slot_str_getitem.lookup, typeIs_str _ _ _, wpAny_getItem_str_slice (l := none) (u := none) (st := none) hs rfl (post_val_or_str ⟨Nat.le_trans (Txt.slice_le z _ _) hz, fun t' k => ?_⟩)⟩
      exact ⟨.str (cutS z a b), H, I.tok k, ⟨t', by rw [← e]; rfl⟩, q⟩
end
theorem find1 {z : Str} {a r : List Nat} {c : Nat} (e : z.cps.toList = a ++ c :: r) (h : c ∉ a) : Txt.find z ⟨#[c]⟩ = (a.length : Int) := by
  have ha : z.cps.toList[a.length]? = some c := by rw [e]; simp
  unfold Txt.find
  rcases StrLaws.occ_head z ⟨#[c]⟩ 1 (Nat.le_refl 1) with ⟨h0, hn⟩ | ⟨i, r', h0, hi, hn⟩
  · exact absurd ((StrLaws.subAt_one z c _).mpr ha) (hn a.length)
  · rw [h0]
    have hi' := (StrLaws.subAt_one z c i).mp hi
    have : i = a.length := by
      rcases Nat.lt_trichotomy i a.length with q | q | q
      · rw [e, List.getElem?_append_left q] at hi'; exact absurd (List.mem_of_getElem? hi') h
      · exact q
      · exact absurd ((StrLaws.subAt_one z c _).mpr ha) (hn _ q)
    rw [this]
theorem rfind0 {z : Str} {c : Nat} (h : c ∉ z.cps.toList) : Txt.rfind z ⟨#[c]⟩ = -1 := by
  unfold Txt.rfind
  rcases StrLaws.last_spec z ⟨#[c]⟩ with ⟨h0, hn⟩ | ⟨i, h0, hi, hn⟩
  · rw [h0]
  · exact absurd (List.mem_of_getElem? ((StrLaws.subAt_one z c i).mp hi)) h
theorem rfind1 {z : Str} {a r : List Nat} {c : Nat} (e : z.cps.toList = a ++ c :: r) (h : c ∉ r) : Txt.rfind z ⟨#[c]⟩ = (a.length : Int) := by
  have ha : z.cps.toList[a.length]? = some c := by rw [e]; simp
  unfold Txt.rfind
  rcases StrLaws.last_spec z ⟨#[c]⟩ with ⟨h0, hn⟩ | ⟨i, h0, hi, hn⟩
  · exact absurd ((StrLaws.subAt_one z c _).mpr ha) (hn a.length)
  · rw [h0]
    have hi' := (StrLaws.subAt_one z c i).mp hi
    have : i = a.length := by
      rcases Nat.lt_trichotomy i a.length with q | q | q
      · exact absurd ((StrLaws.subAt_one z c _).mpr ha) (hn _ q)
      · exact q
      · rw [e, List.getElem?_append_right (by omega)] at hi'
        have e2 : i - a.length = (i - a.length - 1) + 1 := by omega
        rw [e2, List.getElem?_cons_succ] at hi'
        exact absurd (List.mem_of_getElem? hi') h
    rw [this]
theorem split_ne (z y : Str) : Txt.split z y ≠ [] := by
  unfold Txt.split
  split
  · simp
  · split
    · simp
    · intro h
      have := congrArg List.length h
      rw [length_partsBetween] at this
      simp at this
theorem join_cps (y : Str) : ∀ l : List Str, (Str.join y l).cps.toList = y.cps.toList.intercalate (l.map fun x => x.cps.toList)
  | [] => by have e0 : (Str.ofString "").cps.toList = [] := by decide +kernel
             exact e0
  | [x] => by simp [Str.join, List.intercalate]
  | x :: x' :: r => by
    have : Str.join y (x :: x' :: r) = x ++ y ++ Str.join y (x' :: r) := rfl
    rw [this, cps_append, cps_append, join_cps y (x' :: r)]
    simp [List.intercalate]
/-- the parts of a text cut at a sign -/
theorem split_cps (z : Str) (c : Nat) : ([c] : List Nat).intercalate ((Txt.split z ⟨#[c]⟩).map fun x => x.cps.toList) = z.cps.toList ∧ (∀ p ∈ (Txt.split z ⟨#[c]⟩).map fun x => x.cps.toList, c ∉ p) ∧ ((Txt.split z ⟨#[c]⟩).map fun x => x.cps.toList) ≠ [] := by
  refine ⟨?_, fun p hp => ?_, fun h => split_ne z ⟨#[c]⟩ (List.map_eq_nil_iff.mp h)⟩
  · have e := join_cps ⟨#[c]⟩ (Txt.split z ⟨#[c]⟩)
    rw [StrLaws.join_split] at e
    exact e.symm
  · obtain ⟨x, hx, rfl⟩ := List.mem_map.mp hp
    exact StrLaws.split_free z c x hx
theorem in_one (x : Str) (c : Nat) : (!(occurrences x ⟨#[c]⟩ 0 x.length 1).isEmpty) = decide (c ∈ x.cps.toList) := StrLaws.found_one x c
end BF
set_option Elab.async false
set_option linter.all false
set_option maxRecDepth 100000
namespace BF
open PySem
/-! ### the kinds of words between the marks -/
theorem kind_word {x : Str} (h : Lw x) : kindN x.cps.toList = 87 := kindN_of (t := .name x) h trivial
theorem kind_blank {x : Str} {r : List Nat} (e : x.cps.toList = 63 :: r) (h : Lw (mkS r)) : kindN x.cps.toList = 66 := by
  have k := kindN_of (t := .blank (mkS r)) h trivial
  simp only [Tm.line, mkS_cps, Tm.kd] at k
  rw [e]
  exact k
theorem kind_num {l : List Nat} (h1 : ∀ c ∈ unsg l, figure c = true) (h2 : unsg l ≠ []) (h3 : ¬ ((unsg l).head? = some 48 ∧ l ≠ [48])) : kindN l = 78 := by
  have e : (unsg l).takeWhile figure = unsg l := tw_self h1
  have hn : ∃ n, numF l = some (n, (unsg l).dropWhile figure) := by
    unfold numF
    rw [e, if_neg h2, if_neg (by rw [sgn_unsg]; exact h3)]
    exact ⟨_, rfl⟩
  obtain ⟨n, hn⟩ := hn
  have ed : (unsg l).dropWhile figure = [] := dw_nil.mpr h1
  rw [ed] at hn
  have z := num_sound hn
  rw [List.append_nil] at z
  rw [z]
  exact kindN_of (t := .num n) trivial trivial
theorem kind_bad {l : List Nat} (hw : ¬ Lw (mkS l)) (hb : ∀ r, l = 63 :: r → ¬ Lw (mkS r)) (h : (∃ c ∈ unsg l, figure c = false) ∨ unsg l = [] ∨ ((unsg l).head? = some 48 ∧ l ≠ [48])) : kindN l = 33 := kindN_no fun t ht hl e => by
  cases t with
  | name w =>
    have e' : w.cps.toList = l := e
    rw [← e', mkS_self] at hw
    exact hw ht
  | blank w =>
    have e' : 63 :: w.cps.toList = l := e
    exact hb _ e'.symm (by rw [mkS_self]; exact ht)
  | thing w ps => exact hl
  | num n =>
    have hr := num_reads (n := n) (k := []) (.inl rfl)
    rw [List.append_nil] at hr
    have e' : numS n = l := e
    rw [e'] at hr
    unfold numF at hr
    split at hr
    · cases hr
    split at hr
    · cases hr
    rename_i a b
    have ed := (Prod.mk.inj (Option.some.inj hr)).2
    have ha : ∀ c ∈ unsg l, figure c = true := dw_nil.mp ed
    rw [tw_self ha] at a b
    rw [sgn_unsg] at b
    rcases h with ⟨c, hc, z⟩ | z | z
    · rw [ha c hc] at z; cases z
    · exact a z
    · exact b z
theorem figures_mem {c : Nat} : (c ∈ (Str.ofString "0123456789").cps.toList) ↔ figure c = true := by
  have e : (Str.ofString "0123456789").cps.toList = (List.range 10).map (· + 48) := by decide +kernel
  rw [e]
  unfold figure rg
  rw [Bool.and_eq_true, decide_eq_true_eq, decide_eq_true_eq]
  simp only [List.mem_map, List.mem_range]
  constructor
  · rintro ⟨k, hk, rfl⟩; omega
  · rintro ⟨h1, h2⟩; exact ⟨c - 48, by omega, by omega⟩
theorem sep_mem {c : Nat} : (c ∈ (Str.ofString "(),").cps.toList) ↔ sep c = true := by
  have e : (Str.ofString "(),").cps.toList = [40, 41, 44] := by decide +kernel
  rw [e]
  unfold sep
  simp [or_assoc]
theorem cut_rest (x : Str) (a : Nat) : (cutS x a x.length).cps.toList = x.cps.toList.drop a := by
  rw [cutS_cps]
  have : x.length = x.cps.toList.length := by simp [Str.length]
  rw [this, List.take_of_length_le (by rw [List.length_drop]; omega)]
theorem cut_to0 (x : Str) (b : Nat) : (cutS x 0 b).cps.toList = x.cps.toList.take b := by rw [cutS_cps, List.drop_zero, Nat.sub_zero]
theorem cut_first (x : Str) (c : Nat) (z : Str) (hz : z.cps.toList = [c]) : cutS x 0 1 = z ↔ x.cps.toList.head? = some c := by
  constructor
  · intro h
    have e := cut_to0 x 1
    rw [h, hz] at e
    cases hx : x.cps.toList with
    | nil => rw [hx] at e; simp at e
    | cons a r => rw [hx] at e; simp at e; simp [e]
  · intro h
    refine str_ext ?_
    rw [cut_to0, hz]
    cases hx : x.cps.toList with
    | nil => rw [hx] at h; simp at h
    | cons a r => rw [hx] at h; simp at h; simp [h]
/-- marks and rest: the state of the law's loop over the signs -/
noncomputable def mst : List Nat → List Nat × List Nat → List Nat × List Nat
  | [], s => s
  | c :: r, s => if sep c then mst r (s.1 ++ told s.2 ++ [c], []) else mst r (s.1, s.2 ++ [c])
theorem mst_toks : ∀ (l : List Nat) (s : List Nat × List Nat), (mst l s).1 ++ told (mst l s).2 = s.1 ++ toks l s.2
  | [], s => rfl
  | c :: r, s => by
    simp only [mst, toks]
    split
    · rw [mst_toks r]; simp
    · rw [mst_toks r]
theorem mst_snoc : ∀ (l : List Nat) (c : Nat) (s : List Nat × List Nat), mst (l ++ [c]) s = if sep c then ((mst l s).1 ++ told (mst l s).2 ++ [c], []) else ((mst l s).1, (mst l s).2 ++ [c])
  | [], c, s => by simp [mst]
  | d :: l, c, s => by
    simp only [List.cons_append, mst]
    split
    · exact mst_snoc l c _
    · exact mst_snoc l c _
theorem mst_len : ∀ (l : List Nat) (s : List Nat × List Nat), (mst l s).1.length + (mst l s).2.length ≤ s.1.length + s.2.length + 2 * l.length
  | [], s => by simp [mst]
  | c :: r, s => by
    have ht : (told s.2).length ≤ 1 := by unfold told; split <;> simp
    simp only [mst]
    split
    · have := mst_len r (s.1 ++ told s.2 ++ [c], [])
      simp only [List.length_append, List.length_cons, List.length_nil] at this ⊢
      omega
    · have := mst_len r (s.1, s.2 ++ [c])
      simp only [List.length_append, List.length_cons, List.length_nil] at this ⊢
      omega
theorem mst_line (l : List Nat) : mst (l ++ [44]) ([], []) = (toks l [] ++ [44], []) := by
  rw [mst_snoc, if_pos (by decide), mst_toks]
  rfl
theorem toks_len (l : List Nat) : (toks l []).length ≤ 2 * l.length + 1 := by
  have h := mst_len (l ++ [44]) ([], [])
  rw [mst_line] at h
  simp only [List.length_append, List.length_cons, List.length_nil] at h
  omega
end BF
namespace BF
open PySem L2
theorem pss_as {X : Cx} {r : List Stmt} (T : TS) (h : PSs X r T) : PSs X r T := h
theorem let_ts {p : Prop} (v : TS) (k : let _T : TS := v; p) : p := k
end BF
set_option Elab.async false
set_option linter.all false
set_option maxRecDepth 100000
set_option maxHeartbeats 4000000
namespace K02
open PySem L2 BF
def top (i : Nat) : Stmt := PySem.Challenge.pw_blankform_k02_whole_read_or_refused.main.body.getD i (.Pass ⟨0, 0, 0, 0⟩)
abbrev s_shown : Stmt := top 5
theorem sc_shown : FnScope ["term", "texts", "coming", "piece"] ["term"] (defScope s_shown) := ⟨rfl, rfl, rfl, by decide +kernel, rfl, by decide +kernel, by decide +kernel⟩
abbrev s_push_parts : Stmt := top 6
theorem sc_push_parts : FnScope ["coming", "parts", "part"] ["coming", "parts"] (defScope s_push_parts) := ⟨rfl, rfl, rfl, by decide +kernel, rfl, by decide +kernel, by decide +kernel⟩
abbrev s_shown_leaf : Stmt := top 7
theorem sc_shown_leaf : FnScope ["term"] ["term"] (defScope s_shown_leaf) := ⟨rfl, rfl, rfl, by decide +kernel, rfl, by decide +kernel, by decide +kernel⟩
abbrev s_read : Stmt := top 8
theorem sc_read : FnScope ["line"] ["line"] (defScope s_read) := ⟨rfl, rfl, rfl, by decide +kernel, rfl, by decide +kernel, by decide +kernel⟩
abbrev s_Reader_init : Stmt := inClass (top 9) 0
theorem sc_Reader_init : FnScope ["self", "line"] ["self", "line"] (defScope s_Reader_init) := ⟨rfl, rfl, rfl, by decide +kernel, rfl, by decide +kernel, by decide +kernel⟩
abbrev s_Reader_whole : Stmt := inClass (top 9) 1
theorem sc_Reader_whole : FnScope ["self", "term"] ["self"] (defScope s_Reader_whole) := ⟨rfl, rfl, rfl, by decide +kernel, rfl, by decide +kernel, by decide +kernel⟩
abbrev s_Reader_leaf : Stmt := inClass (top 9) 2
theorem sc_Reader_leaf : FnScope ["self", "word"] ["self"] (defScope s_Reader_leaf) := ⟨rfl, rfl, rfl, by decide +kernel, rfl, by decide +kernel, by decide +kernel⟩
abbrev s_Reader_blank : Stmt := inClass (top 9) 3
theorem sc_Reader_blank : FnScope ["self", "word"] ["self"] (defScope s_Reader_blank) := ⟨rfl, rfl, rfl, by decide +kernel, rfl, by decide +kernel, by decide +kernel⟩
abbrev s_Reader_number : Stmt := inClass (top 9) 4
theorem sc_Reader_number : FnScope ["self", "start", "figures", "written"] ["self"] (defScope s_Reader_number) := ⟨rfl, rfl, rfl, by decide +kernel, rfl, by decide +kernel, by decide +kernel⟩
abbrev s_Reader_ended_thing : Stmt := inClass (top 9) 5
theorem sc_Reader_ended_thing : FnScope ["self", "thing"] ["self"] (defScope s_Reader_ended_thing) := ⟨rfl, rfl, rfl, by decide +kernel, rfl, by decide +kernel, by decide +kernel⟩
abbrev s_Reader_sign : Stmt := inClass (top 9) 6
theorem sc_Reader_sign : FnScope ["self"] ["self"] (defScope s_Reader_sign) := ⟨rfl, rfl, rfl, by decide +kernel, rfl, by decide +kernel, by decide +kernel⟩
abbrev s_Reader_letters : Stmt := inClass (top 9) 7
theorem sc_Reader_letters : FnScope ["self"] ["self"] (defScope s_Reader_letters) := ⟨rfl, rfl, rfl, by decide +kernel, rfl, by decide +kernel, by decide +kernel⟩
abbrev s_Reader_run : Stmt := inClass (top 9) 8
theorem sc_Reader_run : FnScope ["self", "first", "last", "start"] ["self", "first", "last"] (defScope s_Reader_run) := ⟨rfl, rfl, rfl, by decide +kernel, rfl, by decide +kernel, by decide +kernel⟩
abbrev s_law_whole : Stmt := top 11
theorem sc_law_whole : FnScope ["_law_found"] ["_law_found"] (defScope s_law_whole) := ⟨rfl, rfl, rfl, by decide +kernel, rfl, by decide +kernel, by decide +kernel⟩
abbrev s_law_at : Stmt := top 12
theorem sc_law_at : FnScope ["_law_script", "_law_k"] ["_law_script", "_law_k"] (defScope s_law_at) := ⟨rfl, rfl, rfl, by decide +kernel, rfl, by decide +kernel, by decide +kernel⟩
abbrev s_law_any_word : Stmt := top 13
theorem sc_law_any_word : FnScope ["_law_cell", "_law_left", "_law_word"] ["_law_cell"] (defScope s_law_any_word) := ⟨rfl, rfl, rfl, by decide +kernel, rfl, by decide +kernel, by decide +kernel⟩
abbrev s_law_leaf : Stmt := top 14
theorem sc_law_leaf : FnScope ["_law_cell", "_law_way", "_law_rare"] ["_law_cell"] (defScope s_law_leaf) := ⟨rfl, rfl, rfl, by decide +kernel, rfl, by decide +kernel, by decide +kernel⟩
abbrev s_law_head : Stmt := top 15
theorem sc_law_head : FnScope ["_law_cell"] ["_law_cell"] (defScope s_law_head) := ⟨rfl, rfl, rfl, by decide +kernel, rfl, by decide +kernel, by decide +kernel⟩
abbrev s_law_many_parts : Stmt := top 16
theorem sc_law_many_parts : FnScope ["_law_cell", "_law_count"] ["_law_cell", "_law_count"] (defScope s_law_many_parts) := ⟨rfl, rfl, rfl, by decide +kernel, rfl, by decide +kernel, by decide +kernel⟩
abbrev s_law_grown : Stmt := top 17
theorem sc_law_grown : FnScope ["_law_cells", "_law_pile", "_law_cell", "_law_many", "_law_start", "_law_made"] ["_law_cells"] (defScope s_law_grown) := ⟨rfl, rfl, rfl, by decide +kernel, rfl, by decide +kernel, by decide +kernel⟩
abbrev s_law_letters : Stmt := top 18
theorem sc_law_letters : FnScope ["_law_found", "_law_sign"] ["_law_found"] (defScope s_law_letters) := ⟨rfl, rfl, rfl, by decide +kernel, rfl, by decide +kernel, by decide +kernel⟩
abbrev s_law_small : Stmt := top 19
theorem sc_law_small : FnScope ["_law_part"] ["_law_part"] (defScope s_law_small) := ⟨rfl, rfl, rfl, by decide +kernel, rfl, by decide +kernel, by decide +kernel⟩
abbrev s_law_is_term : Stmt := top 20
theorem sc_law_is_term : FnScope ["_law_found", "_law_todo", "_law_part"] ["_law_found"] (defScope s_law_is_term) := ⟨rfl, rfl, rfl, by decide +kernel, rfl, by decide +kernel, by decide +kernel⟩
abbrev s_law_line_of : Stmt := top 21
theorem sc_law_line_of : FnScope ["_law_term", "_law_line", "_law_todo", "_law_part", "_law_k"] ["_law_term"] (defScope s_law_line_of) := ⟨rfl, rfl, rfl, by decide +kernel, rfl, by decide +kernel, by decide +kernel⟩
abbrev s_law_framed : Stmt := top 22
theorem sc_law_framed : FnScope ["_law_line", "_law_menu"] ["_law_line"] (defScope s_law_framed) := ⟨rfl, rfl, rfl, by decide +kernel, rfl, by decide +kernel, by decide +kernel⟩
abbrev s_law_asked : Stmt := top 23
theorem sc_law_asked : FnScope ["_law_script", "_law_pieces", "_law_way", "_law_line", "_law_place", "_law_sign", "_law_signs"] ["_law_script"] (defScope s_law_asked) := ⟨rfl, rfl, rfl, by decide +kernel, rfl, by decide +kernel, by decide +kernel⟩
abbrev s_law_kind : Stmt := top 24
theorem sc_law_kind : FnScope ["_law_signs", "_law_figures", "_law_sign"] ["_law_signs"] (defScope s_law_kind) := ⟨rfl, rfl, rfl, by decide +kernel, rfl, by decide +kernel, by decide +kernel⟩
abbrev s_law_marked : Stmt := top 25
theorem sc_law_marked : FnScope ["_law_line", "_law_made", "_law_signs", "_law_sign"] ["_law_line"] (defScope s_law_marked) := ⟨rfl, rfl, rfl, by decide +kernel, rfl, by decide +kernel, by decide +kernel⟩
abbrev s_law_well : Stmt := top 26
theorem sc_law_well : FnScope ["_law_line", "_law_marks", "_law_end", "_law_start", "_law_part"] ["_law_line"] (defScope s_law_well) := ⟨rfl, rfl, rfl, by decide +kernel, rfl, by decide +kernel, by decide +kernel⟩
abbrev s_law_base_tells : Stmt := top 27
theorem sc_law_base_tells : FnScope ["_law_line", "e", "_law_many"] ["_law_line"] (defScope s_law_base_tells) := ⟨rfl, rfl, rfl, by decide +kernel, rfl, by decide +kernel, by decide +kernel⟩
abbrev s_law : Stmt := top 28
theorem sc_law : FnScope ["_law_script", "_law_line", "_law_found", "_law_refused", "_law_again"] ["_law_script"] (defScope s_law) := ⟨rfl, rfl, rfl, by decide +kernel, rfl, by decide +kernel, by decide +kernel⟩
/-! ### the law's own makers of terms -/
structure Bi (mg : Str → Option Value) : Prop where
  b_len : mg "len" = none
  b_abs : mg "abs" = none
  b_isinstance : mg "isinstance" = none
  b_int : mg "int" = none
  b_bool : mg "bool" = none
  b_str : mg "str" = none
  b_tuple : mg "tuple" = none
  b_list : mg "list" = none
  b_reversed : mg "reversed" = none
  b_range : mg "range" = none
section
variable {P : Program} {w : World} {K : PySem.W.Frag} {mg : Str → Option Value} {base : Heap}
def spWord : Sp := fun vs H Q _ => ∃ i : Int, vs = [.int i] ∧ ∀ x : Str, Wd x → x.cps.toList.length ≤ 30 → Q (.str x) H
theorem ok_any_word {f : Addr} {fd : FuncData} (F : Fun K "_law_any_word" "_law_any_word" s_law_any_word f fd) (T : Bi mg) : FnOk P w K mg base CX0 1 f fd ["_law_cell"] spWord := by
  refine F.ok sc_law_any_word (fun vs H Q E h => ?_) (fun cdv A outer s H vs Q E hr h => ?_)
  · obtain ⟨i, rfl, _⟩ := h
    rfl
  obtain ⟨i, rfl, q⟩ := h
  apply let_ts; intro T1
  apply let_ts; intro T2
  apply let_ts; intro T3
  refine ⟨_, (pss_cons (ps_set (i := 1) sc_law_any_word.nd rfl (Or.inl rfl) (pe_op op_mod (pe_blt call_abs T.b_abs bt_abs (pa_cons (pv 0) pa_nil)) (pe_op op_pow pe_int pe_int))) (pss_as T3 (pss_cons (ps_set (i := 2) sc_law_any_word.nd rfl (Or.inl rfl) pe_str) (pss_as T2 (pss_cons (ps_while PassesOwn.never (pt_cmpR op_ge (pv 1) pe_int (nomark _)) (pss_as T1 (pss_cons (ps_set (i := 2) sc_law_any_word.nd rfl (Or.inl rfl) (pe_op op_add_str (pe_ix ix_str pe_str (pe_op op_mod (pv 1) pe_int) (fun _ _ => rfl)) (pv 2))) (pss_one (ps_set (i := 1) sc_law_any_word.nd rfl (Or.inl rfl) (pe_op op_sub (pe_op op_fdiv (pv 1) pe_int) pe_int)))))) (pss_one (ps_ret (pv 2)))))))), ?_⟩
  refine ⟨_, rfl, _, rfl, _, _, rfl, rfl, ⟨by decide, by decide, by decide⟩, _, _, rfl, rfl, (show (0 : Int) < _ by decide +kernel), ?_⟩
  refine ⟨fun m σ H1 => H1 = H ∧ ∃ (l : Int) (x : Str), σ = [some (.int i), some (.int l), some (.str x)] ∧ m = (l + 1).toNat ∧ WI l x, ⟨_, rfl, _, _, rfl, rfl, WI.start i⟩, ?_⟩
  rintro m σ H1 ⟨rfl, l, x, rfl, rfl, hw⟩
  refine ⟨_, rfl, _, _, rfl, rfl, _, rfl, ?_⟩
  refine ite2 (fun c => ⟨_, fun _ _ h => h, ?_⟩) (fun c => ?_)
  · have c' : 0 ≤ l := of_decide_eq_true c
    have hs := hw.short c'
    have hb : 0 ≤ l % 26 := Int.emod_nonneg _ (by decide)
    have hb' : l % 26 < 26 := Int.emod_lt_of_pos _ (by decide)
    obtain ⟨j, hj, hj'⟩ : ∃ j : Nat, l % 26 = (j : Int) ∧ j < 26 := ⟨(l % 26).toNat, by omega, by omega⟩
    have hat : atI alpha.cps.toList (l % 26) = some (97 + j) := by
      rw [hj]
      exact atI_nat (alpha_at j hj')
    refine ⟨_, rfl, _, _, rfl, rfl, (show (0 : Int) < _ by decide), _, _, _, rfl, rfl, (by decide +kernel), hat, _, rfl, _, _, rfl, rfl, ?_, ?_⟩
    · rw [len_cps, len_cps]
      show 1 + _ ≤ sizeLine
      exact small (by omega)
    refine ⟨_, rfl, _, _, rfl, rfl, ⟨by decide, by decide⟩, _, _, rfl, rfl, ?_⟩
    refine ⟨(l / 26 - 1 + 1).toNat, by omega, rfl, _, _, rfl, rfl, hw.turn c' (by omega)⟩
  · have c' : ¬ 0 ≤ l := of_decide_eq_false (Bool.eq_false_iff.mpr c)
    refine ⟨_, rfl, ?_⟩
    obtain ⟨h1, h2⟩ := hw.wd c'
    exact q x h1 h2
def spLeaf : Sp := fun vs H Q _ => ∃ i : Int, vs = [.int i] ∧ ∀ (v : V) (t : Tm) (H' : Hp), Same H H' → TermAt H' v t → t.Ok → t.nodes = 1 → Q v H'
theorem ok_leaf {f : Addr} {fd : FuncData} (F : Fun K "_law_leaf" "_law_leaf" s_law_leaf f fd) (T : Bi mg) (c__law_any_word : Cal P w K mg base 1 "_law_any_word" ["_law_cell"] spWord) :
    FnOk P w K mg base CX0 2 f fd ["_law_cell"] spLeaf := by
  refine F.ok sc_law_leaf (fun vs H Q E h => ?_) (fun cdv A outer s H vs Q E hr h => ?_)
  · obtain ⟨i, rfl, _⟩ := h
    rfl
  obtain ⟨i, rfl, q⟩ := h
  have qn : ∀ (n : Int) (p : Addr), H p = none → -(10 ^ 61) ≤ n → n ≤ 10 ^ 61 → Q (.ref p) (upd H p (.tup [.str "number", .int n])) := fun n p hp h1 h2 =>
    q _ (.num n) _ (same_new hp _) (termAt_num.mpr ⟨p, rfl, upd_same⟩) (by simp only [Tm.Ok]; exact ⟨h1, h2⟩) rfl
  have qa : ∀ (x : Str) (H1 : Hp) (p : Addr), Same H H1 → H1 p = none → Wd x → Q (.ref p) (upd H1 p (.tup [.str "name", .str x])) := fun x H1 p hs hp hx =>
    q _ (.name x) _ (hs.trans (same_new hp _)) (termAt_name.mpr ⟨p, rfl, upd_same⟩) (by simp only [Tm.Ok]; exact hx) rfl
  have qb : ∀ (x : Str) (p : Addr), H p = none → Wd x → Q (.ref p) (upd H p (.tup [.str "blank", .str x])) := fun x p hp hx =>
    q _ (.blank x) _ (same_new hp _) (termAt_blank.mpr ⟨p, rfl, upd_same⟩) (by simp only [Tm.Ok]; exact hx) rfl
  obtain ⟨w1, w2, _, _, _, _, w3, w4, w5⟩ := Wd.lits
  apply let_ts; intro T1
  apply let_ts; intro T2
  apply let_ts; intro T3
  apply let_ts; intro T4
  apply let_ts; intro T5
  apply let_ts; intro T6
  apply let_ts; intro T7
  apply let_ts; intro T8
  apply let_ts; intro T9
  apply let_ts; intro T10
  apply let_ts; intro T11
  apply let_ts; intro T12
  refine ⟨_, (pss_cons (ps_set (i := 1) sc_law_leaf.nd rfl (Or.inl rfl) (pe_op op_mod (pv 0) pe_int)) (pss_as T12 (pss_cons (ps_set (i := 2) sc_law_leaf.nd rfl (Or.inl rfl) (pe_cmpR op_eq (pe_op op_mod (pe_op op_fdiv (pv 0) pe_int) pe_int) pe_int (nomark _))) (pss_as T11 (pss_cons (ps_if (pt_cmpR op_eq (pv 1) pe_int (nomark _)) (pss_as T3 (pss_cons (ps_if (pt_val (pv 2)) (pss_as T1 (pss_one (ps_ret (pe_tup (pa_cons pe_str (pa_cons (pe_op op_sub (pe_op op_mod (pv 0) (pe_op op_pow pe_int pe_int)) (pe_op op_pow pe_int pe_int)) pa_nil)))))) pss_nil) (pss_as T2 (pss_one (ps_ret (pe_tup (pa_cons pe_str (pa_cons (pe_op op_sub (pe_op op_mod (pe_op op_fdiv (pv 0) pe_int) pe_int) pe_int) pa_nil)))))))) pss_nil) (pss_as T10 (pss_cons (ps_if (pt_cmpR op_eq (pv 1) pe_int (nomark _)) (pss_as T6 (pss_cons (ps_if (pt_val (pv 2)) (pss_as T4 (pss_one (ps_ret (pe_tup (pa_cons pe_str (pa_cons (pe_cal c__law_any_word (hr.mono (by decide)) (pa_cons (pe_op op_fdiv (pv 0) pe_int) pa_nil)) pa_nil)))))) pss_nil) (pss_as T5 (pss_one (ps_ret (pe_tup (pa_cons pe_str (pa_cons (pe_ix ix_list (pe_lst (pa_cons pe_str (pa_cons pe_str pa_nil))) (pe_op op_mod (pe_op op_fdiv (pv 0) pe_int) pe_int) (fun _ _ => rfl)) pa_nil)))))))) pss_nil) (pss_as T9 (pss_cons (ps_if (pt_val (pv 2)) (pss_as T7 (pss_one (ps_ret (pe_tup (pa_cons pe_str (pa_cons (pe_op op_add_str pe_str (pe_cal c__law_any_word (hr.mono (by decide)) (pa_cons (pe_op op_fdiv (pv 0) pe_int) pa_nil))) pa_nil)))))) pss_nil) (pss_as T8 (pss_one (ps_ret (pe_tup (pa_cons pe_str (pa_cons (pe_ix ix_str pe_str (pe_op op_mod (pe_op op_fdiv (pv 0) pe_int) pe_int) (fun _ _ => rfl)) pa_nil))))))))))))))), ?_⟩
  refine ⟨_, rfl, _, _, rfl, rfl, (show (0 : Int) < _ by decide), ?_⟩
  refine ⟨_, rfl, _, _, rfl, rfl, ⟨by decide, by decide⟩, _, _, rfl, rfl, (show (0 : Int) < _ by decide), rfl, ?_⟩
  refine ⟨_, rfl, rfl, _, rfl, ite2 (fun c1 => ?_) (fun c1 => ?_)⟩
  · refine ⟨_, rfl, _, rfl, ite2 (fun c2 => ?_) (fun c2 => ?_)⟩
    · refine ⟨_, rfl, _, _, rfl, rfl, ⟨by decide, by decide, by decide⟩, _, _, rfl, rfl, (show (0 : Int) < _ by decide +kernel), _, _, rfl, rfl, ⟨by decide, by decide, by decide⟩, _, _, rfl, rfl, (by show 2 ≤ sizeLine; decide), fun p hp => ?_⟩
      have g1 : 0 ≤ i % (10 ^ (60 : Int).toNat) := Int.emod_nonneg _ (by decide +kernel)
      have g2 : i % (10 ^ (60 : Int).toNat) < 10 ^ (60 : Int).toNat := Int.emod_lt_of_pos _ (by decide +kernel)
      have g3 : (10 : Int) ^ (60 : Int).toNat ≤ 10 ^ 61 := by decide +kernel
      have g4 : (10 : Int) ^ (20 : Int).toNat ≤ 10 ^ 61 := by decide +kernel
      have g5 : (0 : Int) ≤ 10 ^ (20 : Int).toNat := by decide +kernel
      exact qn _ p hp (by omega) (by omega)
    · refine ⟨_, rfl, _, _, rfl, rfl, ⟨by decide, by decide⟩, _, _, rfl, rfl, (show (0 : Int) < _ by decide), _, _, rfl, rfl, (by show 2 ≤ sizeLine; decide), fun p hp => ?_⟩
      have g3 : (3 : Int) ≤ 10 ^ 61 := by decide +kernel
      exact qn _ p hp (by omega) (by omega)
  refine ⟨_, rfl, rfl, _, rfl, ite2 (fun c2 => ?_) (fun c2 => ?_)⟩
  · refine ⟨_, rfl, _, rfl, ite2 (fun c3 => ?_) (fun c3 => ?_)⟩
    · refine ⟨_, rfl, _, _, rfl, rfl, ⟨by decide, by decide⟩, _, rfl, fun x hx _ => ⟨(by show 2 ≤ sizeLine; decide), fun p hp => ?_⟩⟩
      exact qa x H p (Same.refl _) hp hx
    · refine ⟨(by show 2 ≤ sizeLine; decide), fun p hp => ⟨_, rfl, _, _, rfl, rfl, ⟨by decide, by decide⟩, _, _, rfl, rfl, (show (0 : Int) < _ by decide), ?_⟩⟩
      have hz : i / 4 % 2 = 0 ∨ i / 4 % 2 = 1 := by omega
      rcases hz with z | z
      · refine ⟨p, _, _, .str "oak", rfl, rfl, SqL.of upd_same, by rw [z]; rfl, (by show 2 ≤ sizeLine; decide), fun r hr' => ?_⟩
        exact qa _ _ r (same_new hp _) hr' w1
      · refine ⟨p, _, _, .str "oik", rfl, rfl, SqL.of upd_same, by rw [z]; rfl, (by show 2 ≤ sizeLine; decide), fun r hr' => ?_⟩
        exact qa _ _ r (same_new hp _) hr' w2
  refine ⟨_, rfl, _, rfl, ite2 (fun c3 => ?_) (fun c3 => ?_)⟩
  · refine ⟨_, rfl, _, _, rfl, rfl, ⟨by decide, by decide⟩, _, rfl, fun x hx hl => ⟨_, _, rfl, rfl, ?_, (by show 2 ≤ sizeLine; decide), fun p hp => ?_⟩⟩
    · have e : (Str.ofString "zz").length = 2 := by decide +kernel
      rw [e, len_cps]
      exact small (by omega)
    · exact qb _ p hp (hx.zz hl)
  · have hz : i / 4 % 3 = 0 ∨ i / 4 % 3 = 1 ∨ i / 4 % 3 = 2 := by omega
    refine ⟨_, rfl, _, _, rfl, rfl, ⟨by decide, by decide⟩, _, _, rfl, rfl, (show (0 : Int) < _ by decide), ?_⟩
    rcases hz with z | z | z
    · refine ⟨_, _, 120, rfl, rfl, (by decide +kernel), by rw [z]; decide +kernel, (by show 2 ≤ sizeLine; decide), fun p hp => ?_⟩
      exact qb _ p hp (by have e : (⟨#[120]⟩ : Str) = "x" := by decide +kernel
                          rw [e]; exact w3)
    · refine ⟨_, _, 121, rfl, rfl, (by decide +kernel), by rw [z]; decide +kernel, (by show 2 ≤ sizeLine; decide), fun p hp => ?_⟩
      exact qb _ p hp (by have e : (⟨#[121]⟩ : Str) = "y" := by decide +kernel
                          rw [e]; exact w4)
    · refine ⟨_, _, 122, rfl, rfl, (by decide +kernel), by rw [z]; decide +kernel, (by show 2 ≤ sizeLine; decide), fun p hp => ?_⟩
      exact qb _ p hp (by have e : (⟨#[122]⟩ : Str) = "z" := by decide +kernel
                          rw [e]; exact w5)
def spHead : Sp := fun vs H Q _ => ∃ i : Int, vs = [.int i] ∧ ∀ (x : Str) (H' : Hp), Same H H' → Wd x → Q (.str x) H'
theorem ok_head {f : Addr} {fd : FuncData} (F : Fun K "_law_head" "_law_head" s_law_head f fd) (T : Bi mg) (c__law_any_word : Cal P w K mg base 1 "_law_any_word" ["_law_cell"] spWord) :
    FnOk P w K mg base CX0 2 f fd ["_law_cell"] spHead := by
  refine F.ok sc_law_head (fun vs H Q E h => ?_) (fun cdv A outer s H vs Q E hr h => ?_)
  · obtain ⟨i, rfl, _⟩ := h
    rfl
  obtain ⟨i, rfl, q⟩ := h
  obtain ⟨_, _, w1, w2, _, _, _, _, _⟩ := Wd.lits
  apply let_ts; intro T1
  refine ⟨_, (pss_cons (ps_if (pt_cmpR op_eq (pe_op op_mod (pv 0) pe_int) pe_int (nomark _)) (pss_one (ps_ret (pe_cal c__law_any_word (hr.mono (by decide)) (pa_cons (pe_op op_fdiv (pv 0) pe_int) pa_nil)))) pss_nil) (pss_as T1 (pss_one (ps_ret (pe_ix ix_list (pe_lst (pa_cons pe_str (pa_cons pe_str pa_nil))) (pe_op op_mod (pv 0) pe_int) (fun _ _ => rfl)))))), ?_⟩
  refine ⟨_, rfl, _, _, rfl, rfl, (show (0 : Int) < _ by decide), rfl, _, rfl, ite2 (fun c1 => ?_) (fun c1 => ?_)⟩
  · exact ⟨_, rfl, _, _, rfl, rfl, ⟨by decide, by decide⟩, _, rfl, fun x hx _ => q x H (Same.refl _) hx⟩
  · refine ⟨(by show 2 ≤ sizeLine; decide), fun p hp => ⟨_, rfl, _, _, rfl, rfl, (show (0 : Int) < _ by decide), ?_⟩⟩
    have hz : i % 2 = 0 ∨ i % 2 = 1 := by omega
    rcases hz with z | z
    · exact ⟨p, _, _, .str "f", rfl, rfl, SqL.of upd_same, by rw [z]; rfl, q _ _ (same_new hp _) w1⟩
    · exact ⟨p, _, _, .str "pair", rfl, rfl, SqL.of upd_same, by rw [z]; rfl, q _ _ (same_new hp _) w2⟩
def spMany : Sp := fun vs H Q _ => ∃ i n : Int, vs = [.int i, .int n] ∧ ∀ (k : Int) (H' : Hp), Same H H' → (0 ≤ k ∧ k ≤ 3) ∨ k = n → Q (.int k) H'
theorem ok_many {f : Addr} {fd : FuncData} (F : Fun K "_law_many_parts" "_law_many_parts" s_law_many_parts f fd) (T : Bi mg) :
    FnOk P w K mg base CX0 1 f fd ["_law_cell", "_law_count"] spMany := by
  refine F.ok sc_law_many_parts (fun vs H Q E h => ?_) (fun cdv A outer s H vs Q E hr h => ?_)
  · obtain ⟨i, n, rfl, _⟩ := h
    rfl
  obtain ⟨i, n, rfl, q⟩ := h
  have last : ∀ D : Ends, D.rt = Q → tRet (tOp (rIxL K) (tLst (tCons (tC (.int 0)) (tCons (tC (.int 0)) (tCons (tC (.int 1)) (tCons (tC (.int 2)) (tCons (tC (.int 2)) (tCons (tC (.int 3)) tNil))))))) (tOp (rI (fun _ j => 0 < j) fun i j => .int (i % j)) (tVar 0) (tC (.int 6)))) D [some (.int i), some (.int n)] H := fun D hD => by
    refine ⟨(by show 6 ≤ sizeLine; decide), fun p hp => ⟨_, rfl, _, _, rfl, rfl, (show (0 : Int) < _ by decide), ?_⟩⟩
    rw [hD]
    have hz : i % 6 = 0 ∨ i % 6 = 1 ∨ i % 6 = 2 ∨ i % 6 = 3 ∨ i % 6 = 4 ∨ i % 6 = 5 := by omega
    rcases hz with z | z | z | z | z | z
    · exact ⟨p, _, _, .int 0, rfl, rfl, SqL.of upd_same, by rw [z]; rfl, q _ _ (same_new hp _) (.inl ⟨by decide, by decide⟩)⟩
    · exact ⟨p, _, _, .int 0, rfl, rfl, SqL.of upd_same, by rw [z]; rfl, q _ _ (same_new hp _) (.inl ⟨by decide, by decide⟩)⟩
    · exact ⟨p, _, _, .int 1, rfl, rfl, SqL.of upd_same, by rw [z]; rfl, q _ _ (same_new hp _) (.inl ⟨by decide, by decide⟩)⟩
    · exact ⟨p, _, _, .int 2, rfl, rfl, SqL.of upd_same, by rw [z]; rfl, q _ _ (same_new hp _) (.inl ⟨by decide, by decide⟩)⟩
    · exact ⟨p, _, _, .int 2, rfl, rfl, SqL.of upd_same, by rw [z]; rfl, q _ _ (same_new hp _) (.inl ⟨by decide, by decide⟩)⟩
    · exact ⟨p, _, _, .int 3, rfl, rfl, SqL.of upd_same, by rw [z]; rfl, q _ _ (same_new hp _) (.inl ⟨by decide, by decide⟩)⟩
  apply let_ts; intro T1
  refine ⟨_, (pss_cons (ps_if (pw_and (pt_cmpR op_eq (pe_op op_mod (pv 0) pe_int) pe_int (nomark _)) (pw_and1 (pt_cmpR op_eq (pe_op op_mod (pe_op op_fdiv (pv 0) pe_int) pe_int) pe_int (nomark _)))).pt (pss_one (ps_ret (pv 1))) pss_nil) (pss_as T1 (pss_one (ps_ret (pe_ix ix_list (pe_lst (pa_cons pe_int (pa_cons pe_int (pa_cons pe_int (pa_cons pe_int (pa_cons pe_int (pa_cons pe_int pa_nil))))))) (pe_op op_mod (pv 0) pe_int) (fun _ _ => rfl)))))), ?_⟩
  refine ⟨_, rfl, _, _, rfl, rfl, (show (0 : Int) < _ by decide), rfl, _, rfl, ite2 (fun c1 => ?_) (fun c1 => ?_)⟩
  · refine ⟨_, rfl, _, _, rfl, rfl, ⟨by decide, by decide⟩, _, _, rfl, rfl, (show (0 : Int) < _ by decide), rfl, _, rfl, ite2 (fun c2 => ?_) (fun c2 => ?_)⟩
    · exact ⟨_, rfl, q _ _ (Same.refl _) (.inr rfl)⟩
    · exact last _ rfl
  · exact iteF (last _ rfl)
/-- a term is handed back, all that was there stays -/
def spGrown (K : PySem.W.Frag) : Sp := fun vs H Q _ => ∃ (a : Addr) (ns : List Int), vs = [.ref a] ∧ SqL K H a (ns.map V.int) ∧ ns.length ≤ 200 ∧
  ∀ (v : V) (t : Tm) (H' : Hp), Same H H' → TermAt H' v t → t.Ok → t.nodes ≤ ns.length + 2 → Q v H'
theorem cut_from (vs : List V) (k : Int) (h0 : 0 ≤ k) (h : k ≤ vs.length) : cutV vs (some k) none = vs.drop k.toNat := by
  obtain ⟨j, rfl⟩ := Int.eq_ofNat_of_zero_le h0
  unfold cutV
  rw [HT.sIx_none, HT.sIx_nat]
  have e : min j vs.length = j := by have : (j : Int) ≤ vs.length := h; omega
  rw [e]
  show (vs.drop j).take (vs.length - j) = vs.drop j
  exact List.take_of_length_le (by rw [List.length_drop]; omega)
theorem cut_to (vs : List V) (k : Int) (h0 : 0 ≤ k) (h : k ≤ vs.length) : cutV vs none (some k) = vs.take k.toNat := by
  obtain ⟨j, rfl⟩ := Int.eq_ofNat_of_zero_le h0
  unfold cutV
  rw [HT.sIx_none, HT.sIx_nat]
  have e : min j vs.length = j := by have : (j : Int) ≤ vs.length := h; omega
  rw [e]
  rfl
theorem ok_grown {f : Addr} {fd : FuncData} (F : Fun K "_law_grown" "_law_grown" s_law_grown f fd) (T : Bi mg) (c__law_many_parts : Cal P w K mg base 1 "_law_many_parts" ["_law_cell", "_law_count"] spMany)
    (c__law_leaf : Cal P w K mg base 2 "_law_leaf" ["_law_cell"] spLeaf) (c__law_head : Cal P w K mg base 2 "_law_head" ["_law_cell"] spHead) :
    FnOk P w K mg base CX0 3 f fd ["_law_cells"] (spGrown K) := by
  refine F.ok sc_law_grown (fun vs H Q E h => ?_) (fun cdv A outer s H vs Q E hr h => ?_)
  · obtain ⟨a, ns, rfl, _⟩ := h
    rfl
  obtain ⟨a, ns, rfl, hS, hlen, q⟩ := h
  obtain ⟨_, _, _, _, w1, w2, _, _, _⟩ := Wd.lits
  apply let_ts; intro T1
  apply let_ts; intro T2
  apply let_ts; intro T3
  apply let_ts; intro T4
  apply let_ts; intro T5
  apply let_ts; intro T6
  apply let_ts; intro T7
  apply let_ts; intro T8
  apply let_ts; intro T9
  refine ⟨_, (pss_cons (ps_set (i := 1) sc_law_grown.nd rfl (Or.inl rfl) (pe_lst pa_nil)) (pss_as T9 (pss_cons (ps_for PassesOwn.never rfl (pi_list (pv 0)) (pg_name (i := 2) sc_law_grown.nd rfl (Or.inl rfl)) (pss_as T6 (pss_cons (ps_set (i := 3) sc_law_grown.nd rfl (Or.inl rfl) (pe_cal c__law_many_parts (hr.mono (by decide)) (pa_cons (pv 2) (pa_cons (pe_blt call_len_seq T.b_len bt_len (pa_cons (pv 1) pa_nil)) pa_nil)))) (pss_as T5 (pss_one (ps_if (pw_or (pt_cmpR op_eq (pv 3) pe_int (nomark _)) (pw_or1 (pt_cmpR op_gt (pv 3) (pe_blt call_len_seq T.b_len bt_len (pa_cons (pv 1) pa_nil)) (nomark _)))).pt (pss_as T3 (pss_one (ps_expr (pe_bm PySem.F.plainAttrs_list PySem.F.slot_list_append PySem.F.type_list_append mt_append (pv 1) (pa_cons (pe_cal c__law_leaf (hr.mono (by decide)) (pa_cons (pe_op op_fdiv (pv 2) pe_int) pa_nil)) pa_nil))))) (pss_as T4 (pss_cons (ps_set (i := 4) sc_law_grown.nd rfl (Or.inl rfl) (pe_op op_sub (pe_blt call_len_seq T.b_len bt_len (pa_cons (pv 1) pa_nil)) (pv 3))) (pss_as T2 (pss_cons (ps_set (i := 5) sc_law_grown.nd rfl (Or.inl rfl) (pe_tup (pa_cons pe_str (pa_cons (pe_cal c__law_head (hr.mono (by decide)) (pa_cons (pe_op op_fdiv (pv 2) pe_int) pa_nil)) (pa_cons (pe_bty call_tuple_of T.b_tuple bt_tuple (pa_cons (pe_slice sl_list (pv 1) (po_some (pv 4)) po_none) pa_nil)) pa_nil))))) (pss_as T1 (pss_one (ps_set (i := 1) sc_law_grown.nd rfl (Or.inl rfl) (pe_op op_cat (pe_slice sl_list (pv 1) po_none (po_some (pv 4))) (pe_lst (pa_cons (pv 5) pa_nil)))))))))))))))) (pss_as T8 (pss_cons (ps_if (pt_cmpR op_eq (pe_blt call_len_seq T.b_len bt_len (pa_cons (pv 1) pa_nil)) pe_int (nomark _)) (pss_one (ps_ret (pe_ix ix_list (pv 1) pe_int (fun _ _ => rfl)))) pss_nil) (pss_as T7 (pss_one (ps_ret (pe_tup (pa_cons pe_str (pa_cons pe_str (pa_cons (pe_bty call_tuple_of T.b_tuple bt_tuple (pa_cons (pe_op op_cat (pv 1) (pe_lst (pa_cons (pe_tup (pa_cons pe_str (pa_cons pe_str pa_nil))) pa_nil))) pa_nil)) pa_nil)))))))))))), ?_⟩
  refine ⟨(by show 0 ≤ sizeLine; decide), fun p0 hp0 => ?_⟩
  refine ⟨_, rfl, a, rfl, ⟨_, (same_new hp0 _).seq hS⟩, let I1 : Nat → L2.St → Hp → Prop := (fun i σ H2 => ∃ (p : Addr) (us : List V) (ts : List Tm) (o2 o3 o4 o5 : Option V),
    σ = [some (.ref a), some (.ref p), o2, o3, o4, o5] ∧ Same H H2 ∧ H p = none ∧ H2 p = some (.lst us) ∧ TermsAt H2 us ts ∧ OkL ts ∧ nodesL ts ≤ i ∧ i ≤ ns.length); for_list (K := K) (a := a) (xs := ns.map V.int) I1
    ⟨p0, [], [], none, none, none, none, rfl, same_new hp0 _, hp0, upd_same, TermsAt.nil, trivial, Nat.le_refl _, Nat.zero_le _⟩ (fun i σ H2 _ ⟨_, _, _, _, _, _, _, _, s2, _⟩ => s2.seq hS) ?_ ?_⟩
  · rintro i y σ H2 hi ⟨p, us, ts, o2, o3, o4, o5, rfl, s2, fp, hp, ht, hok, hnd, hil⟩
    have hil' : i < (ns.map V.int).length := (List.getElem?_eq_some_iff.mp hi).1
    rw [List.length_map] at hil'
    obtain ⟨c, rfl⟩ : ∃ c, y = V.int c := by
      rw [List.getElem?_map] at hi
      cases e : ns[i]? with
      | none => rw [e] at hi; cases hi
      | some z => rw [e] at hi; exact ⟨z, (Option.some.inj hi).symm⟩
    have hul : us.length ≤ 200 := by have := ht.len; have := len_le_nodes ts; omega
    refine ⟨_, rfl, _, rfl, p, us, rfl, .inl (SqL.of hp), c, us.length, rfl, fun k H3 s3 hk => ?_⟩
    have hk0 : 0 ≤ k := by omega
    have hp3 : H3 p = some (.lst us) := s3 _ _ hp
    have ht3 : TermsAt H3 us ts := ht.mono (.of s3)
    -- a leaf
    have leaf : ∀ D : Ends, D.nx = (fun σ H2 => ∃ (p : Addr) (us : List V) (ts : List Tm) (o2 o3 o4 o5 : Option V),
        σ = [some (.ref a), some (.ref p), o2, o3, o4, o5] ∧ Same H H2 ∧ H p = none ∧ H2 p = some (.lst us) ∧ TermsAt H2 us ts ∧ OkL ts ∧ nodesL ts ≤ i + 1 ∧ i + 1 ≤ ns.length) →
        ∀ (v : V) (t : Tm) (H4 : Hp), Same H3 H4 → TermAt H4 v t → t.Ok → t.nodes = 1 → rAppend (.ref p) [v] H4 (fun _ H1 => D.nx [some (.ref a), some (.ref p), some (.int c), some (.int k), o4, o5] H1) := fun D hD v t H4 s4 hv hvo hvn => by
      refine ⟨p, us, v, rfl, rfl, s4 _ _ hp3, small1000 (by omega), ?_⟩
      rw [hD]
      have k1 : TSame H4 (upd H4 p (.lst (us ++ [v]))) := .lst (s4 _ _ hp3)
      refine ⟨p, us ++ [v], ts ++ [t], _, _, _, _, rfl, fun b o e => ?_, fp, upd_same, TermsAt.mono k1 ((ht3.mono (.of s4)).app (.cons hv .nil)), (okL_append _ _).mpr ⟨hok, hvo, trivial⟩, by rw [nodesL_append]; simp only [nodesL]; omega, by omega⟩
      rw [upd_ne (ne_of_none e fp)]
      exact s4 _ _ (s3 _ _ (s2 _ _ e))
    refine ⟨_, rfl, rfl, _, rfl, ite2 (fun c1 => iteT ?_) (fun c1 => ?_)⟩
    · exact ⟨_, rfl, .inl ⟨rfl, _, SqL.of hp3⟩, _, rfl, _, _, rfl, rfl, ⟨by decide, by decide⟩, _, rfl, leaf _ rfl⟩
    refine ⟨_, rfl, _, rfl, p, us, rfl, .inl (SqL.of hp3), _, _, rfl, rfl, _, rfl, ite2 (fun c2 => ?_) (fun c2 => ?_)⟩
    · exact ⟨_, rfl, .inl ⟨rfl, _, SqL.of hp3⟩, _, rfl, _, _, rfl, rfl, ⟨by decide, by decide⟩, _, rfl, leaf _ rfl⟩
    -- a thing
    have c1' : ¬ k = 0 := fun z => (by rw [z] at c1; exact c1 rfl)
    have c2' : ¬ (us.length : Int) < k := of_decide_eq_false (Bool.eq_false_iff.mpr c2)
    refine ⟨_, rfl, p, us, rfl, .inl (SqL.of hp3), _, rfl, _, _, rfl, rfl, ?_⟩
    have j0 : 0 ≤ (us.length : Int) - k := by omega
    have j1 : (us.length : Int) - k ≤ us.length := by omega
    refine ⟨_, rfl, _, _, rfl, rfl, ⟨by decide, by decide⟩, _, rfl, fun x H4 s4 hx => ?_⟩
    refine ⟨_, rfl, _, rfl, _, rfl, p, us, rfl, SqL.of (s4 _ _ hp3), fun l hl => ?_⟩
    rw [cut_from us _ j0 j1]
    have s5 := same_new hl (HO.lst (us.drop ((us.length : Int) - k).toNat))
    have x5 : upd H4 l (HO.lst (us.drop ((us.length : Int) - k).toNat)) l = some _ := upd_same
    generalize upd H4 l (HO.lst (us.drop ((us.length : Int) - k).toNat)) = H5 at s5 x5 ⊢
    refine ⟨l, _, rfl, .inl ⟨SqL.of x5, fun b hb => ?_⟩⟩
    have s6 := same_new hb (HO.tup (us.drop ((us.length : Int) - k).toNat))
    have x6 : upd H5 b (HO.tup (us.drop ((us.length : Int) - k).toNat)) b = some _ := upd_same
    generalize upd H5 b (HO.tup (us.drop ((us.length : Int) - k).toNat)) = H6 at s6 x6 ⊢
    refine ⟨(by show 3 ≤ sizeLine; decide), fun g hg => ?_⟩
    have s7 := same_new hg (HO.tup [.str "thing", .str x, .ref b])
    have x7 : upd H6 g (HO.tup [.str "thing", .str x, .ref b]) g = some _ := upd_same
    generalize upd H6 g (HO.tup [.str "thing", .str x, .ref b]) = H7 at s7 x7 ⊢
    have e4 : Same H4 H7 := s5.trans (s6.trans s7)
    refine ⟨_, rfl, _, rfl, _, rfl, p, us, rfl, SqL.of (e4 _ _ (s4 _ _ hp3)), fun l2 hl2 => ?_⟩
    rw [cut_to us _ j0 j1]
    have s8 := same_new hl2 (HO.lst (us.take ((us.length : Int) - k).toNat))
    have x8 : upd H7 l2 (HO.lst (us.take ((us.length : Int) - k).toNat)) l2 = some _ := upd_same
    generalize upd H7 l2 (HO.lst (us.take ((us.length : Int) - k).toNat)) = H8 at s8 x8 ⊢
    refine ⟨_, rfl, (by show 1 ≤ sizeLine; decide), fun l3 hl3 => ?_⟩
    have s9 := same_new hl3 (HO.lst [.ref g])
    have x9 : upd H8 l3 (HO.lst [.ref g]) l3 = some _ := upd_same
    generalize upd H8 l3 (HO.lst [.ref g]) = H9 at s9 x9 ⊢
    refine ⟨l2, l3, _, _, rfl, rfl, s9 _ _ x8, x9, ?_, fun l4 hl4 => ?_⟩
    · rw [List.length_take]; show _ + 1 ≤ sizeLine
      exact small (by omega)
    have sA := same_new hl4 (HO.lst (us.take ((us.length : Int) - k).toNat ++ [.ref g]))
    have xA : upd H9 l4 (HO.lst (us.take ((us.length : Int) - k).toNat ++ [.ref g])) l4 = some _ := upd_same
    have e9 : Same H4 H9 := e4.trans (s8.trans s9)
    have f9 : H l4 = none := (s2.trans (s3.trans (s4.trans e9))).free hl4
    generalize upd H9 l4 (HO.lst (us.take ((us.length : Int) - k).toNat ++ [.ref g])) = HA at sA xA ⊢
    have tA : TermsAt HA us ts := ht3.mono (.of (s4.trans (e9.trans sA)))
    have up : Same H7 HA := s8.trans (s9.trans sA)
    have oo := (okL_append (ts.take ((us.length : Int) - k).toNat) (ts.drop ((us.length : Int) - k).toNat)).mp (by rw [List.take_append_drop]; exact hok)
    have nn := nodesL_append (ts.take ((us.length : Int) - k).toNat) (ts.drop ((us.length : Int) - k).toNat)
    rw [List.take_append_drop] at nn
    have hl' := ht.len
    have okk : OkL (ts.take ((us.length : Int) - k).toNat ++ [.thing x (ts.drop ((us.length : Int) - k).toNat)]) := by
      refine (okL_append _ _).mpr ⟨oo.1, ?_⟩
      simp only [OkL, Tm.Ok]
      refine ⟨⟨hx, ?_, oo.2⟩, trivial⟩
      intro z
      have z' := congrArg List.length z
      rw [List.length_drop, List.length_nil] at z'
      omega
    refine ⟨l4, _, ts.take ((us.length : Int) - k).toNat ++ [.thing x (ts.drop ((us.length : Int) - k).toNat)], _, _, _, _, rfl, s2.trans (s3.trans (s4.trans (e9.trans sA))), f9, xA,
      (tA.takeN _).app (.cons (termAt_thing.mpr ⟨g, b, _, rfl, up _ _ x7, up _ _ (s7 _ _ x6), tA.dropN _⟩) .nil), okk, ?_, by omega⟩
    rw [nodesL_append]
    simp only [nodesL, Tm.nodes]
    omega
  · rintro σ H2 ⟨p, us, ts, o2, o3, o4, o5, rfl, s2, fp, hp, ht, hok, hnd, hil⟩
    have hl := ht.len
    have hnl := len_le_nodes ts
    refine ⟨_, rfl, p, us, rfl, .inl (SqL.of hp), rfl, _, rfl, ite2 (fun c1 => ?_) (fun c1 => ?_)⟩
    · have c1' : us.length = 1 := by
        have := V.int.inj (of_decide_eq_true c1)
        omega
      match us, ts, c1', hl, ht, hok, hnd, hp with
      | [u], [t], _, _, ht, hok, hnd, hp =>
        refine ⟨_, rfl, p, _, _, u, rfl, rfl, SqL.of hp, rfl, ?_⟩
        have h1 := ht.at 0 (by simp) (by simp)
        exact q u t H2 s2 h1 hok.1 (by simp only [nodesL] at hnd; omega)
    · have c1' : ¬ us.length = 1 := fun z => c1 (decide_eq_true (by rw [z]; rfl))
      refine ⟨_, rfl, (by show 2 ≤ sizeLine; decide), fun g hg => ?_⟩
      have s7 := same_new hg (HO.tup [.str "name", .str "end"])
      have x7 : upd H2 g (HO.tup [.str "name", .str "end"]) g = some _ := upd_same
      generalize upd H2 g (HO.tup [.str "name", .str "end"]) = H7 at s7 x7 ⊢
      refine ⟨(by show 1 ≤ sizeLine; decide), fun l3 hl3 => ?_⟩
      have s9 := same_new hl3 (HO.lst [.ref g])
      have x9 : upd H7 l3 (HO.lst [.ref g]) l3 = some _ := upd_same
      generalize upd H7 l3 (HO.lst [.ref g]) = H9 at s9 x9 ⊢
      refine ⟨p, l3, us, _, rfl, rfl, s9 _ _ (s7 _ _ hp), x9, ?_, fun l4 hl4 => ?_⟩
      · show us.length + 1 ≤ sizeLine
        exact small (by omega)
      have sA := same_new hl4 (HO.lst (us ++ [.ref g]))
      have xA : upd H9 l4 (HO.lst (us ++ [.ref g])) l4 = some _ := upd_same
      generalize upd H9 l4 (HO.lst (us ++ [.ref g])) = HA at sA xA ⊢
      refine ⟨l4, _, rfl, .inl ⟨SqL.of xA, fun b hb => ?_⟩⟩
      have sB := same_new hb (HO.tup (us ++ [.ref g]))
      have xB : upd HA b (HO.tup (us ++ [.ref g])) b = some _ := upd_same
      generalize upd HA b (HO.tup (us ++ [.ref g])) = HB at sB xB ⊢
      refine ⟨(by show 3 ≤ sizeLine; decide), fun d hd => ?_⟩
      have sC := same_new hd (HO.tup [.str "thing", .str "row", .ref b])
      have xC : upd HB d (HO.tup [.str "thing", .str "row", .ref b]) d = some _ := upd_same
      generalize upd HB d (HO.tup [.str "thing", .str "row", .ref b]) = HC at sC xC ⊢
      have up : Same H7 HC := s9.trans (sA.trans (sB.trans sC))
      refine q _ (.thing "row" (ts ++ [.name "end"])) HC (s2.trans (s7.trans up)) (termAt_thing.mpr ⟨d, b, _, rfl, xC, sC _ _ xB, (ht.mono (.of (s7.trans up))).app (.cons (termAt_name.mpr ⟨g, rfl, up _ _ x7⟩) .nil)⟩) ?_ ?_
      · simp only [Tm.Ok]
        exact ⟨w1, by simp, (okL_append _ _).mpr ⟨hok, by simp only [OkL, Tm.Ok]; exact ⟨w2, trivial⟩⟩⟩
      · simp only [Tm.nodes, nodesL_append, nodesL]
        omega
end
end K02
set_option Elab.async false
set_option linter.all false
set_option maxRecDepth 100000
set_option maxHeartbeats 4000000
namespace K02
open PySem L2 BF
section
variable {P : Program} {w : World} {K : PySem.W.Frag} {mg : Str → Option Value} {base : Heap}
/-- a line that is not too long, and no run of figures in it -/
def Ln (x : Str) : Prop := x.cps.toList.length ≤ 21050 ∧ Rn 400 x.cps.toList
def spFramed : Sp := fun vs H Q _ => ∃ z : Str, vs = [.str z] ∧ z.cps.toList.length ≤ 21000 ∧ Rn 63 z.cps.toList ∧ ∀ (l : Addr) (xs : List Str) (H' : Hp), Same H H' → H' l = some (.lst (xs.map V.str)) → xs.length = 20 → (∀ x ∈ xs, Ln x) → Q (.ref l) H'
theorem ok_framed {f : Addr} {fd : FuncData} (F : Fun K "_law_framed" "_law_framed" s_law_framed f fd) (T : Bi mg) : FnOk P w K mg base CX0 1 f fd ["_law_line"] spFramed := by
  refine F.ok sc_law_framed (fun vs H Q E h => ?_) (fun cdv A outer s H vs Q E hr h => ?_)
  · obtain ⟨x, rfl, _⟩ := h
    rfl
  obtain ⟨z, rfl, hz, hrn, q⟩ := h
  have z1 : ∀ a : Str, a.length ≤ 10 → a.length + z.length ≤ sizeLine := fun a ha => by rw [len_cps z]; exact small (by omega)
  have z3 : ∀ a : Str, a.length ≤ 10 → z.length + a.length ≤ sizeLine := fun a ha => by rw [len_cps z]; exact small (by omega)
  have z2 : ∀ a c : Str, a.length ≤ 10 → c.length ≤ 10 → (a ++ z).length + c.length ≤ sizeLine := fun a c ha hc => by
    rw [len_cps (a ++ z), cps_append, List.length_append, ← len_cps a]; exact small (by omega)
  have g1 : ∀ a : Str, a.length ≤ 10 → Ln (a ++ z) := fun a ha => by
    rw [len_cps] at ha
    refine ⟨by rw [cps_append, List.length_append]; omega, ?_⟩
    rw [cps_append]
    exact (rn_app (rn_len ha) hrn).le (by omega)
  have g3 : ∀ a : Str, a.length ≤ 10 → Ln (z ++ a) := fun a ha => by
    rw [len_cps] at ha
    refine ⟨by rw [cps_append, List.length_append]; omega, ?_⟩
    rw [cps_append]
    exact (rn_app hrn (rn_len ha)).le (by omega)
  have g2 : ∀ a c : Str, a.length ≤ 10 → c.length ≤ 10 → Ln (a ++ z ++ c) := fun a c ha hc => by
    rw [len_cps] at ha hc
    refine ⟨by rw [cps_append, cps_append, List.length_append, List.length_append]; omega, ?_⟩
    rw [cps_append, cps_append]
    exact (rn_app (rn_app (rn_len ha) hrn) (rn_len hc)).le (by omega)
  have nil : ∀ x ∈ ([] : List Str), Ln x := fun x hx => (nomatch hx)
  have cons : ∀ (x : Str) (xs : List Str), Ln x → (∀ y ∈ xs, Ln y) → ∀ y ∈ x :: xs, Ln y := fun x xs h1 h2 y hy => (List.mem_cons.mp hy).elim (fun e => e ▸ h1) (h2 y)
  have app : ∀ (xs ys : List Str), (∀ y ∈ xs, Ln y) → (∀ y ∈ ys, Ln y) → ∀ y ∈ xs ++ ys, Ln y := fun xs ys h1 h2 y hy => (List.mem_append.mp hy).elim (h1 y) (h2 y)
  have g0 : Ln (Str.ofString "f()") := by
    have e : (Str.ofString "f()").cps.toList = [102, 40, 41] := by decide +kernel
    unfold Ln
    rw [e]
    exact ⟨by decide, rn_len (by decide)⟩
  apply let_ts; intro T1
  apply let_ts; intro T2
  apply let_ts; intro T3
  apply let_ts; intro T4
  apply let_ts; intro T5
  refine ⟨_, (pss_cons (ps_set (i := 1) sc_law_framed.nd rfl (Or.inl rfl) (pe_lst (pa_cons (pe_op op_add_str (pe_op op_add_str pe_str (pv 0)) pe_str) (pa_cons (pe_op op_add_str (pe_op op_add_str pe_str (pv 0)) pe_str) (pa_cons (pe_op op_add_str (pe_op op_add_str pe_str (pv 0)) pe_str) pa_nil))))) (pss_as T5 (pss_cons (ps_set (i := 1) sc_law_framed.nd rfl (Or.inl rfl) (pe_op op_cat (pv 1) (pe_lst (pa_cons (pe_op op_add_str pe_str (pv 0)) (pa_cons (pe_op op_add_str (pv 0) pe_str) (pa_cons (pe_op op_add_str (pe_op op_add_str pe_str (pv 0)) pe_str) (pa_cons (pe_op op_add_str (pe_op op_add_str pe_str (pv 0)) pe_str) pa_nil))))))) (pss_as T4 (pss_cons (ps_set (i := 1) sc_law_framed.nd rfl (Or.inl rfl) (pe_op op_cat (pv 1) (pe_lst (pa_cons (pe_op op_add_str (pe_op op_add_str pe_str (pv 0)) pe_str) (pa_cons (pe_op op_add_str (pe_op op_add_str pe_str (pv 0)) pe_str) (pa_cons (pe_op op_add_str (pe_op op_add_str pe_str (pv 0)) pe_str) pa_nil)))))) (pss_as T3 (pss_cons (ps_set (i := 1) sc_law_framed.nd rfl (Or.inl rfl) (pe_op op_cat (pv 1) (pe_lst (pa_cons (pe_op op_add_str (pv 0) pe_str) (pa_cons (pe_op op_add_str (pe_op op_add_str pe_str (pv 0)) pe_str) (pa_cons (pe_op op_add_str pe_str (pv 0)) (pa_cons pe_str pa_nil))))))) (pss_as T2 (pss_cons (ps_set (i := 1) sc_law_framed.nd rfl (Or.inl rfl) (pe_op op_cat (pv 1) (pe_lst (pa_cons (pe_op op_add_str (pe_op op_add_str pe_str (pv 0)) pe_str) (pa_cons (pe_op op_add_str (pe_op op_add_str pe_str (pv 0)) pe_str) (pa_cons (pe_op op_add_str (pe_op op_add_str pe_str (pv 0)) pe_str) pa_nil)))))) (pss_as T1 (pss_cons (ps_set (i := 1) sc_law_framed.nd rfl (Or.inl rfl) (pe_op op_cat (pv 1) (pe_lst (pa_cons (pe_op op_add_str (pe_op op_add_str pe_str (pv 0)) pe_str) (pa_cons (pe_op op_add_str (pe_op op_add_str pe_str (pv 0)) pe_str) (pa_cons (pe_op op_add_str (pe_op op_add_str pe_str (pv 0)) pe_str) pa_nil)))))) (pss_one (ps_ret (pv 1)))))))))))))), ?_⟩
  refine ⟨_, rfl, _, _, rfl, rfl, z1 _ (by decide +kernel), _, _, rfl, rfl, z2 _ _ (by decide +kernel) (by decide +kernel), _, rfl, _, _, rfl, rfl, z1 _ (by decide +kernel), _, _, rfl, rfl, z2 _ _ (by decide +kernel) (by decide +kernel), _, rfl, _, _, rfl, rfl, z1 _ (by decide +kernel), _, _, rfl, rfl, z2 _ _ (by decide +kernel) (by decide +kernel), (by show 3 ≤ sizeLine; decide), fun l0 hl0 => ?_⟩
  obtain ⟨xs0, ex0, nx0, gx0⟩ : ∃ xs : List Str, [V.str (Str.ofString "f(" ++ z ++ Str.ofString ")y"), V.str (Str.ofString "f(" ++ z ++ Str.ofString ",07)"), V.str (Str.ofString "f(00," ++ z ++ Str.ofString ")")] = xs.map V.str ∧ xs.length = 3 ∧ ∀ x ∈ xs, Ln x := ⟨[Str.ofString "f(" ++ z ++ Str.ofString ")y", Str.ofString "f(" ++ z ++ Str.ofString ",07)", Str.ofString "f(00," ++ z ++ Str.ofString ")"], rfl, rfl, cons _ _ (g2 _ _ (by decide +kernel) (by decide +kernel)) (cons _ _ (g2 _ _ (by decide +kernel) (by decide +kernel)) (cons _ _ (g2 _ _ (by decide +kernel) (by decide +kernel)) (nil)))⟩
  rw [ex0]
  have sa0 := same_new hl0 (HO.lst (xs0.map V.str))
  have xa0 : upd H l0 (HO.lst (xs0.map V.str)) l0 = some _ := upd_same
  generalize upd H l0 (HO.lst (xs0.map V.str)) = HB0 at sa0 xa0 ⊢
  refine ⟨_, rfl, _, rfl, _, _, rfl, rfl, z1 _ (by decide +kernel), _, rfl, _, _, rfl, rfl, z3 _ (by decide +kernel), _, rfl, _, _, rfl, rfl, z1 _ (by decide +kernel), _, _, rfl, rfl, z2 _ _ (by decide +kernel) (by decide +kernel), _, rfl, _, _, rfl, rfl, z1 _ (by decide +kernel), _, _, rfl, rfl, z2 _ _ (by decide +kernel) (by decide +kernel), (by show 4 ≤ sizeLine; decide), fun l1 hl1 => ?_⟩
  obtain ⟨xs1, ex1, nx1, gx1⟩ : ∃ xs : List Str, [V.str (Str.ofString "f(" ++ z), V.str (z ++ Str.ofString ")"), V.str (Str.ofString "f(" ++ z ++ Str.ofString ",)"), V.str (Str.ofString "(" ++ z ++ Str.ofString ")")] = xs.map V.str ∧ xs.length = 4 ∧ ∀ x ∈ xs, Ln x := ⟨[Str.ofString "f(" ++ z, z ++ Str.ofString ")", Str.ofString "f(" ++ z ++ Str.ofString ",)", Str.ofString "(" ++ z ++ Str.ofString ")"], rfl, rfl, cons _ _ (g1 _ (by decide +kernel)) (cons _ _ (g3 _ (by decide +kernel)) (cons _ _ (g2 _ _ (by decide +kernel) (by decide +kernel)) (cons _ _ (g2 _ _ (by decide +kernel) (by decide +kernel)) (nil))))⟩
  rw [ex1]
  have sa1 := same_new hl1 (HO.lst (xs1.map V.str))
  have xa1 : upd HB0 l1 (HO.lst (xs1.map V.str)) l1 = some _ := upd_same
  generalize upd HB0 l1 (HO.lst (xs1.map V.str)) = HA1 at sa1 xa1 ⊢
  refine ⟨l0, l1, _, _, rfl, rfl, sa1 _ _ xa0, xa1, (by rw [List.length_map, List.length_map, nx0, nx1]; decide), fun m1 hm1 => ?_⟩
  rw [← List.map_append]
  have gy1 := app _ _ gx0 gx1
  have ny1 : (xs0 ++ xs1).length = 7 := by rw [List.length_append, nx0, nx1]
  generalize xs0 ++ xs1 = ys1 at gy1 ny1 ⊢
  have sb1 := sa0.trans (sa1.trans (same_new hm1 (HO.lst (ys1.map V.str))))
  have xb1 : upd HA1 m1 (HO.lst (ys1.map V.str)) m1 = some _ := upd_same
  generalize upd HA1 m1 (HO.lst (ys1.map V.str)) = HB1 at sb1 xb1 ⊢
  refine ⟨_, rfl, _, rfl, _, _, rfl, rfl, z1 _ (by decide +kernel), _, _, rfl, rfl, z2 _ _ (by decide +kernel) (by decide +kernel), _, rfl, _, _, rfl, rfl, z1 _ (by decide +kernel), _, _, rfl, rfl, z2 _ _ (by decide +kernel) (by decide +kernel), _, rfl, _, _, rfl, rfl, z1 _ (by decide +kernel), _, _, rfl, rfl, z2 _ _ (by decide +kernel) (by decide +kernel), (by show 3 ≤ sizeLine; decide), fun l2 hl2 => ?_⟩
  obtain ⟨xs2, ex2, nx2, gx2⟩ : ∃ xs : List Str, [V.str (Str.ofString "?f(" ++ z ++ Str.ofString ")"), V.str (Str.ofString "3(" ++ z ++ Str.ofString ")"), V.str (Str.ofString "f(" ++ z ++ Str.ofString ")(y)")] = xs.map V.str ∧ xs.length = 3 ∧ ∀ x ∈ xs, Ln x := ⟨[Str.ofString "?f(" ++ z ++ Str.ofString ")", Str.ofString "3(" ++ z ++ Str.ofString ")", Str.ofString "f(" ++ z ++ Str.ofString ")(y)"], rfl, rfl, cons _ _ (g2 _ _ (by decide +kernel) (by decide +kernel)) (cons _ _ (g2 _ _ (by decide +kernel) (by decide +kernel)) (cons _ _ (g2 _ _ (by decide +kernel) (by decide +kernel)) (nil)))⟩
  rw [ex2]
  have sa2 := same_new hl2 (HO.lst (xs2.map V.str))
  have xa2 : upd HB1 l2 (HO.lst (xs2.map V.str)) l2 = some _ := upd_same
  generalize upd HB1 l2 (HO.lst (xs2.map V.str)) = HA2 at sa2 xa2 ⊢
  refine ⟨m1, l2, _, _, rfl, rfl, sa2 _ _ xb1, xa2, (by rw [List.length_map, List.length_map, ny1, nx2]; decide), fun m2 hm2 => ?_⟩
  rw [← List.map_append]
  have gy2 := app _ _ gy1 gx2
  have ny2 : (ys1 ++ xs2).length = 10 := by rw [List.length_append, ny1, nx2]
  generalize ys1 ++ xs2 = ys2 at gy2 ny2 ⊢
  have sb2 := sb1.trans (sa2.trans (same_new hm2 (HO.lst (ys2.map V.str))))
  have xb2 : upd HA2 m2 (HO.lst (ys2.map V.str)) m2 = some _ := upd_same
  generalize upd HA2 m2 (HO.lst (ys2.map V.str)) = HB2 at sb2 xb2 ⊢
  refine ⟨_, rfl, _, rfl, _, _, rfl, rfl, z3 _ (by decide +kernel), _, rfl, _, _, rfl, rfl, z1 _ (by decide +kernel), _, _, rfl, rfl, z2 _ _ (by decide +kernel) (by decide +kernel), _, rfl, _, _, rfl, rfl, z1 _ (by decide +kernel), (by show 4 ≤ sizeLine; decide), fun l3 hl3 => ?_⟩
  obtain ⟨xs3, ex3, nx3, gx3⟩ : ∃ xs : List Str, [V.str (z ++ Str.ofString ",y"), V.str (Str.ofString "f(," ++ z ++ Str.ofString ")"), V.str (Str.ofString "f(x)" ++ z), V.str (Str.ofString "f()")] = xs.map V.str ∧ xs.length = 4 ∧ ∀ x ∈ xs, Ln x := ⟨[z ++ Str.ofString ",y", Str.ofString "f(," ++ z ++ Str.ofString ")", Str.ofString "f(x)" ++ z, Str.ofString "f()"], rfl, rfl, cons _ _ (g3 _ (by decide +kernel)) (cons _ _ (g2 _ _ (by decide +kernel) (by decide +kernel)) (cons _ _ (g1 _ (by decide +kernel)) (cons _ _ (g0) (nil))))⟩
  rw [ex3]
  have sa3 := same_new hl3 (HO.lst (xs3.map V.str))
  have xa3 : upd HB2 l3 (HO.lst (xs3.map V.str)) l3 = some _ := upd_same
  generalize upd HB2 l3 (HO.lst (xs3.map V.str)) = HA3 at sa3 xa3 ⊢
  refine ⟨m2, l3, _, _, rfl, rfl, sa3 _ _ xb2, xa3, (by rw [List.length_map, List.length_map, ny2, nx3]; decide), fun m3 hm3 => ?_⟩
  rw [← List.map_append]
  have gy3 := app _ _ gy2 gx3
  have ny3 : (ys2 ++ xs3).length = 14 := by rw [List.length_append, ny2, nx3]
  generalize ys2 ++ xs3 = ys3 at gy3 ny3 ⊢
  have sb3 := sb2.trans (sa3.trans (same_new hm3 (HO.lst (ys3.map V.str))))
  have xb3 : upd HA3 m3 (HO.lst (ys3.map V.str)) m3 = some _ := upd_same
  generalize upd HA3 m3 (HO.lst (ys3.map V.str)) = HB3 at sb3 xb3 ⊢
  refine ⟨_, rfl, _, rfl, _, _, rfl, rfl, z1 _ (by decide +kernel), _, _, rfl, rfl, z2 _ _ (by decide +kernel) (by decide +kernel), _, rfl, _, _, rfl, rfl, z1 _ (by decide +kernel), _, _, rfl, rfl, z2 _ _ (by decide +kernel) (by decide +kernel), _, rfl, _, _, rfl, rfl, z1 _ (by decide +kernel), _, _, rfl, rfl, z2 _ _ (by decide +kernel) (by decide +kernel), (by show 3 ≤ sizeLine; decide), fun l4 hl4 => ?_⟩
  obtain ⟨xs4, ex4, nx4, gx4⟩ : ∃ xs : List Str, [V.str (Str.ofString "f(-," ++ z ++ Str.ofString ")"), V.str (Str.ofString "f(-0," ++ z ++ Str.ofString ")"), V.str (Str.ofString "f(" ++ z ++ Str.ofString "?x)")] = xs.map V.str ∧ xs.length = 3 ∧ ∀ x ∈ xs, Ln x := ⟨[Str.ofString "f(-," ++ z ++ Str.ofString ")", Str.ofString "f(-0," ++ z ++ Str.ofString ")", Str.ofString "f(" ++ z ++ Str.ofString "?x)"], rfl, rfl, cons _ _ (g2 _ _ (by decide +kernel) (by decide +kernel)) (cons _ _ (g2 _ _ (by decide +kernel) (by decide +kernel)) (cons _ _ (g2 _ _ (by decide +kernel) (by decide +kernel)) (nil)))⟩
  rw [ex4]
  have sa4 := same_new hl4 (HO.lst (xs4.map V.str))
  have xa4 : upd HB3 l4 (HO.lst (xs4.map V.str)) l4 = some _ := upd_same
  generalize upd HB3 l4 (HO.lst (xs4.map V.str)) = HA4 at sa4 xa4 ⊢
  refine ⟨m3, l4, _, _, rfl, rfl, sa4 _ _ xb3, xa4, (by rw [List.length_map, List.length_map, ny3, nx4]; decide), fun m4 hm4 => ?_⟩
  rw [← List.map_append]
  have gy4 := app _ _ gy3 gx4
  have ny4 : (ys3 ++ xs4).length = 17 := by rw [List.length_append, ny3, nx4]
  generalize ys3 ++ xs4 = ys4 at gy4 ny4 ⊢
  have sb4 := sb3.trans (sa4.trans (same_new hm4 (HO.lst (ys4.map V.str))))
  have xb4 : upd HA4 m4 (HO.lst (ys4.map V.str)) m4 = some _ := upd_same
  generalize upd HA4 m4 (HO.lst (ys4.map V.str)) = HB4 at sb4 xb4 ⊢
  refine ⟨_, rfl, _, rfl, _, _, rfl, rfl, z1 _ (by decide +kernel), _, _, rfl, rfl, z2 _ _ (by decide +kernel) (by decide +kernel), _, rfl, _, _, rfl, rfl, z1 _ (by decide +kernel), _, _, rfl, rfl, z2 _ _ (by decide +kernel) (by decide +kernel), _, rfl, _, _, rfl, rfl, z1 _ (by decide +kernel), _, _, rfl, rfl, z2 _ _ (by decide +kernel) (by decide +kernel), (by show 3 ≤ sizeLine; decide), fun l5 hl5 => ?_⟩
  obtain ⟨xs5, ex5, nx5, gx5⟩ : ∃ xs : List Str, [V.str (Str.ofString "f(-10," ++ z ++ Str.ofString ")"), V.str (Str.ofString "f(" ++ z ++ Str.ofString ",0)"), V.str (Str.ofString "f(+1," ++ z ++ Str.ofString ")")] = xs.map V.str ∧ xs.length = 3 ∧ ∀ x ∈ xs, Ln x := ⟨[Str.ofString "f(-10," ++ z ++ Str.ofString ")", Str.ofString "f(" ++ z ++ Str.ofString ",0)", Str.ofString "f(+1," ++ z ++ Str.ofString ")"], rfl, rfl, cons _ _ (g2 _ _ (by decide +kernel) (by decide +kernel)) (cons _ _ (g2 _ _ (by decide +kernel) (by decide +kernel)) (cons _ _ (g2 _ _ (by decide +kernel) (by decide +kernel)) (nil)))⟩
  rw [ex5]
  have sa5 := same_new hl5 (HO.lst (xs5.map V.str))
  have xa5 : upd HB4 l5 (HO.lst (xs5.map V.str)) l5 = some _ := upd_same
  generalize upd HB4 l5 (HO.lst (xs5.map V.str)) = HA5 at sa5 xa5 ⊢
  refine ⟨m4, l5, _, _, rfl, rfl, sa5 _ _ xb4, xa5, (by rw [List.length_map, List.length_map, ny4, nx5]; decide), fun m5 hm5 => ?_⟩
  rw [← List.map_append]
  have gy5 := app _ _ gy4 gx5
  have ny5 : (ys4 ++ xs5).length = 20 := by rw [List.length_append, ny4, nx5]
  generalize ys4 ++ xs5 = ys5 at gy5 ny5 ⊢
  have sb5 := sb4.trans (sa5.trans (same_new hm5 (HO.lst (ys5.map V.str))))
  have xb5 : upd HA5 m5 (HO.lst (ys5.map V.str)) m5 = some _ := upd_same
  generalize upd HA5 m5 (HO.lst (ys5.map V.str)) = HB5 at sb5 xb5 ⊢
  exact ⟨_, rfl, q m5 ys5 HB5 sb5 xb5 ny5 gy5⟩
end
end K02
set_option Elab.async false
set_option linter.all false
set_option maxRecDepth 100000
set_option maxHeartbeats 4000000
namespace K02
open PySem L2 BF
section
variable {P : Program} {w : World} {K : PySem.W.Frag} {mg : Str → Option Value} {base : Heap}
/-- a good term, of a line not too long, written -/
def spShownG : Sp := fun vs H Q _ => ∃ (v : V) (t : Tm), vs = [v] ∧ TermAt H v t ∧ t.Gd ∧ t.Nb ∧ t.line.length ≤ 21100 ∧ ∀ (x : Str) (H' : Hp), Same H H' → x.cps.toList = t.line → Q (.str x) H'
theorem ok_line_of {f : Addr} {fd : FuncData} (F : Fun K "_law_line_of" "_law_line_of" s_law_line_of f fd) (T : Bi mg) : FnOk P w K mg base CX0 1 f fd ["_law_term"] spShownG := by
  refine F.ok sc_law_line_of (fun vs H Q E h => ?_) (fun cdv A outer s H vs Q E hr h => ?_)
  · obtain ⟨v, t, rfl, _⟩ := h
    rfl
  obtain ⟨v, t, rfl, ht, hgd, hnb, hll, q⟩ := h
  have hn := nodes_line t hgd
  apply let_ts; intro T1
  apply let_ts; intro T2
  apply let_ts; intro T3
  apply let_ts; intro T4
  apply let_ts; intro T5
  apply let_ts; intro T6
  apply let_ts; intro T7
  apply let_ts; intro T8
  apply let_ts; intro T9
  apply let_ts; intro T10
  apply let_ts; intro T11
  apply let_ts; intro T12
  apply let_ts; intro T13
  apply let_ts; intro T14
  refine ⟨_, (pss_cons (ps_set (i := 1) sc_law_line_of.nd rfl (Or.inl rfl) pe_str) (pss_as T14 (pss_cons (ps_set (i := 2) sc_law_line_of.nd rfl (Or.inl rfl) (pe_lst (pa_cons (pv 0) pa_nil))) (pss_as T13 (pss_cons (ps_while PassesOwn.never (pt_cmpR (op_neNil hr.units0) (pv 2) (pe_lst pa_nil) (nomark _)) (pss_as T12 (pss_cons (ps_set (i := 3) sc_law_line_of.nd rfl (Or.inl rfl) (pe_bm0 PySem.F.plainAttrs_list PySem.F.slot_list_pop PySem.F.type_list_pop mt_pop (pv 2))) (pss_as T11 (pss_one (ps_if (pt_val (pe_blt call_isi T.b_isinstance bt_isinstance (pa_cons (pv 3) (pa_cons (pe_tyn T.b_str bt_str) pa_nil)))) (pss_one (ps_set (i := 1) sc_law_line_of.nd rfl (Or.inl rfl) (pe_op op_add_str (pv 1) (pv 3)))) (pss_as T10 (pss_one (ps_if (pt_cmpR op_eq (pe_ix ix_tup (pv 3) pe_int (fun _ _ => rfl)) pe_str (nomark _)) (pss_as T8 (pss_cons (ps_set (i := 1) sc_law_line_of.nd rfl (Or.inl rfl) (pe_op op_add_str (pe_op op_add_str (pv 1) (pe_ix ix_tup (pv 3) pe_int (fun _ _ => rfl))) pe_str)) (pss_as T5 (pss_cons (ps_expr (pe_bm PySem.F.plainAttrs_list PySem.F.slot_list_append PySem.F.type_list_append mt_append (pv 2) (pa_cons pe_str pa_nil))) (pss_as T4 (pss_one (ps_for PassesOwn.never rfl (pi_range3 rfl T.b_range (pa_cons (pe_op op_sub (pe_blt call_len_seq T.b_len bt_len (pa_cons (pe_ix ix_tup (pv 3) pe_int (fun _ _ => rfl)) pa_nil)) pe_int) (pa_cons (pe_un un_neg pe_int) (pa_cons (pe_un un_neg pe_int) pa_nil)))) (pg_name (i := 4) sc_law_line_of.nd rfl (Or.inl rfl)) (pss_as T3 (pss_cons (ps_expr (pe_bm PySem.F.plainAttrs_list PySem.F.slot_list_append PySem.F.type_list_append mt_append (pv 2) (pa_cons (pe_ix ix_tup (pe_ix ix_tup (pv 3) pe_int (fun _ _ => rfl)) (pv 4) (fun _ _ => rfl)) pa_nil))) (pss_as T2 (pss_one (ps_if (pt_cmpR op_gt (pv 4) pe_int (nomark _)) (pss_as T1 (pss_one (ps_expr (pe_bm PySem.F.plainAttrs_list PySem.F.slot_list_append PySem.F.type_list_append mt_append (pv 2) (pa_cons pe_str pa_nil))))) pss_nil)))))))))))) (pss_as T9 (pss_one (ps_if (pt_cmpR op_eq (pe_ix ix_tup (pv 3) pe_int (fun _ _ => rfl)) pe_str (nomark _)) (pss_as T6 (pss_one (ps_set (i := 1) sc_law_line_of.nd rfl (Or.inl rfl) (pe_op op_add_str (pv 1) (pe_bty call_str_int T.b_str bt_str (pa_cons (pe_ix ix_tup (pv 3) pe_int (fun _ _ => rfl)) pa_nil)))))) (pss_as T7 (pss_one (ps_set (i := 1) sc_law_line_of.nd rfl (Or.inl rfl) (pe_op op_add_str (pe_op op_add_str (pv 1) (pe_ix ix_list (pe_lst (pa_cons pe_str (pa_cons pe_str pa_nil))) (pe_bty call_int1 T.b_int bt_int (pa_cons (pe_cmpR op_eq (pe_ix ix_tup (pv 3) pe_int (fun _ _ => rfl)) pe_str (nomark _)) pa_nil)) (fun _ _ => rfl))) (pe_ix ix_tup (pv 3) pe_int (fun _ _ => rfl)))))))))))))))))) (pss_one (ps_ret (pv 1)))))))), ?_⟩
  refine ⟨_, rfl, (by show 1 ≤ sizeLine; decide), fun p2 f2 => ?_⟩
  have s2 := same_new f2 (HO.lst [v])
  have x2 : upd H p2 (HO.lst [v]) p2 = some _ := upd_same
  generalize upd H p2 (HO.lst [v]) = H2 at s2 x2 ⊢
  have e0 : (Str.ofString "").cps.toList = [] := by decide +kernel
  refine ⟨fun m σ H3 => ∃ (o4 o5 : Option V) (x : Str) (us : List V) (l : List Pc), σ = [some v, some (.str x), some (.ref p2), o4, o5] ∧ Same H H3 ∧ H3 p2 = some (.lst us) ∧ PcsAt H3 us l ∧ (∀ c ∈ l, PcG c) ∧
      wts l = m ∧ x.cps.toList ++ outs l = t.line ∧ m ≤ 3 * t.nodes,
    ⟨_, none, none, "", [v], [Pc.tm t], rfl, s2, x2, .cons (ht.mono (.of s2)) .nil, by simpa [PcG] using ⟨hgd, hnb⟩, rfl, by rw [e0]; simp [outs, Pc.out], by simp [wts, Pc.wt]⟩, ?_⟩
  rintro m σ H3 ⟨o4, o5, x, us, l, rfl, s3, g2, hus, hpo, hm, hout, hsz⟩
  have hxl : x.cps.toList.length ≤ 21100 := by
    have := congrArg List.length hout
    rw [List.length_append] at this
    omega
  refine ⟨_, rfl, (by show 0 ≤ sizeLine; decide), fun e he => ?_⟩
  have sE := same_new he (HO.lst [])
  have xE : upd H3 e (HO.lst []) e = some _ := upd_same
  generalize upd H3 e (HO.lst []) = HE at sE xE ⊢
  have g2 := sE _ _ g2
  have s3 := s3.trans sE
  have hus := hus.mono (.of sE)
  refine ⟨p2, e, us, rfl, rfl, g2, xE, _, rfl, ite2 (fun c => ⟨_, fun _ _ h => h, ?_⟩) (fun c => ?_)⟩
  · -- a turn
    have hne : us ≠ [] := by intro z; rw [z] at c; exact absurd c (by decide)
    have hlen := hus.len
    obtain ⟨us0, u, rfl⟩ := snoc_of hne
    obtain ⟨l0, pc, rfl⟩ := snoc_of (l := l) (by intro z; rw [z] at hlen; simp at hlen)
    obtain ⟨h0, hu⟩ := hus.snoc
    have hpo0 : ∀ c ∈ l0, PcG c := fun c hc => hpo c (by simp [hc])
    have hpc : PcG pc := hpo pc (by simp)
    rw [wts_snoc] at hm
    rw [outs_snoc] at hout
    have hl0 := len_le_wts l0
    have hu0 := h0.len
    refine ⟨_, rfl, .inl ⟨rfl, _, SqL.of g2⟩, p2, _, u, rfl, rfl, g2, by simp, ?_⟩
    rw [List.dropLast_concat]
    have k4 : TSame HE (upd HE p2 (HO.lst us0)) := .lst g2
    have x4 : upd HE p2 (HO.lst us0) p2 = some _ := upd_same
    have s4 : Same H (upd HE p2 (HO.lst us0)) := fun b ob z => by rw [upd_ne (ne_of_none z f2)]; exact s3 _ _ z
    generalize upd HE p2 (HO.lst us0) = H4 at k4 x4 s4 ⊢
    have h4 := h0.mono k4
    cases pc with
    | sg y =>
      cases (show u = V.str y from hu)
      have hy : y.cps.toList.length ≤ 1 := hpc
      refine ⟨_, rfl, _, _, _, _, rfl, .str _, .ss, _, rfl, iteT ?_⟩
      refine ⟨_, rfl, _, rfl, _, _, rfl, rfl, by rw [len_cps, len_cps]; exact small (by omega), ?_⟩
      exact ⟨wts l0, by simp only [Pc.wt] at hm; omega, _, _, _, us0, l0, rfl, s4, x4, h4, hpo0, rfl, by rw [cps_append]; simpa [Pc.out, List.append_assoc] using hout, by omega⟩
    | tm t1 =>
      have ht1 : TermAt H4 u t1 := TermAt.mono k4 hu
      have n1 := t1.nodes_pos
      have hwt : (Pc.tm t1).wt = 3 * t1.nodes - 1 := rfl
      cases t1 with
      | thing y ps =>
        obtain ⟨a, b, pv, rfl, e1, e2, e3⟩ := termAt_thing.mp ht1
        obtain ⟨hg1, hb1⟩ := hpc
        simp only [Tm.Gd] at hg1
        simp only [Tm.Nb] at hb1
        obtain ⟨hx, hps, hop⟩ := hg1
        have hx2 : x.cps.toList.length + y.cps.toList.length + 1 ≤ 21100 := by
          have := congrArg List.length hout
          simp only [Pc.out, Tm.line, List.length_append, List.length_cons] at this
          omega
        have hpl := e3.len
        have hpn := len_le_nodes ps
        simp only [Tm.nodes] at hwt
        rw [hwt] at hm
        obtain ⟨t0, ts, rfl⟩ : ∃ t0 ts, ps = t0 :: ts := by
          cases ps with
          | nil => exact absurd rfl hps
          | cons t0 ts => exact ⟨t0, ts, rfl⟩
        simp only [List.length_cons] at hpl hpn
        refine ⟨_, rfl, _, _, _, _, rfl, .tup e1, .ts, _, rfl, iteF ?_⟩
        refine ⟨_, rfl, _, _, _, _, rfl, rfl, SqT.of e1, rfl, rfl, _, rfl, ite_t (by decide +kernel) ?_⟩
        refine ⟨_, rfl, _, rfl, _, _, _, _, rfl, rfl, SqT.of e1, rfl, _, _, rfl, rfl, by rw [len_cps, len_cps]; exact small (by omega), _, _, rfl, rfl, by rw [len_cps, len_cps, cps_append, open_cps, List.length_append]; exact small (by simp only [List.length_cons, List.length_nil]; omega), ?_⟩
        refine ⟨_, rfl, .inl ⟨rfl, _, SqL.of x4⟩, p2, _, _, rfl, rfl, x4, big (by omega), ?_⟩
        have k6 : TSame H4 (upd H4 p2 (HO.lst (us0 ++ [.str ")"]))) := .lst x4
        have x6 : upd H4 p2 (HO.lst (us0 ++ [.str ")"])) p2 = some _ := upd_same
        have s6 : Same H (upd H4 p2 (HO.lst (us0 ++ [.str ")"]))) := fun b ob z => by rw [upd_ne (ne_of_none z f2)]; exact s4 _ _ z
        generalize upd H4 p2 (HO.lst (us0 ++ [.str ")"])) = H6 at k6 x6 s6 ⊢
        refine ⟨_, rfl, _, _, _, _, rfl, rfl, SqT.of (k6 _ _ e1), rfl, b, pv, rfl, .inr (SqT.of (k6 _ _ e2)), _, _, rfl, rfl, _, rfl, _, rfl, _, _, rfl, ⟨by omega, by omega, by omega, by omega⟩,
          for_down (lo := (pv.length : Int) - 1) (n := ((pv.length : Int) - 1 - -1).toNat) (fun i σ H7 => ∃ (ws : List V) (o : Option V), σ = [some v, some (.str (x ++ y ++ "(")), some (.ref p2), some (.ref a), o] ∧ TSame H6 H7 ∧ Same H H7 ∧ H7 p2 = some (.lst (us0 ++ ws)) ∧
            ((i ≤ ts.length ∧ PcsAt H7 ws ([Pc.sg ")"] ++ (ts.reverse.take i).flatMap fun u => [Pc.tm u, Pc.sg ","])) ∨ (i = ts.length + 1 ∧ PcsAt H7 ws (pushed t0 ts))))
          ⟨[.str ")"], _, rfl, TSame.refl _, s6, x6, .inl ⟨Nat.zero_le _, .cons rfl .nil⟩⟩ ?_ ?_⟩
        · rintro i σ H7 hi ⟨ws, o, rfl, k7, s7, x7, hw⟩
          have hi' : i < ts.length + 1 := by omega
          rcases hw with ⟨hil, hw⟩ | ⟨z, _⟩
          · have hwl := hw.len
            have hfl : ∀ l : List Tm, (l.flatMap fun u => [Pc.tm u, Pc.sg ","]).length = 2 * l.length := fun l => by
              induction l with
              | nil => rfl
              | cons a r ih => simp only [List.flatMap_cons, List.length_append, List.length_cons, List.length_nil, ih]; omega
            rw [List.length_append, hfl, List.length_take, List.length_reverse] at hwl
            simp only [List.length_cons, List.length_nil] at hwl
            have g1 := k7 _ _ (k6 _ _ e1)
            have g3 := k7 _ _ (k6 _ _ e2)
            have hts : TermsAt H7 pv (t0 :: ts) := (e3.mono k6).mono k7
            have ej : (pv.length : Int) - 1 - (i : Nat) = ((pv.length - 1 - i : Nat) : Int) := by omega
            have hj : pv.length - 1 - i < pv.length := by omega
            have hat : atI pv ((pv.length : Int) - 1 - (i : Nat)) = some pv[pv.length - 1 - i] := by
              rw [ej]; exact atI_nat (List.getElem?_eq_getElem hj)
            have hel := hts.at (pv.length - 1 - i) hj (by simp only [List.length_cons]; omega)
            refine ⟨_, rfl, .inl ⟨rfl, _, SqL.of x7⟩, _, rfl, _, _, _, _, rfl, rfl, SqT.of g1, rfl, _, rfl, _, _, _, _, rfl, rfl, SqT.of g3, hat, p2, _, _, rfl, rfl, x7, big (by rw [List.length_append]; omega), ?_⟩
            refine ⟨_, rfl, _, _, rfl, rfl, _, rfl, ite2 (fun c3 => ?_) (fun c3 => ?_)⟩
            · have c3' : (0 : Int) < (pv.length : Int) - 1 - (i : Nat) := of_decide_eq_true c3
              refine ⟨_, rfl, .inl ⟨rfl, _, SqL.of upd_same⟩, p2, _, _, rfl, rfl, upd_same, big (by rw [List.length_append, List.length_append]; simp only [List.length_cons, List.length_nil]; omega), ?_⟩
              rw [upd_upd]
              have k8 : TSame H7 (upd H7 p2 (HO.lst (us0 ++ ws ++ [pv[pv.length - 1 - i]] ++ [.str ","]))) := .lst x7
              refine ⟨ws ++ [pv[pv.length - 1 - i]] ++ [.str ","], _, rfl, k7.trans k8, fun b' ob z => by rw [upd_ne (ne_of_none z f2)]; exact s7 _ _ z, by rw [upd_same]; simp only [List.append_assoc], .inl ⟨by omega, ?_⟩⟩
              have tlr : i < ts.reverse.length := by rw [List.length_reverse]; omega
              have e : (ts.reverse.take (i + 1)).flatMap (fun u => [Pc.tm u, Pc.sg ","]) = (ts.reverse.take i).flatMap (fun u => [Pc.tm u, Pc.sg ","]) ++ [Pc.tm ts.reverse[i]] ++ [Pc.sg ","] := by
                rw [List.take_succ_eq_append_getElem tlr, List.flatMap_append]
                simp
              rw [e, ← List.append_assoc, ← List.append_assoc]
              have hx' : TermAt H7 pv[pv.length - 1 - i] ts.reverse[i] := by
                rw [List.getElem_reverse]
                have e5 : pv.length - 1 - i = ts.length - 1 - i + 1 := by omega
                simp only [e5, List.getElem_cons_succ] at hel ⊢
                exact hel
              exact PcsAt.app (PcsAt.app (PcsAt.mono k8 hw) (.cons (TermAt.mono k8 hx') .nil)) (.cons rfl .nil)
            · have c3' : ¬ (0 : Int) < (pv.length : Int) - 1 - (i : Nat) := of_decide_eq_false (Bool.eq_false_iff.mpr c3)
              have k8 : TSame H7 (upd H7 p2 (HO.lst (us0 ++ ws ++ [pv[pv.length - 1 - i]]))) := .lst x7
              refine ⟨ws ++ [pv[pv.length - 1 - i]], _, rfl, k7.trans k8, fun b' ob z => by rw [upd_ne (ne_of_none z f2)]; exact s7 _ _ z, by rw [upd_same]; simp only [List.append_assoc], .inr ⟨by omega, ?_⟩⟩
              have e : ts.reverse.take i = ts.reverse := List.take_of_length_le (by rw [List.length_reverse]; omega)
              rw [e] at hw
              have hx' : TermAt H7 pv[pv.length - 1 - i] t0 := by
                have e5 : pv.length - 1 - i = 0 := by omega
                simp only [e5, List.getElem_cons_zero] at hel ⊢
                exact hel
              exact PcsAt.app (PcsAt.mono k8 hw) (.cons (TermAt.mono k8 hx') .nil)
          · omega
        · rintro σ H7 ⟨ws, o, rfl, k7, s7, x7, hw⟩
          rcases hw with ⟨z, _⟩ | ⟨_, hw⟩
          · omega
          have w7 := wts_pushed t0 ts
          refine ⟨wts (l0 ++ pushed t0 ts), ?_, _, _, _, us0 ++ ws, l0 ++ pushed t0 ts, rfl, s7, x7, PcsAt.app ((h4.mono k6).mono k7) hw, ?_, rfl, ?_, ?_⟩
          · rw [wts_append, w7]; omega
          · intro c hc
            rcases List.mem_append.mp hc with hc | hc
            · exact hpo0 c hc
            · exact pushed_g hop hb1 c hc
          · rw [outs_append, outs_pushed, cps_append, cps_append, open_cps]
            have e : (Pc.tm (Tm.thing y (t0 :: ts))).out = y.cps.toList ++ 40 :: (lineL (t0 :: ts) ++ [41]) := by simp only [Pc.out, Tm.line]
            rw [e] at hout
            simpa [List.append_assoc] using hout
          · rw [wts_append, w7]; omega
      | num n =>
        obtain ⟨a, rfl, e1⟩ := termAt_num.mp ht1
        have hnl : x.cps.toList.length + (numS n).length ≤ 21100 := by
          have := congrArg List.length hout
          simp only [Pc.out, Tm.line, List.length_append] at this
          omega
        refine ⟨_, rfl, _, _, _, _, rfl, .tup e1, .ts, _, rfl, iteF ?_⟩
        refine ⟨_, rfl, _, _, _, _, rfl, rfl, SqT.of e1, rfl, rfl, _, rfl, ite_f (by decide +kernel) ?_⟩
        refine ⟨_, rfl, _, _, _, _, rfl, rfl, SqT.of e1, rfl, rfl, _, rfl, ite_t (by decide +kernel) ?_⟩
        refine ⟨_, rfl, _, rfl, _, _, _, _, rfl, rfl, SqT.of e1, rfl, n, rfl, nb_small hpc.2, _, _, rfl, rfl, ?_, ?_⟩
        · rw [len_cps, len_cps]
          have : x.cps.toList.length + (Str.ofString (toString n)).cps.toList.length ≤ 21100 := hnl
          exact small (by omega)
        · exact ⟨wts l0, by rw [hwt] at hm; simp only [Tm.nodes] at hm; omega, _, _, _, us0, l0, rfl, s4, x4, h4, hpo0, rfl, by rw [cps_append]; simpa [Pc.out, Tm.line, numS, List.append_assoc] using hout, by omega⟩
      | name n =>
        obtain ⟨a, rfl, e1⟩ := termAt_name.mp ht1
        have hx2 : x.cps.toList.length + n.cps.toList.length ≤ 21100 := by
          have := congrArg List.length hout
          simp only [Pc.out, Tm.line, List.length_append, List.length_cons] at this
          omega
        refine ⟨_, rfl, _, _, _, _, rfl, .tup e1, .ts, _, rfl, iteF ?_⟩
        refine ⟨_, rfl, _, _, _, _, rfl, rfl, SqT.of e1, rfl, rfl, _, rfl, ite_f (by decide +kernel) ?_⟩
        refine ⟨_, rfl, _, _, _, _, rfl, rfl, SqT.of e1, rfl, rfl, _, rfl, ite_f (by decide +kernel) ?_⟩
        refine ⟨_, rfl, (by show 2 ≤ sizeLine; decide), fun g hg => ?_⟩
        have s9 := same_new hg (HO.lst [.str "", .str "?"])
        have x9 : upd H4 g (HO.lst [.str "", .str "?"]) g = some _ := upd_same
        generalize upd H4 g (HO.lst [.str "", .str "?"]) = H9 at s9 x9 ⊢
        refine ⟨_, rfl, _, _, _, _, rfl, rfl, SqT.of (s9 _ _ e1), rfl, rfl, .inr ⟨_, rfl, g, _, _, .str "", rfl, rfl, SqL.of x9, ?_, _, _, rfl, rfl, ?_, _, rfl, _, _, _, _, rfl, rfl, SqT.of (s9 _ _ e1), rfl, _, _, rfl, rfl, ?_, ?_⟩⟩
        · have e : decide (V.str (Str.ofString "name") = V.str (Str.ofString "blank")) = false := by decide +kernel
          rw [e]; rfl
        · rw [len_cps, len_cps, e0]; exact small (by simp only [List.length_nil]; omega)
        · rw [len_cps, len_cps, cps_append, e0, List.append_nil]; exact small (by omega)
        · exact ⟨wts l0, by rw [hwt] at hm; simp only [Tm.nodes] at hm; omega, _, _, _, us0, l0, rfl, s4.trans s9, s9 _ _ x4, h4.mono (.of s9), hpo0, rfl, by rw [cps_append, cps_append, e0]; simpa [Pc.out, Tm.line, List.append_assoc] using hout, by omega⟩
      | blank n =>
        obtain ⟨a, rfl, e1⟩ := termAt_blank.mp ht1
        have hx2 : x.cps.toList.length + n.cps.toList.length ≤ 21100 := by
          have := congrArg List.length hout
          simp only [Pc.out, Tm.line, List.length_append, List.length_cons] at this
          omega
        refine ⟨_, rfl, _, _, _, _, rfl, .tup e1, .ts, _, rfl, iteF ?_⟩
        refine ⟨_, rfl, _, _, _, _, rfl, rfl, SqT.of e1, rfl, rfl, _, rfl, ite_f (by decide +kernel) ?_⟩
        refine ⟨_, rfl, _, _, _, _, rfl, rfl, SqT.of e1, rfl, rfl, _, rfl, ite_f (by decide +kernel) ?_⟩
        refine ⟨_, rfl, (by show 2 ≤ sizeLine; decide), fun g hg => ?_⟩
        have s9 := same_new hg (HO.lst [.str "", .str "?"])
        have x9 : upd H4 g (HO.lst [.str "", .str "?"]) g = some _ := upd_same
        generalize upd H4 g (HO.lst [.str "", .str "?"]) = H9 at s9 x9 ⊢
        refine ⟨_, rfl, _, _, _, _, rfl, rfl, SqT.of (s9 _ _ e1), rfl, rfl, .inr ⟨_, rfl, g, _, _, .str "?", rfl, rfl, SqL.of x9, ?_, _, _, rfl, rfl, ?_, _, rfl, _, _, _, _, rfl, rfl, SqT.of (s9 _ _ e1), rfl, _, _, rfl, rfl, ?_, ?_⟩⟩
        · have e : decide (V.str (Str.ofString "blank") = V.str (Str.ofString "blank")) = true := by decide +kernel
          rw [e]; rfl
        · rw [len_cps, len_cps, quest_cps]; exact small (by simp only [List.length_cons, List.length_nil]; omega)
        · rw [len_cps, len_cps, cps_append, quest_cps, List.length_append]; exact small (by simp only [List.length_cons, List.length_nil]; omega)
        · exact ⟨wts l0, by rw [hwt] at hm; simp only [Tm.nodes] at hm; omega, _, _, _, us0, l0, rfl, s4.trans s9, s9 _ _ x4, h4.mono (.of s9), hpo0, rfl, by rw [cps_append, cps_append, quest_cps]; simpa [Pc.out, Tm.line, List.append_assoc] using hout, by omega⟩
  · have hnil : us = [] := by
      cases us with
      | nil => rfl
      | cons a r => exact absurd rfl c
    subst hnil
    have hl0 : l = [] := List.length_eq_zero_iff.mp hus.len.symm
    subst hl0
    refine ⟨_, rfl, ?_⟩
    exact q _ _ s3 (by simpa [outs] using hout)
end
/-! ### writing -/
section
variable {P : Program} {w : World} {K : PySem.W.Frag} {mg : Str → Option Value} {base : Heap}
/-- a term that is no thing, written -/
def spShownLeaf : Sp := fun vs H Q _ => ∃ (v : V) (t : Tm), vs = [v] ∧ TermAt H v t ∧ t.Nb ∧ t.line.length ≤ 21100 ∧ (∀ x ps, t ≠ .thing x ps) ∧ ∀ x : Str, x.cps.toList = t.line → Q (.str x) H
theorem ok_shown_leaf {f : Addr} {fd : FuncData} (F : Fun K "shown_leaf" "shown_leaf" s_shown_leaf f fd) (T : Bi mg) : FnOk P w K mg base CX0 1 f fd ["term"] spShownLeaf := by
  refine F.ok sc_shown_leaf (fun vs H Q E h => ?_) (fun cdv A outer s H vs Q E hr h => ?_)
  · obtain ⟨v, t, rfl, _⟩ := h
    rfl
  obtain ⟨v, t, rfl, ht, hok, hll, hno, q⟩ := h
  apply let_ts; intro T1
  refine ⟨_, (pss_cons (ps_if (pt_cmpR op_eq (pe_ix ix_tup (pv 0) pe_int (fun _ _ => rfl)) pe_str (nomark _)) (pss_one (ps_ret (pe_bty call_str_int T.b_str bt_str (pa_cons (pe_ix ix_tup (pv 0) pe_int (fun _ _ => rfl)) pa_nil)))) pss_nil) (pss_as T1 (pss_cons (ps_if (pt_cmpR op_eq (pe_ix ix_tup (pv 0) pe_int (fun _ _ => rfl)) pe_str (nomark _)) (pss_one (ps_ret (pe_op op_add_str pe_str (pe_ix ix_tup (pv 0) pe_int (fun _ _ => rfl))))) pss_nil) (pss_one (ps_ret (pe_ix ix_tup (pv 0) pe_int (fun _ _ => rfl))))))), ?_⟩
  cases t with
  | thing x ps => exact absurd rfl (hno x ps)
  | num n =>
    obtain ⟨a, rfl, h1⟩ := termAt_num.mp ht
    refine ⟨_, rfl, _, _, _, _, rfl, rfl, SqT.of h1, rfl, rfl, _, rfl, ite_t (by decide +kernel) ?_⟩
    refine ⟨_, rfl, _, _, _, _, rfl, rfl, SqT.of h1, rfl, n, rfl, nb_small hok, ?_⟩
    exact q _ rfl
  | name x =>
    obtain ⟨a, rfl, h1⟩ := termAt_name.mp ht
    refine ⟨_, rfl, _, _, _, _, rfl, rfl, SqT.of h1, rfl, rfl, _, rfl, ite_f (by decide +kernel) ?_⟩
    refine ⟨_, rfl, _, _, _, _, rfl, rfl, SqT.of h1, rfl, rfl, _, rfl, ite_f (by decide +kernel) ?_⟩
    refine ⟨_, rfl, _, _, _, _, rfl, rfl, SqT.of h1, rfl, ?_⟩
    exact q _ rfl
  | blank x =>
    obtain ⟨a, rfl, h1⟩ := termAt_blank.mp ht
    refine ⟨_, rfl, _, _, _, _, rfl, rfl, SqT.of h1, rfl, rfl, _, rfl, ite_f (by decide +kernel) ?_⟩
    refine ⟨_, rfl, _, _, _, _, rfl, rfl, SqT.of h1, rfl, rfl, _, rfl, ite_t (by decide +kernel) ?_⟩
    refine ⟨_, rfl, _, _, _, _, rfl, rfl, SqT.of h1, rfl, _, _, rfl, rfl, ?_, ?_⟩
    · rw [len_cps, len_cps, quest_cps]
      simp only [Tm.line, List.length_cons] at hll
      exact small (by simp only [List.length_cons, List.length_nil]; omega)
    · exact q _ (by rw [cps_append, quest_cps]; simp only [Tm.line, List.cons_append, List.nil_append])
/-- the parts pushed on the pile at p -/
def spPush (K : PySem.W.Frag) : Sp := fun vs H Q _ => ∃ (p b : Addr) (us pv : List V) (t : Tm) (ts : List Tm), vs = [.ref p, .ref b] ∧ H p = some (.lst us) ∧ H b = some (.tup pv) ∧ TermsAt H pv (t :: ts) ∧ us.length + 2 * pv.length ≤ 150000 ∧
  ∀ (ws : List V) (H' : Hp), (∀ c o, H c = some o → c ≠ p → H' c = some o) → H' p = some (.lst (us ++ ws)) → PcsAt H' ws (pushed t ts) → Q .non H'
theorem ok_push_parts {f : Addr} {fd : FuncData} (F : Fun K "push_parts" "push_parts" s_push_parts f fd) (T : Bi mg) : FnOk P w K mg base CX0 1 f fd ["coming", "parts"] (spPush K) := by
  refine F.ok sc_push_parts (fun vs H Q E h => ?_) (fun cdv A outer s H vs Q E hr h => ?_)
  · obtain ⟨p, b, us, pv, t, ts, rfl, _⟩ := h
    rfl
  obtain ⟨p, b, us, pv, t, ts, rfl, hp, hb, ht, hlen, q⟩ := h
  have hpl := ht.len
  obtain ⟨v0, rv, rfl⟩ : ∃ v0 rv, pv = v0 :: rv := by
    cases pv with
    | nil => simp at hpl
    | cons a r => exact ⟨a, r, rfl⟩
  simp only [List.length_cons] at hpl hlen
  have npb : b ≠ p := ne_of hb hp (by intro z; cases z)
  have htt : TermAt H v0 t ∧ TermsAt H rv ts := by
    have h := ht
    simp only [TermsAt, dtL, DatsAt] at h
    obtain ⟨v, us', e, h1, h2⟩ := h
    cases e
    exact ⟨h1, h2⟩
  apply let_ts; intro T1
  apply let_ts; intro T2
  apply let_ts; intro T3
  apply let_ts; intro T4
  refine ⟨_, (pss_cons (ps_expr (pe_bm PySem.F.plainAttrs_list PySem.F.slot_list_append PySem.F.type_list_append mt_append (pv 0) (pa_cons pe_str pa_nil))) (pss_as T4 (pss_cons (ps_for PassesOwn.never rfl (pi_revT rfl T.b_reversed (pa_cons (pe_slice sl_tup (pv 1) (po_some pe_int) po_none) pa_nil)) (pg_name (i := 2) sc_push_parts.nd rfl (Or.inl rfl)) (pss_as T2 (pss_cons (ps_expr (pe_bm PySem.F.plainAttrs_list PySem.F.slot_list_append PySem.F.type_list_append mt_append (pv 0) (pa_cons (pv 2) pa_nil))) (pss_as T1 (pss_one (ps_expr (pe_bm PySem.F.plainAttrs_list PySem.F.slot_list_append PySem.F.type_list_append mt_append (pv 0) (pa_cons pe_str pa_nil)))))))) (pss_as T3 (pss_one (ps_expr (pe_bm PySem.F.plainAttrs_list PySem.F.slot_list_append PySem.F.type_list_append mt_append (pv 0) (pa_cons (pe_ix ix_tup (pv 1) pe_int (fun _ _ => rfl)) pa_nil)))))))), ?_⟩
  refine ⟨_, rfl, .inl ⟨rfl, _, SqL.of hp⟩, p, us, _, rfl, rfl, hp, big (by omega), ?_⟩
  have k1 : TSame H (upd H p (HO.lst (us ++ [.str ")"]))) := .lst hp
  have x1 : upd H p (HO.lst (us ++ [.str ")"])) p = some _ := upd_same
  have y1 : ∀ c o, H c = some o → c ≠ p → upd H p (HO.lst (us ++ [.str ")"])) c = some o := fun c o e n => by rw [upd_ne n]; exact e
  have z1 : ∀ c, c ≠ p → upd H p (HO.lst (us ++ [.str ")"])) c = H c := fun c n => upd_ne n
  generalize upd H p (HO.lst (us ++ [.str ")"])) = H1 at k1 x1 y1 z1 ⊢
  refine ⟨_, rfl, _, rfl, b, _, rfl, SqT.of (y1 _ _ hb npb), ?_, fun sl hsl => ?_⟩
  · rintro ⟨z, _⟩
    have es : HT.sIx (v0 :: rv).length 0 (some 1) = min 1 (v0 :: rv).length := HT.sIx_nat _ _ 1
    rw [es] at z
    simp only [List.length_cons] at z
    omega
  have ecut : cutV (v0 :: rv) (some 1) none = rv := by
    rw [cut_from _ _ (by decide) (by simp only [List.length_cons]; omega)]
    rfl
  rw [ecut]
  have s2 := same_new hsl (HO.tup rv)
  have x2 : upd H1 sl (HO.tup rv) sl = some _ := upd_same
  generalize upd H1 sl (HO.tup rv) = H2 at s2 x2 ⊢
  refine ⟨sl, rv, rfl, SqT.of x2, let I1 : Nat → L2.St → Hp → Prop := (fun i σ H3 => ∃ (ws : List V) (o : Option V), σ = [some (.ref p), some (.ref b), o] ∧ (∀ c o, H2 c = some o → c ≠ p → H3 c = some o) ∧ H3 p = some (.lst (us ++ ws)) ∧
      PcsAt H3 ws ([Pc.sg ")"] ++ (ts.reverse.take i).flatMap fun u => [Pc.tm u, Pc.sg ","])); for_rev (K := K) (a := sl) (xs := rv) I1
    ⟨[.str ")"], none, rfl, fun c o e _ => e, s2 _ _ x1, .cons rfl .nil⟩ (fun i σ H3 _ ⟨_, _, _, kp, _, _⟩ => SqT.of (kp _ _ x2 (ne_of x2 (s2 _ _ x1) (by intro z; cases z)))) ?_ ?_⟩
  · rintro i x σ H3 hi ⟨ws, o, rfl, kp, hp3, hw⟩
    have hit : i < rv.reverse.length := (List.getElem?_eq_some_iff.mp hi).1
    rw [List.length_reverse] at hit
    have hwl := hw.len
    have hfl : ∀ l : List Tm, (l.flatMap fun u => [Pc.tm u, Pc.sg ","]).length = 2 * l.length := fun l => by
      induction l with
      | nil => rfl
      | cons a r ih => simp only [List.flatMap_cons, List.length_append, List.length_cons, List.length_nil, ih]; omega
    rw [List.length_append, hfl, List.length_take, List.length_reverse] at hwl
    simp only [List.length_cons, List.length_nil] at hwl
    have k3 : TSame H H3 := fun c xs e => kp _ _ (s2 _ _ (k1 _ _ e)) (ne_of e hp (by intro z; cases z))
    have tl : ts.length = rv.length := by omega
    have tlr : i < ts.reverse.length := by rw [List.length_reverse]; omega
    have hx : TermAt H3 x ts.reverse[i] := by
      rw [List.getElem?_reverse hit] at hi
      have h1 : rv.length - 1 - i < rv.length := by omega
      rw [List.getElem?_eq_getElem h1] at hi
      cases hi
      rw [List.getElem_reverse]
      have := htt.2.at (rv.length - 1 - i) h1 (by omega)
      have e : ts.length - 1 - i = rv.length - 1 - i := by omega
      simp only [e]
      exact this.mono k3
    refine ⟨_, rfl, .inl ⟨rfl, _, SqL.of hp3⟩, _, rfl, p, _, _, rfl, rfl, hp3, big (by rw [List.length_append]; omega), ?_⟩
    refine ⟨_, rfl, .inl ⟨rfl, _, SqL.of upd_same⟩, p, _, _, rfl, rfl, upd_same, big (by rw [List.length_append, List.length_append]; simp only [List.length_cons, List.length_nil]; omega), ?_⟩
    rw [upd_upd]
    have k4 : TSame H3 (upd H3 p (HO.lst (us ++ ws ++ [x] ++ [.str ","]))) := .lst hp3
    refine ⟨ws ++ [x] ++ [.str ","], _, rfl, fun c o e n => by rw [upd_ne n]; exact kp c o e n, by rw [upd_same]; simp only [List.append_assoc], ?_⟩
    have e : (ts.reverse.take (i + 1)).flatMap (fun u => [Pc.tm u, Pc.sg ","]) = (ts.reverse.take i).flatMap (fun u => [Pc.tm u, Pc.sg ","]) ++ [Pc.tm ts.reverse[i]] ++ [Pc.sg ","] := by
      rw [List.take_succ_eq_append_getElem (by rw [List.length_reverse]; omega), List.flatMap_append]
      simp
    rw [e, ← List.append_assoc, ← List.append_assoc]
    exact PcsAt.app (PcsAt.app (PcsAt.mono k4 hw) (.cons (TermAt.mono k4 hx) .nil)) (.cons rfl .nil)
  · rintro σ H3 ⟨ws, o, rfl, kp, hp3, hw⟩
    have hwl := hw.len
    have hfl : ∀ l : List Tm, (l.flatMap fun u => [Pc.tm u, Pc.sg ","]).length = 2 * l.length := fun l => by
      induction l with
      | nil => rfl
      | cons a r ih => simp only [List.flatMap_cons, List.length_append, List.length_cons, List.length_nil, ih]; omega
    rw [List.length_append, hfl, List.length_take, List.length_reverse] at hwl
    simp only [List.length_cons, List.length_nil] at hwl
    have k3 : TSame H H3 := fun c xs e => kp _ _ (s2 _ _ (k1 _ _ e)) (ne_of e hp (by intro z; cases z))
    have hb3 : H3 b = some (.tup (v0 :: rv)) := k3 _ _ hb
    refine ⟨_, rfl, .inl ⟨rfl, _, SqL.of hp3⟩, _, rfl, _, _, _, _, rfl, rfl, SqT.of hb3, atI_nat (j := 0) rfl, p, _, _, rfl, rfl, hp3, big (by rw [List.length_append]; omega), ?_⟩
    have k4 : TSame H3 (upd H3 p (HO.lst (us ++ ws ++ [v0]))) := .lst hp3
    refine q (ws ++ [v0]) _ (fun c o e n => by rw [upd_ne n]; exact kp c o (s2 _ _ (y1 c o e n)) n) (by rw [upd_same, List.append_assoc]) ?_
    have e : ts.reverse.take rv.length = ts.reverse := List.take_of_length_le (by rw [List.length_reverse]; omega)
    rw [e] at hw
    exact PcsAt.app (PcsAt.mono k4 hw) (.cons (TermAt.mono k4 (htt.1.mono k3)) .nil)
end
section
variable {P : Program} {w : World} {K : PySem.W.Frag} {mg : Str → Option Value} {base : Heap}
theorem ok_shown {f : Addr} {fd : FuncData} (F : Fun K "shown" "shown" s_shown f fd) (T : Bi mg) (c_shown_leaf : Cal P w K mg base 1 "shown_leaf" ["term"] spShownLeaf) (c_push_parts : Cal P w K mg base 1 "push_parts" ["coming", "parts"] (spPush K)) :
    FnOk P w K mg base CX0 2 f fd ["term"] spShownG := by
  refine F.ok sc_shown (fun vs H Q E h => ?_) (fun cdv A outer s H vs Q E hr h => ?_)
  · obtain ⟨v, t, rfl, _⟩ := h
    rfl
  obtain ⟨v, t, rfl, ht, hgd, hnb, hll, q⟩ := h
  have hn := nodes_line t hgd
  apply let_ts; intro T1
  apply let_ts; intro T2
  apply let_ts; intro T3
  apply let_ts; intro T4
  apply let_ts; intro T5
  apply let_ts; intro T6
  apply let_ts; intro T7
  apply let_ts; intro T8
  apply let_ts; intro T9
  apply let_ts; intro T10
  refine ⟨_, (pss_cons (ps_set (i := 1) sc_shown.nd rfl (Or.inl rfl) (pe_lst pa_nil)) (pss_as T10 (pss_cons (ps_set (i := 2) sc_shown.nd rfl (Or.inl rfl) (pe_lst (pa_cons (pv 0) pa_nil))) (pss_as T9 (pss_cons (ps_while PassesOwn.never (pt_truth (pv 2) (fun _ => rfl)) (pss_as T7 (pss_cons (ps_set (i := 3) sc_shown.nd rfl (Or.inl rfl) (pe_bm0 PySem.F.plainAttrs_list PySem.F.slot_list_pop PySem.F.type_list_pop mt_pop (pv 2))) (pss_as T6 (pss_one (ps_if (pt_val (pe_blt call_isi T.b_isinstance bt_isinstance (pa_cons (pv 3) (pa_cons (pe_tyn T.b_str bt_str) pa_nil)))) (pss_as T4 (pss_one (ps_expr (pe_bm PySem.F.plainAttrs_list PySem.F.slot_list_append PySem.F.type_list_append mt_append (pv 1) (pa_cons (pv 3) pa_nil))))) (pss_as T5 (pss_one (ps_if (pt_cmpR op_eq (pe_ix ix_tup (pv 3) pe_int (fun _ _ => rfl)) pe_str (nomark _)) (pss_as T2 (pss_cons (ps_expr (pe_bm PySem.F.plainAttrs_list PySem.F.slot_list_append PySem.F.type_list_append mt_append (pv 1) (pa_cons (pe_op op_add_str (pe_ix ix_tup (pv 3) pe_int (fun _ _ => rfl)) pe_str) pa_nil))) (pss_as T1 (pss_one (ps_expr (pe_cal c_push_parts (hr.mono (by decide)) (pa_cons (pv 2) (pa_cons (pe_ix ix_tup (pv 3) pe_int (fun _ _ => rfl)) pa_nil)))))))) (pss_as T3 (pss_one (ps_expr (pe_bm PySem.F.plainAttrs_list PySem.F.slot_list_append PySem.F.type_list_append mt_append (pv 1) (pa_cons (pe_cal c_shown_leaf (hr.mono (by decide)) (pa_cons (pv 3) pa_nil)) pa_nil)))))))))))))) (pss_as T8 (pss_one (ps_ret (pe_bm PySem.F.plainAttrs_str PySem.F.slot_str_join PySem.F.type_str_join mt_join pe_str (pa_cons (pv 1) pa_nil)))))))))), ?_⟩
  refine ⟨(by show 0 ≤ sizeLine; decide), fun p1 hp1 => ?_⟩
  have s1 := same_new hp1 (HO.lst [])
  have x1 : upd H p1 (HO.lst []) p1 = some _ := upd_same
  generalize upd H p1 (HO.lst []) = H1 at s1 x1 ⊢
  refine ⟨_, rfl, (by show 1 ≤ sizeLine; decide), fun p2 hp2 => ?_⟩
  have s2 := same_new hp2 (HO.lst [v])
  have x2 : upd H1 p2 (HO.lst [v]) p2 = some _ := upd_same
  have n12 : p1 ≠ p2 := ne_of_none x1 hp2
  have f2 : H p2 = none := s1.free hp2
  have k2 : TSame H1 (upd H1 p2 (HO.lst [v])) := .new hp2
  generalize upd H1 p2 (HO.lst [v]) = H2 at s2 x2 k2 ⊢
  refine ⟨fun m σ H3 => ∃ (o : Option V) (xs : List Str) (us : List V) (l : List Pc), σ = [some v, some (.ref p1), some (.ref p2), o] ∧ Same H H3 ∧ H3 p1 = some (.lst (xs.map V.str)) ∧ H3 p2 = some (.lst us) ∧ PcsAt H3 us l ∧ (∀ c ∈ l, PcG c) ∧
      wts l = m ∧ flat xs ++ outs l = t.line ∧ xs.length + m ≤ 3 * t.nodes,
    ⟨_, none, [], [v], [Pc.tm t], rfl, s1.trans s2, s2 _ _ x1, x2, .cons (ht.mono (.of (s1.trans s2))) .nil, by simpa [PcG] using ⟨hgd, hnb⟩, rfl, by simp [flat, outs, Pc.out], by simp [wts, Pc.wt]⟩, ?_⟩
  rintro m σ H3 ⟨o, xs, us, l, rfl, s3, g1, g2, hus, hpo, hm, hout, hsz⟩
  refine ⟨_, rfl, _, .inl ⟨us, SqL.of g2, rfl⟩, ite2 (fun c => ⟨_, fun _ _ h => h, ?_⟩) (fun c => ?_)⟩
  · -- a turn
    have hne : us ≠ [] := by intro z; rw [z] at c; exact absurd c (by decide)
    have hlen := hus.len
    obtain ⟨us0, u, rfl⟩ := snoc_of hne
    obtain ⟨l0, pc, rfl⟩ := snoc_of (l := l) (by intro z; rw [z] at hlen; simp at hlen)
    obtain ⟨h0, hu⟩ := hus.snoc
    have hpo0 : ∀ c ∈ l0, PcG c := fun c hc => hpo c (by simp [hc])
    have hpc : PcG pc := hpo pc (by simp)
    rw [wts_snoc] at hm
    rw [outs_snoc] at hout
    have hl0 := len_le_wts l0
    have hu0 := h0.len
    refine ⟨_, rfl, .inl ⟨rfl, _, SqL.of g2⟩, p2, _, u, rfl, rfl, g2, by simp, ?_⟩
    rw [List.dropLast_concat]
    have k4 : TSame H3 (upd H3 p2 (HO.lst us0)) := .lst g2
    have x4 : upd H3 p2 (HO.lst us0) p2 = some _ := upd_same
    have y4 : upd H3 p2 (HO.lst us0) p1 = some (.lst (xs.map V.str)) := by rw [upd_ne n12]; exact g1
    have s4 : Same H (upd H3 p2 (HO.lst us0)) := fun b ob z => by rw [upd_ne (ne_of_none z f2)]; exact s3 _ _ z
    generalize upd H3 p2 (HO.lst us0) = H4 at k4 x4 y4 s4 ⊢
    have h4 := h0.mono k4
    have hxl : (xs.map V.str).length = xs.length := List.length_map _
    -- one more text
    have put : ∀ (D : Ends) (z : Str) (l' : List Pc) (us' : List V) (H5 : Hp), Same H H5 → H5 p1 = some (.lst (xs.map V.str)) → H5 p2 = some (.lst us') → PcsAt H5 us' l' → (∀ c ∈ l', PcG c) → wts l' < m → flat xs ++ z.cps.toList ++ outs l' = t.line →
        D.nx = (fun σ' H' => ∃ m', m' < m ∧ ∃ (o : Option V) (xs : List Str) (us : List V) (l : List Pc), σ' = [some v, some (.ref p1), some (.ref p2), o] ∧ Same H H' ∧ H' p1 = some (.lst (xs.map V.str)) ∧ H' p2 = some (.lst us) ∧ PcsAt H' us l ∧ (∀ c ∈ l, PcG c) ∧
          wts l = m' ∧ flat xs ++ outs l = t.line ∧ xs.length + m' ≤ 3 * t.nodes) →
        rAppend (.ref p1) [.str z] H5 (fun _ H1 => D.nx [some v, some (.ref p1), some (.ref p2), some u] H1) := fun D z l' us' H5 s5 e1 e2 hp' ho' hw' hf' hD => by
      refine ⟨p1, _, _, rfl, rfl, e1, big (by rw [hxl]; omega), ?_⟩
      rw [hD]
      have k6 : TSame H5 (upd H5 p1 (HO.lst (xs.map V.str ++ [.str z]))) := .lst e1
      refine ⟨wts l', hw', some u, xs ++ [z], us', l', rfl, fun b ob q' => by rw [upd_ne (ne_of_none q' hp1)]; exact s5 _ _ q', by rw [upd_same, List.map_append]; rfl, by rw [upd_ne n12.symm]; exact e2, hp'.mono k6, ho', rfl, ?_, ?_⟩
      · rw [flat_snoc]; exact hf'
      · rw [List.length_append]; simp only [List.length_cons, List.length_nil]; omega
    cases pc with
    | sg x =>
      cases (show u = V.str x from hu)
      refine ⟨_, rfl, _, _, _, _, rfl, .str _, .ss, _, rfl, iteT ?_⟩
      refine ⟨_, rfl, .inl ⟨rfl, _, SqL.of y4⟩, _, rfl, ?_⟩
      exact put _ x l0 us0 H4 s4 y4 x4 h4 hpo0 (by simp only [Pc.wt] at hm; omega) (by simpa [Pc.out, List.append_assoc] using hout) rfl
    | tm t1 =>
      have ht1 : TermAt H4 u t1 := TermAt.mono k4 hu
      have n1 := t1.nodes_pos
      have hwt : (Pc.tm t1).wt = 3 * t1.nodes - 1 := rfl
      have hl1 : t1.line.length ≤ 21100 := by
        have := congrArg List.length hout
        simp only [Pc.out, List.length_append] at this
        omega
      have leafc : ∀ a vs, u = .ref a → H4 a = some (.tup vs) → (∀ x ps, t1 ≠ .thing x ps) → vs[0]? ≠ none → True := fun _ _ _ _ _ _ => trivial
      cases t1 with
      | thing x ps =>
        obtain ⟨a, b, pv, rfl, e1, e2, e3⟩ := termAt_thing.mp ht1
        obtain ⟨hg1, hb1⟩ := hpc
        simp only [Tm.Gd] at hg1
        simp only [Tm.Nb] at hb1
        obtain ⟨hx, hps, hop⟩ := hg1
        have hx2 : x.cps.toList.length + 1 ≤ 21100 := by
          have := congrArg List.length hout
          simp only [Pc.out, Tm.line, List.length_append, List.length_cons] at this
          omega
        have hpl := e3.len
        have hpn := len_le_nodes ps
        simp only [Tm.nodes] at hwt
        rw [hwt] at hm
        obtain ⟨t0, ts, rfl⟩ : ∃ t0 ts, ps = t0 :: ts := by
          cases ps with
          | nil => exact absurd rfl hps
          | cons t0 ts => exact ⟨t0, ts, rfl⟩
        refine ⟨_, rfl, _, _, _, _, rfl, .tup e1, .ts, _, rfl, iteF ?_⟩
        refine ⟨_, rfl, _, _, _, _, rfl, rfl, SqT.of e1, rfl, rfl, _, rfl, ite_t (by decide +kernel) ?_⟩
        have hxb : x.length + (Str.ofString "(").length ≤ sizeLine := by
          rw [len_cps, len_cps, open_cps]; exact small (by simp only [List.length_cons, List.length_nil]; omega)
        refine ⟨_, rfl, .inl ⟨rfl, _, SqL.of y4⟩, _, rfl, _, _, _, _, rfl, rfl, SqT.of e1, rfl, _, _, rfl, rfl, hxb, p1, _, _, rfl, rfl, y4, big (by rw [hxl]; omega), ?_⟩
        have k6 : TSame H4 (upd H4 p1 (HO.lst (xs.map V.str ++ [.str (x ++ "(")]))) := .lst y4
        have x6 : upd H4 p1 (HO.lst (xs.map V.str ++ [.str (x ++ "(")])) p1 = some _ := upd_same
        have y6 : upd H4 p1 (HO.lst (xs.map V.str ++ [.str (x ++ "(")])) p2 = some (.lst us0) := by rw [upd_ne n12.symm]; exact x4
        have s6 : Same H (upd H4 p1 (HO.lst (xs.map V.str ++ [.str (x ++ "(")]))) := fun b ob z => by rw [upd_ne (ne_of_none z hp1)]; exact s4 _ _ z
        generalize upd H4 p1 (HO.lst (xs.map V.str ++ [.str (x ++ "(")])) = H6 at k6 x6 y6 s6 ⊢
        refine ⟨_, rfl, _, rfl, _, _, _, _, rfl, rfl, SqT.of (k6 _ _ e1), rfl, p2, b, us0, pv, t0, ts, rfl, y6, k6 _ _ e2, e3.mono k6, by omega, fun ws H7 kp x7 hw => ?_⟩
        have k7 : TSame H6 H7 := fun c zs e => kp _ _ e (ne_of e y6 (by intro z; cases z))
        have w7 := wts_pushed t0 ts
        refine ⟨wts (l0 ++ pushed t0 ts), ?_, _, xs ++ [x ++ "("], us0 ++ ws, l0 ++ pushed t0 ts, rfl, fun c ob z => kp _ _ (s6 _ _ z) (ne_of_none z f2), ?_, x7, PcsAt.app ((h4.mono k6).mono k7) hw, ?_, rfl, ?_, ?_⟩
        · rw [wts_append, w7]; omega
        · rw [List.map_append]; exact kp _ _ x6 n12
        · intro c hc
          rcases List.mem_append.mp hc with hc | hc
          · exact hpo0 c hc
          · exact pushed_g hop hb1 c hc
        · rw [flat_snoc, outs_append, outs_pushed, cps_append, open_cps]
          have e : (Pc.tm (Tm.thing x (t0 :: ts))).out = x.cps.toList ++ 40 :: (lineL (t0 :: ts) ++ [41]) := by simp only [Pc.out, Tm.line]
          rw [e] at hout
          simpa [List.append_assoc] using hout
        · rw [List.length_append, wts_append, w7]; simp only [List.length_cons, List.length_nil]; omega
      | num n =>
        obtain ⟨a, rfl, e1⟩ := termAt_num.mp ht1
        refine ⟨_, rfl, _, _, _, _, rfl, .tup e1, .ts, _, rfl, iteF ?_⟩
        refine ⟨_, rfl, _, _, _, _, rfl, rfl, SqT.of e1, rfl, rfl, _, rfl, ite_f (by decide +kernel) ?_⟩
        refine ⟨_, rfl, .inl ⟨rfl, _, SqL.of y4⟩, _, rfl, _, _, rfl, ht1, hpc.2, hl1, (fun _ _ z => nomatch z), fun z hz => ?_⟩
        exact put _ z l0 us0 H4 s4 y4 x4 h4 hpo0 (by rw [hwt] at hm; simp only [Tm.nodes] at hm; omega) (by rw [hz]; simpa [Pc.out, List.append_assoc] using hout) rfl
      | name n =>
        obtain ⟨a, rfl, e1⟩ := termAt_name.mp ht1
        refine ⟨_, rfl, _, _, _, _, rfl, .tup e1, .ts, _, rfl, iteF ?_⟩
        refine ⟨_, rfl, _, _, _, _, rfl, rfl, SqT.of e1, rfl, rfl, _, rfl, ite_f (by decide +kernel) ?_⟩
        refine ⟨_, rfl, .inl ⟨rfl, _, SqL.of y4⟩, _, rfl, _, _, rfl, ht1, hpc.2, hl1, (fun _ _ z => nomatch z), fun z hz => ?_⟩
        exact put _ z l0 us0 H4 s4 y4 x4 h4 hpo0 (by rw [hwt] at hm; simp only [Tm.nodes] at hm; omega) (by rw [hz]; simpa [Pc.out, List.append_assoc] using hout) rfl
      | blank n =>
        obtain ⟨a, rfl, e1⟩ := termAt_blank.mp ht1
        refine ⟨_, rfl, _, _, _, _, rfl, .tup e1, .ts, _, rfl, iteF ?_⟩
        refine ⟨_, rfl, _, _, _, _, rfl, rfl, SqT.of e1, rfl, rfl, _, rfl, ite_f (by decide +kernel) ?_⟩
        refine ⟨_, rfl, .inl ⟨rfl, _, SqL.of y4⟩, _, rfl, _, _, rfl, ht1, hpc.2, hl1, (fun _ _ z => nomatch z), fun z hz => ?_⟩
        exact put _ z l0 us0 H4 s4 y4 x4 h4 hpo0 (by rw [hwt] at hm; simp only [Tm.nodes] at hm; omega) (by rw [hz]; simpa [Pc.out, List.append_assoc] using hout) rfl
  · have hnil : us = [] := by
      cases us with
      | nil => rfl
      | cons a r => exact absurd rfl c
    subst hnil
    have hl0 : l = [] := by
      have := hus.len
      exact List.length_eq_zero_iff.mp this.symm
    subst hl0
    have hfl : flat xs = t.line := by simpa [outs] using hout
    refine ⟨rfl, _, rfl, p1, xs, rfl, rfl, g1, ?_, ?_⟩
    · rw [← flat_len, hfl]; omega
    · exact q _ _ s3 (by rw [join_flat, hfl])
end
end K02
set_option Elab.async false
set_option linter.all false
set_option maxRecDepth 100000
namespace BF
open PySem PySem.Spec PyProof.Rows L2
/-! ### written-out displays, their readings kept closed -/
structure BE (X : Cx) (e : Expr) (t : TE) : Prop where
  out : PE X e t
structure BA (X : Cx) (es : List Expr) (t : TA) : Prop where
  out : PA X es t
structure BS (X : Cx) (st : List Stmt) (t : TS) : Prop where
  out : PSs X st t
section
variable {X : Cx} {e e1 e2 : Expr} {es : List Expr} {t : TA} {te te1 te2 : TE} {pos : Pos}
theorem be_str {x j pos} : BE X (.Constant (.str x) j pos) (tC (.str x)) := ⟨pe_str⟩
theorem ba_nil : BA X [] tNil := ⟨pa_nil⟩
theorem ba_cons (ha : BE X e te) (hr : BA X es t) (hs : starEach (e :: es) X.env = (false, eval e X.env) :: starEach es X.env := by rfl) : BA X (e :: es) (tCons te t) := ⟨pa_cons ha.out hr.out hs⟩
theorem be_lst (h : BA X es t) : BE X (.List es pos) (tLst t) := ⟨pe_lst h.out⟩
end
end BF
set_option Elab.async false
set_option linter.all false
set_option maxRecDepth 100000
namespace BF
open PySem PySem.Spec PyProof.Rows L2
/-! ### a display of texts -/
structure BP (X : Cx) (st : Stmt) (t : TS) : Prop where
  out : PS X st t
theorem bp_set {X : Cx} {e1 : Expr} {te1 : TE} {i : Nat} {x : Str} {p1 q1 : Pos} (hN : X.N.Nodup) (hi : X.N[i]? = some x) (hx : Loc X.env.scope x) (h1 : BE X e1 te1) (hs1 : swapsWith e1 (some (.Name x p1)) q1.line X.env = pure false := by rfl)
    (hf1 : X.fn x = true ∨ X.env.scope.names.lookup x = some .local := by first | exact .inl rfl | exact .inr rfl | assumption) : BP X (.Assign [.Name x p1] e1 q1) (tAsg te1 (gName i)) := ⟨ps_set hN hi hx h1.out hs1 hf1⟩
theorem bss_cons {X : Cx} {st : Stmt} {sts : List Stmt} {t u : TS} (h : BP X st t) (hr : BS X sts u) : BS X (st :: sts) (tSeq t u) := ⟨pss_cons h.out hr.out⟩
theorem body_of {X : Cx} {b : List Stmt} {t : TS} {D : Ends} {σ : L2.St} {H : Hp} (h : BS X b t) (q : t D σ H) : ∃ t, PSs X b t ∧ t D σ H := ⟨t, h.out, q⟩
end BF
set_option Elab.async false
set_option linter.all false
set_option maxRecDepth 100000
set_option maxHeartbeats 4000000
namespace K02
open PySem L2 BF
section
variable {P : Program} {w : World} {K : PySem.W.Frag} {mg : Str → Option Value} {base : Heap}
def spAt (K : PySem.W.Frag) : Sp := fun vs H Q _ => ∃ (a : Addr) (ns : List Int) (k : Nat), vs = [.ref a, .int k] ∧ SqL K H a (ns.map V.int) ∧ ∀ n : Int, Q (.int n) H
theorem ok_at {f : Addr} {fd : FuncData} (F : Fun K "_law_at" "_law_at" s_law_at f fd) (T : Bi mg) : FnOk P w K mg base CX0 1 f fd ["_law_script", "_law_k"] (spAt K) := by
  refine F.ok sc_law_at (fun vs H Q E h => ?_) (fun cdv A outer s H vs Q E hr h => ?_)
  · obtain ⟨_, _, _, rfl, _⟩ := h
    rfl
  obtain ⟨a, ns, k, rfl, hS, q⟩ := h
  refine ⟨_, (pss_cons (ps_if (pt_cmpR op_lt (pv 1) (pe_blt call_len_seq T.b_len bt_len (pa_cons (pv 0) pa_nil)) (nomark _)) (pss_one (ps_ret (pe_ix ix_list (pv 0) (pv 1) (fun _ _ => rfl)))) pss_nil) (pss_one (ps_ret pe_int))), ?_⟩
  refine ⟨_, rfl, _, rfl, a, _, rfl, .inl hS, _, _, rfl, rfl, _, rfl, ite2 (fun c => ?_) (fun c => ?_)⟩
  · have c' : (k : Int) < ((ns.map V.int).length : Int) := of_decide_eq_true c
    rw [List.length_map] at c'
    have hk : k < ns.length := by omega
    refine ⟨_, rfl, _, rfl, a, _, _, V.int ns[k], rfl, rfl, hS, atI_nat ?_, q _⟩
    rw [List.getElem?_map, List.getElem?_eq_getElem hk]
    rfl
  · exact q 0
end
section
variable {P : Program} {w : World} {K : PySem.W.Frag} {mg : Str → Option Value} {base : Heap}
theorem cut_midI (ns : List Int) (i j : Nat) : ∃ ms : List Int, cutV (ns.map V.int) (some (i : Int)) (some (j : Int)) = ms.map V.int ∧ ms.length ≤ ns.length := by
  unfold cutV
  refine ⟨(ns.drop (HT.sIx ns.length 0 (some (i : Int)))).take (HT.sIx ns.length ns.length (some (j : Int)) - HT.sIx ns.length 0 (some (i : Int))), ?_, ?_⟩
  · rw [List.length_map, List.map_take, List.map_drop]
  · rw [List.length_take, List.length_drop]; omega
theorem some_atI {α : Type} (l : List α) (i : Int) (h0 : 0 ≤ i) (h1 : i < (l.length : Int)) : ∃ x ∈ l, atI l i = some x := by
  obtain ⟨j, rfl⟩ := Int.eq_ofNat_of_zero_le h0
  have hj : j < l.length := by omega
  exact ⟨l[j], List.getElem_mem hj, atI_nat (List.getElem?_eq_getElem hj)⟩
def pcS : List Str := ["f(", "x", ")", ",", "?z", "0", "-1", "(", "?", "a,", "b)"]
def pcs : List V := pcS.map V.str
theorem piece_at (i : Int) (h0 : 0 ≤ i) (h1 : i < 11) : ∃ x : Str, atI pcs i = some (.str x) ∧ x.length ≤ 2 := by
  obtain ⟨v, hv, e⟩ := some_atI pcs i h0 h1
  obtain ⟨x, hx, rfl⟩ := List.mem_map.mp hv
  have key : ∀ x ∈ pcS, x.length ≤ 2 := by decide +kernel
  exact ⟨x, e, key x hx⟩
def spAsked (K : PySem.W.Frag) : Sp := fun vs H Q _ => ∃ (a : Addr) (ns : List Int), vs = [.ref a] ∧ SqL K H a (ns.map V.int) ∧ ns.length ≤ 63 ∧ ∀ (x : Str) (H' : Hp), Ln x → Q (.str x) H'
theorem ok_asked {f : Addr} {fd : FuncData} (F : Fun K "_law_asked" "_law_asked" s_law_asked f fd) (T : Bi mg) (c__law_at : Cal P w K mg base 1 "_law_at" ["_law_script", "_law_k"] (spAt K)) (c__law_grown : Cal P w K mg base 3 "_law_grown" ["_law_cells"] (spGrown K))
    (c__law_line_of : Cal P w K mg base 1 "_law_line_of" ["_law_term"] spShownG) (c__law_framed : Cal P w K mg base 1 "_law_framed" ["_law_line"] spFramed) : FnOk P w K mg base CX0 4 f fd ["_law_script"] (spAsked K) := by
  refine F.ok sc_law_asked (fun vs H Q E h => ?_) (fun cdv A outer s H vs Q E hr h => ?_)
  · obtain ⟨a, ns, rfl, _⟩ := h
    rfl
  obtain ⟨a, ns, rfl, hS, h63, q⟩ := h
  refine body_of (bss_cons (bp_set (i := 1) sc_law_asked.nd rfl (Or.inr rfl) (be_lst (ba_cons be_str (ba_cons be_str (ba_cons be_str (ba_cons be_str (ba_cons be_str (ba_cons be_str (ba_cons be_str (ba_cons be_str (ba_cons be_str (ba_cons be_str (ba_cons be_str ba_nil))))))))))))) ⟨(pss_cons (ps_set (i := 2) sc_law_asked.nd rfl (Or.inl rfl) (pe_op op_mod (pe_cal c__law_at (hr.mono (by decide)) (pa_cons (pv 0) (pa_cons pe_int pa_nil))) pe_int))
      (pss_cons (ps_if (pt_cmpR op_eq (pv 2) pe_int (nomark _)) (pss_one (ps_ret (pe_bm PySem.F.plainAttrs_str PySem.F.slot_str_join PySem.F.type_str_join mt_join pe_str (pa_cons (pe_comp (Nc := ["_law_cell", "_law_pieces"]) (k := 1) (js := [1]) ⟨rfl, rfl, rfl, rfl, rfl, rfl⟩ (pi_list (pe_slice sl_list (pv 0) (po_some pe_int) (po_some pe_int))) (fun _ _ _ _ => pg_name (i := 0) (show (["_law_cell", "_law_pieces"] : List Str).Nodup by decide +kernel) rfl (Or.inl rfl)) (fun _ _ _ _ => pts_nil) (fun _ _ _ _ => (pe_ix ix_list (pv 1) (pe_op op_mod (pv 0) pe_int) (fun _ _ => rfl)))) pa_nil)))) pss_nil)
      (pss_cons (ps_set (i := 3) sc_law_asked.nd rfl (Or.inl rfl) (pe_cal c__law_line_of (hr.mono (by decide)) (pa_cons (pe_cal c__law_grown (hr.mono (by decide)) (pa_cons (pe_slice sl_list (pv 0) (po_some pe_int) (po_some pe_int)) pa_nil)) pa_nil)))
      (pss_cons (ps_if (pt_cmpR op_gt (pv 2) pe_int (nomark _)) (pss_one (ps_ret (pe_ix ix_list (pe_cal c__law_framed (hr.mono (by decide)) (pa_cons (pv 3) pa_nil)) (pe_op op_mod (pe_cal c__law_at (hr.mono (by decide)) (pa_cons (pv 0) (pa_cons pe_int pa_nil))) pe_int) (fun _ _ => rfl)))) pss_nil)
      (pss_cons (ps_set (i := 4) sc_law_asked.nd rfl (Or.inl rfl) (pe_op op_mod (pe_cal c__law_at (hr.mono (by decide)) (pa_cons (pv 0) (pa_cons pe_int pa_nil))) (pe_op op_add (pe_blt call_len_str T.b_len bt_len (pa_cons (pv 3) pa_nil)) pe_int)))
      (pss_cons (ps_set (i := 5) sc_law_asked.nd rfl (Or.inl rfl) (pe_ix ix_str pe_str (pe_op op_mod (pe_cal c__law_at (hr.mono (by decide)) (pa_cons (pv 0) (pa_cons pe_int pa_nil))) pe_int) (fun _ _ => rfl)))
      (pss_cons (ps_if (pt_cmpR op_eq (pe_op op_mod (pe_op op_fdiv (pe_cal c__law_at (hr.mono (by decide)) (pa_cons (pv 0) (pa_cons pe_int pa_nil))) pe_int) pe_int) pe_int (nomark _)) (pss_cons (ps_set (i := 6) sc_law_asked.nd rfl (Or.inl rfl) pe_str)
        (pss_cons (ps_set (i := 6) sc_law_asked.nd rfl (Or.inl rfl) (pe_op op_add_str (pv 6) pe_str))
        (pss_one (ps_set (i := 5) sc_law_asked.nd rfl (Or.inl rfl) (pe_ix ix_str (pv 6) (pe_op op_mod (pe_cal c__law_at (hr.mono (by decide)) (pa_cons (pv 0) (pa_cons pe_int pa_nil))) (pe_blt call_len_str T.b_len bt_len (pa_cons (pv 6) pa_nil))) (fun _ _ => rfl)))))) pss_nil)
      (pss_cons (ps_if (pt_cmpR op_eq (pv 2) pe_int (nomark _)) (pss_one (ps_ret (pe_op op_add_str (pe_op op_add_str (pe_slice sl_strA (pv 3) po_none (po_some (pv 4))) (pv 5)) (pe_slice sl_strA (pv 3) (po_some (pe_op op_add (pv 4) pe_int)) po_none)))) pss_nil)
      (pss_cons (ps_if (pt_cmpR op_eq (pv 2) pe_int (nomark _)) (pss_one (ps_ret (pe_op op_add_str (pe_slice sl_strA (pv 3) po_none (po_some (pv 4))) (pe_slice sl_strA (pv 3) (po_some (pe_op op_add (pv 4) pe_int)) po_none)))) pss_nil)
      (pss_cons (ps_if (pt_cmpR op_eq (pv 2) pe_int (nomark _)) (pss_one (ps_ret (pe_op op_add_str (pe_op op_add_str (pe_slice sl_strA (pv 3) po_none (po_some (pv 4))) (pv 5)) (pe_slice sl_strA (pv 3) (po_some (pv 4)) po_none)))) pss_nil)
      (pss_one (ps_ret (pv 3)))))))))))))⟩) ?_
  refine ⟨(by show 11 ≤ sizeLine; decide), fun pc hpc => ?_⟩
  show Ends.nx _ _ (upd H pc (HO.lst pcs))
  have s1 := same_new hpc (HO.lst pcs)
  have x1 : upd H pc (HO.lst pcs) pc = some _ := upd_same
  generalize upd H pc (HO.lst pcs) = H1 at s1 x1 ⊢
  have hS1 : SqL K H1 a (ns.map V.int) := s1.seq hS
  refine ⟨_, rfl, a, ns, 0, rfl, hS1, fun n0 => ⟨_, _, rfl, rfl, (show (0 : Int) < _ by decide), ?_⟩⟩
  refine ⟨_, rfl, rfl, _, rfl, ite2 (fun c => ?_) (fun c => ?_)⟩
  · -- pieces of the menu
    obtain ⟨ms, ems, hms⟩ := cut_midI ns 1 190
    refine ⟨rfl, _, rfl, _, rfl, _, rfl, a, _, rfl, hS1, fun l hl => ?_⟩
    have ems' : cutV (ns.map V.int) (some 1) (some 190) = ms.map V.int := ems
    rw [ems']
    have s2 := same_new hl (HO.lst (ms.map V.int))
    have x2 : upd H1 l (HO.lst (ms.map V.int)) l = some _ := upd_same
    generalize upd H1 l (HO.lst (ms.map V.int)) = H2 at s2 x2 ⊢
    refine ⟨l, rfl, ⟨_, SqL.of x2⟩, fun D hD _ _ _ _ => let I1 : Nat → L2.St → Hp → Prop := (fun n σ HX => ∃ (o : Option V) (ys : List Str), σ = [o, some (.ref pc)] ∧ Same H2 HX ∧ HX D = some (.lst (ys.map V.str)) ∧ ys.length ≤ n ∧ ∀ y ∈ ys, y.length ≤ 2); comp_listN (K := K) (a := l) (xs := ms.map V.int) I1
      ⟨none, [], rfl, same_new hD _, upd_same, Nat.le_refl _, by simp⟩ (fun n σ HX _ ⟨_, _, _, sX, _⟩ => sX.seq (SqL.of x2)) ?_ ?_⟩
    · rintro n v σ HX hi ⟨o, ys, rfl, sX, xX, hyn, hyl⟩
      have hil := (List.getElem?_eq_some_iff.mp hi).1
      rw [List.length_map] at hil
      obtain ⟨cl, rfl⟩ : ∃ c, v = V.int c := by
        rw [List.getElem?_map] at hi
        cases e : ms[n]? with
        | none => rw [e] at hi; cases hi
        | some z => rw [e] at hi; exact ⟨z, (Option.some.inj hi).symm⟩
      obtain ⟨x, hx1, hx2⟩ := piece_at (cl % 11) (by omega) (by omega)
      refine ⟨_, rfl, _, rfl, _, _, rfl, rfl, (show (0 : Int) < _ by decide), pc, _, _, _, rfl, rfl, SqL.of (sX _ _ (s2 _ _ x1)), hx1, _, xX, big (by rw [List.length_map]; omega), _, ys ++ [x], rfl, fun b ob z => ?_, ?_, by rw [List.length_append]; simp only [List.length_cons, List.length_nil]; omega, fun y hy => ?_⟩
      · rw [upd_ne (ne_of_none z hD)]; exact sX _ _ z
      · rw [upd_same, List.map_append]; rfl
      · rcases List.mem_append.mp hy with hy | hy
        · exact hyl y hy
        · simp at hy; rw [hy]; exact hx2
    · rintro σ HX ⟨o, ys, rfl, sX, xX, hyn, hyl⟩
      rw [List.length_map] at hyn
      have hsum : (ys.map (·.length)).sum ≤ 2 * ys.length := by
        clear xX hyn
        induction ys with
        | nil => simp
        | cons y r ih =>
          have h1 := hyl y (by simp)
          have h2 := ih fun z hz => hyl z (by simp [hz])
          simp only [List.map_cons, List.sum_cons, List.length_cons]
          omega
      refine ⟨D, ys, rfl, rfl, xX, by omega, q _ _ ?_⟩
      have hfl := flat_len ys
      unfold Ln
      rw [join_flat]
      exact ⟨by omega, rn_len (by omega)⟩
  obtain ⟨ms, ems, hms⟩ := cut_midI ns 3 190
  have ems' : cutV (ns.map V.int) (some 3) (some 190) = ms.map V.int := ems
  refine ⟨_, rfl, _, rfl, _, rfl, a, _, rfl, hS1, fun l hl => ?_⟩
  rw [ems']
  have s2 := same_new hl (HO.lst (ms.map V.int))
  have x2 : upd H1 l (HO.lst (ms.map V.int)) l = some _ := upd_same
  generalize upd H1 l (HO.lst (ms.map V.int)) = H2 at s2 x2 ⊢
  refine ⟨l, ms, rfl, SqL.of x2, by omega, fun v t H3 s3 ht hok hn => ?_⟩
  have hll := Tm.line_len t hok
  have hrn := rn_line t hok
  refine ⟨v, t, rfl, ht, hok.gd t, nb_of t (hrn.le (by omega)), by omega, fun z H4 s4 hz => ?_⟩
  rw [← hz] at hll hrn
  have hS4 : SqL K H4 a (ns.map V.int) := (s2.trans (s3.trans s4)).seq hS1
  have hzl : z.length = z.cps.toList.length := len_cps z
  have hzs : z.length ≤ sizeLine := by rw [hzl]; exact small (by omega)
  clear hz ht s3 s4 x2 s2 ems ems'
  refine ⟨_, rfl, _, _, rfl, rfl, _, rfl, ite2 (fun c2 => ?_) (fun c2 => ?_)⟩
  · -- a frame
    refine ⟨_, rfl, z, rfl, by omega, hrn, fun fl xs H5 s5 g5 h20 hall => ⟨_, rfl, a, ns, 1, rfl, s5.seq hS4, fun n1 => ⟨_, _, rfl, rfl, (show (0 : Int) < _ by decide), ?_⟩⟩⟩
    obtain ⟨v, hv, hat⟩ := some_atI (xs.map V.str) (n1 % 20) (by omega) (by rw [List.length_map, h20]; omega)
    obtain ⟨x, hx, rfl⟩ := List.mem_map.mp hv
    exact ⟨fl, _, _, _, rfl, rfl, SqL.of g5, hat, q x _ (hall x hx)⟩
  refine ⟨_, rfl, a, ns, 1, rfl, hS4, fun n1 => ⟨_, rfl, z, rfl, hzs, _, _, rfl, rfl, _, _, rfl, rfl, (show (0 : Int) < _ by omega), ?_⟩⟩
  obtain ⟨j, hj⟩ := Int.eq_ofNat_of_zero_le (show 0 ≤ n1 % ((z.length : Int) + 1) by exact Int.emod_nonneg _ (by omega))
  have hjz : j ≤ z.length := by
    have := Int.emod_lt_of_pos n1 (show (0 : Int) < (z.length : Int) + 1 by omega)
    omega
  have hj' : n1 % ((z.length : Int) + 1) = ((j : Nat) : Int) := hj
  show gName 4 (V.int (n1 % ((z.length : Int) + 1))) _ _ _
  rw [hj']
  clear hj hj'
  -- a sign
  refine ⟨_, rfl, a, ns, 2, rfl, hS4, fun n2 => ⟨_, _, rfl, rfl, (show (0 : Int) < _ by decide), ?_⟩⟩
  obtain ⟨sc, _, hsc⟩ := some_atI (Str.ofString "(),?a0-B 1").cps.toList (n2 % 10) (by omega) (by have : (Str.ofString "(),?a0-B 1").cps.toList.length = 10 := by decide +kernel
                                                                                                  rw [this]; omega)
  refine ⟨_, _, sc, rfl, rfl, (by decide +kernel), hsc, ?_⟩
  show Ends.nx _ _ _
  with_reducible show tSeq _ _ _ _ _
  refine let I2 : L2.St → Hp → Prop := (fun σ H5 => ∃ (d : Nat) (o : Option V), σ = [some (.ref a), some (.ref pc), some (.int (n0 % 7)), some (.str z), some (.int (j : Nat)), some (.str ⟨#[d]⟩), o] ∧ H5 = H4); tSeq_cut I2 ?_ (fun key => ?_)
  rotate_left
  · refine ⟨_, rfl, a, ns, 2, rfl, hS4, fun n3 => ⟨_, _, rfl, rfl, ⟨by decide, by decide⟩, _, _, rfl, rfl, (show (0 : Int) < _ by decide), rfl, _, rfl, ite2 (fun c3 => ?_) (fun c3 => key _ _ ⟨_, _, rfl, rfl⟩)⟩⟩
    refine ⟨_, rfl, _, _, rfl, rfl, (by decide +kernel), ?_⟩
    generalize hgs : (Str.ofString _ ++ Str.ofString _ : Str) = gs
    have hgl : gs.length = 94 := by rw [← hgs]; decide +kernel
    refine ⟨_, rfl, _, rfl, a, ns, 2, rfl, hS4, fun n4 => ⟨_, rfl, gs, rfl, by rw [hgl]; decide, _, _, rfl, rfl, (show (0 : Int) < _ by rw [hgl]; decide), ?_⟩⟩
    obtain ⟨d, _, hd⟩ := some_atI gs.cps.toList (n4 % (gs.length : Int)) (Int.emod_nonneg _ (by rw [hgl]; decide)) (by rw [← len_cps]; exact Int.emod_lt_of_pos _ (by rw [hgl]; decide))
    exact ⟨gs, _, d, rfl, rfl, by rw [hgl]; decide, hd, key _ _ ⟨_, _, rfl, rfl⟩⟩
  rintro σ H5 ⟨d, o, rfl, rfl⟩
  have hd1 : (⟨#[d]⟩ : Str).cps.toList = [d] := rfl
  have hA : (cutS z 0 j).cps.toList = z.cps.toList.take j := cut_to0 z j
  have hB : ∀ i, (cutS z i z.length).cps.toList = z.cps.toList.drop i := cut_rest z
  have ltA : (z.cps.toList.take j).length ≤ z.cps.toList.length := by rw [List.length_take]; omega
  have ltB : ∀ i, (z.cps.toList.drop i).length ≤ z.cps.toList.length := fun i => by rw [List.length_drop]; omega
  refine ⟨_, rfl, rfl, _, rfl, ite2 (fun c3 => ?_) (fun c3 => ?_)⟩
  · refine ⟨_, rfl, _, rfl, _, rfl, z, 0, j, rfl, .inr ⟨rfl, rfl⟩, .inl rfl, .inl ⟨by omega, by omega⟩, hzs, _, rfl, _, _, rfl, rfl, ?_, _, rfl, _, rfl, _, _, rfl, rfl, _, rfl, z, j + 1, z.length, rfl, .inl (congrArg some (by omega)), .inr (.inl ⟨rfl, rfl⟩), by omega, hzs, _, _, rfl, rfl, ?_, q _ _ ⟨?_, ?_⟩⟩
    · rw [len_cps, len_cps, hA, hd1]; exact small (by simp only [List.length_cons, List.length_nil]; omega)
    · have := ltB (j + 1)
      rw [len_cps, len_cps, cps_append, hA, hd1, hB, List.length_append]; exact small (by simp only [List.length_cons, List.length_nil]; omega)
    · have := ltB (j + 1)
      rw [cps_append, cps_append, hA, hd1, hB, List.length_append, List.length_append]; simp only [List.length_cons, List.length_nil]; omega
    · rw [cps_append, cps_append, hA, hd1, hB]
      exact (rn_app (rn_app (hrn.take j) (rn_len (m := 1) (by simp))) (hrn.drop (j + 1))).le (by omega)
  refine ⟨_, rfl, rfl, _, rfl, ite2 (fun c4 => ?_) (fun c4 => ?_)⟩
  · refine ⟨_, rfl, _, rfl, _, rfl, z, 0, j, rfl, .inr ⟨rfl, rfl⟩, .inl rfl, .inl ⟨by omega, by omega⟩, hzs, _, rfl, _, rfl, _, _, rfl, rfl, _, rfl, z, j + 1, z.length, rfl, .inl (congrArg some (by omega)), .inr (.inl ⟨rfl, rfl⟩), by omega, hzs, _, _, rfl, rfl, ?_, q _ _ ⟨?_, ?_⟩⟩
    · have := ltB (j + 1)
      rw [len_cps, len_cps, hA, hB]; exact small (by omega)
    · have := ltB (j + 1)
      rw [cps_append, hA, hB, List.length_append]; omega
    · rw [cps_append, hA, hB]
      exact (rn_app (hrn.take j) (hrn.drop (j + 1))).le (by omega)
  refine ⟨_, rfl, rfl, _, rfl, ite2 (fun c5 => ?_) (fun c5 => ?_)⟩
  · refine ⟨_, rfl, _, rfl, _, rfl, z, 0, j, rfl, .inr ⟨rfl, rfl⟩, .inl rfl, .inl ⟨by omega, by omega⟩, hzs, _, rfl, _, _, rfl, rfl, ?_, _, rfl, _, rfl, _, rfl, z, j, z.length, rfl, .inl rfl, .inr (.inl ⟨rfl, rfl⟩), by omega, hzs, _, _, rfl, rfl, ?_, q _ _ ⟨?_, ?_⟩⟩
    · rw [len_cps, len_cps, hA, hd1]; exact small (by simp only [List.length_cons, List.length_nil]; omega)
    · have := ltB j
      rw [len_cps, len_cps, cps_append, hA, hd1, hB, List.length_append]; exact small (by simp only [List.length_cons, List.length_nil]; omega)
    · have := ltB j
      rw [cps_append, cps_append, hA, hd1, hB, List.length_append, List.length_append]; simp only [List.length_cons, List.length_nil]; omega
    · rw [cps_append, cps_append, hA, hd1, hB]
      exact (rn_app (rn_app (hrn.take j) (rn_len (m := 1) (by simp))) (hrn.drop j)).le (by omega)
  · exact ⟨_, rfl, q _ _ ⟨by omega, hrn.le (by omega)⟩⟩
end
end K02
set_option Elab.async false
set_option linter.all false
set_option maxRecDepth 100000
set_option maxHeartbeats 4000000
namespace K02
open PySem L2 BF
/-! ### the law's own looks at a term -/
section
variable {P : Program} {w : World} {K : PySem.W.Frag} {mg : Str → Option Value} {base : Heap}
theorem alpha_mem {c : Nat} : (c ∈ (Str.ofString "abcdefghijklmnopqrstuvwxyz").cps.toList) ↔ letter c = true := by
  have e : (Str.ofString "abcdefghijklmnopqrstuvwxyz").cps.toList = (List.range 26).map (· + 97) := by decide +kernel
  rw [e]
  unfold letter rg
  rw [Bool.and_eq_true, decide_eq_true_eq, decide_eq_true_eq]
  simp only [List.mem_map, List.mem_range]
  constructor
  · rintro ⟨k, hk, rfl⟩; omega
  · rintro ⟨h1, h2⟩; exact ⟨c - 97, by omega, by omega⟩
/-- is it a word -/
def spLetters : Sp := fun vs H Q _ => ∃ x : Str, vs = [.str x] ∧ (Lw x → Q (.bl true) H) ∧ (¬ Lw x → Q (.bl false) H)
theorem ok_letters {f : Addr} {fd : FuncData} (F : Fun K "_law_letters" "_law_letters" s_law_letters f fd) (T : Bi mg) : FnOk P w K mg base CX0 1 f fd ["_law_found"] spLetters := by
  refine F.ok sc_law_letters (fun vs H Q E h => ?_) (fun cdv A outer s H vs Q E hr h => ?_)
  · obtain ⟨i, rfl, _⟩ := h
    rfl
  obtain ⟨x, rfl, q1, q2⟩ := h
  apply let_ts; intro T1
  refine ⟨_, (pss_cons (ps_if (pw_or (pt_not (pt_val (pe_blt call_isi T.b_isinstance bt_isinstance (pa_cons (pv 0) (pa_cons (pe_tyn T.b_str bt_str) pa_nil))))) (pw_or1 (pt_cmpR op_eq (pv 0) pe_str (nomark _)))).pt (pss_one (ps_ret pe_bl)) pss_nil) (pss_as T1 (pss_cons (ps_for PassesOwn.never rfl (pi_str (pv 0)) (pg_name (i := 1) sc_law_letters.nd rfl (Or.inl rfl)) (pss_one (ps_if (pt_cmpR op_notin_str (pv 1) pe_str (by with_unfolding_all rfl)) (pss_one (ps_ret pe_bl)) pss_nil))) (pss_one (ps_ret pe_bl))))), ?_⟩
  have e0 : (Str.ofString "").cps.toList = [] := by decide +kernel
  refine ⟨_, rfl, _, _, _, _, rfl, .str _, .ss, _, rfl, iteF ⟨_, rfl, rfl, _, rfl, ite2 (fun c => ?_) (fun c => ?_)⟩⟩
  · have c' : x = "" := V.str.inj (of_decide_eq_true c)
    exact q2 fun z => z.1 (by rw [c']; exact e0)
  have hne : x.cps.toList ≠ [] := fun z => absurd (decide_eq_true (congrArg V.str (str_ext (z.trans e0.symm)))) c
  refine ⟨_, rfl, x, rfl, let I1 : Nat → L2.St → Hp → Prop := (fun i σ H2 => H2 = H ∧ (∀ c ∈ x.cps.toList.take i, letter c = true) ∧ ∃ o, σ = [some (.str x), o]); for_str I1 ⟨rfl, by simp, _, rfl⟩ ?_ ?_⟩
  · rintro i c σ H2 hi ⟨rfl, hl, o, rfl⟩
    refine ⟨_, rfl, _, _, rfl, rfl, _, rfl, ite2 (fun cc => ?_) (fun cc => ?_)⟩
    · refine q2 fun z => ?_
      rw [in_one, Bool.not_eq_true', decide_eq_false_iff_not, alpha_mem] at cc
      exact cc (z.2 c (List.mem_of_getElem? hi))
    · refine ⟨rfl, ?_, _, rfl⟩
      rw [in_one, Bool.not_eq_true', decide_eq_false_iff_not, alpha_mem, Classical.not_not] at cc
      obtain ⟨hil, hie⟩ := List.getElem?_eq_some_iff.mp hi
      rw [List.take_succ_eq_append_getElem hil]
      intro d hd
      rcases List.mem_append.mp hd with hd | hd
      · exact hl d hd
      · rw [List.mem_singleton] at hd; rw [hd, hie]; exact cc
  · rintro σ H2 ⟨rfl, hl, o, rfl⟩
    rw [List.take_of_length_le (by simp)] at hl
    exact q1 ⟨hne, hl⟩
def spWhole : Sp := fun vs H Q _ => ∃ n : Int, vs = [.int n] ∧ Q (.bl true) H
theorem ok_whole {f : Addr} {fd : FuncData} (F : Fun K "_law_whole" "_law_whole" s_law_whole f fd) (T : Bi mg) : FnOk P w K mg base CX0 1 f fd ["_law_found"] spWhole := by
  refine F.ok sc_law_whole (fun vs H Q E h => ?_) (fun cdv A outer s H vs Q E hr h => ?_)
  · obtain ⟨i, rfl, _⟩ := h
    rfl
  obtain ⟨n, rfl, q⟩ := h
  refine ⟨_, (pss_one (ps_ret (pe_and (pe_blt call_isi T.b_isinstance bt_isinstance (pa_cons (pv 0) (pa_cons (pe_tyn T.b_int bt_int) pa_nil))) (pe_one (pe_not (pe_blt call_isi T.b_isinstance bt_isinstance (pa_cons (pv 0) (pa_cons (pe_tyn T.b_bool bt_bool) pa_nil)))))))), ?_⟩
  refine ⟨_, rfl, _, _, _, _, rfl, .int _, .ii, _, rfl, iteT ⟨_, rfl, _, _, _, _, rfl, .int _, .ib, _, rfl, ?_⟩⟩
  exact q
/-- a term that is no thing -/
def spSmall : Sp := fun vs H Q _ => ∃ (v : V) (t : Tm), vs = [v] ∧ TermAt H v t ∧ t.Gd ∧ (∀ x ps, t ≠ .thing x ps) ∧ Q (.bl true) H
theorem ok_small {f : Addr} {fd : FuncData} (F : Fun K "_law_small" "_law_small" s_law_small f fd) (T : Bi mg) (c__law_whole : Cal P w K mg base 1 "_law_whole" ["_law_found"] spWhole)
    (c__law_letters : Cal P w K mg base 1 "_law_letters" ["_law_found"] spLetters) : FnOk P w K mg base CX0 2 f fd ["_law_part"] spSmall := by
  refine F.ok sc_law_small (fun vs H Q E h => ?_) (fun cdv A outer s H vs Q E hr h => ?_)
  · obtain ⟨v, t, rfl, _⟩ := h
    rfl
  obtain ⟨v, t, rfl, ht, hok, hno, q⟩ := h
  apply let_ts; intro T1
  apply let_ts; intro T2
  apply let_ts; intro T3
  refine ⟨_, (pss_cons (ps_if (pw_or (pt_cmpR op_ne (pe_blt call_len_seq T.b_len bt_len (pa_cons (pv 0) pa_nil)) pe_int (nomark _)) (pw_or1 (pt_not (pt_val (pe_blt call_isi T.b_isinstance bt_isinstance (pa_cons (pe_ix ix_tup (pv 0) pe_int (fun _ _ => rfl)) (pa_cons (pe_tyn T.b_str bt_str) pa_nil))))))).pt (pss_one (ps_ret pe_bl)) pss_nil) (pss_as T3 (pss_cons (ps_if (pt_cmpR op_eq (pe_ix ix_tup (pv 0) pe_int (fun _ _ => rfl)) pe_str (nomark _)) (pss_as T1 (pss_one (ps_ret (pe_cal c__law_whole (hr.mono (by decide)) (pa_cons (pe_ix ix_tup (pv 0) pe_int (fun _ _ => rfl)) pa_nil))))) pss_nil) (pss_as T2 (pss_one (ps_ret (pe_and (pe_or (pe_cmpR op_eq (pe_ix ix_tup (pv 0) pe_int (fun _ _ => rfl)) pe_str (nomark _)) (pe_one (pe_cmpR op_eq (pe_ix ix_tup (pv 0) pe_int (fun _ _ => rfl)) pe_str (nomark _)))) (pe_one (pe_cal c__law_letters (hr.mono (by decide)) (pa_cons (pe_ix ix_tup (pv 0) pe_int (fun _ _ => rfl)) pa_nil)))))))))), ?_⟩
  cases t with
  | thing x ps => exact absurd rfl (hno x ps)
  | num n =>
    obtain ⟨a, rfl, h1⟩ := termAt_num.mp ht
    refine ⟨_, rfl, a, _, rfl, .inr (SqT.of h1), rfl, _, rfl, iteF ⟨_, rfl, _, _, _, _, rfl, rfl, SqT.of h1, rfl, _, _, _, _, rfl, .str _, .ss, _, rfl, iteF ?_⟩⟩
    refine ⟨_, rfl, _, _, _, _, rfl, rfl, SqT.of h1, rfl, rfl, _, rfl, ite_t (by decide +kernel) ?_⟩
    exact ⟨_, rfl, _, _, _, _, rfl, rfl, SqT.of h1, rfl, n, rfl, q⟩
  | name x =>
    obtain ⟨a, rfl, h1⟩ := termAt_name.mp ht
    refine ⟨_, rfl, a, _, rfl, .inr (SqT.of h1), rfl, _, rfl, iteF ⟨_, rfl, _, _, _, _, rfl, rfl, SqT.of h1, rfl, _, _, _, _, rfl, .str _, .ss, _, rfl, iteF ?_⟩⟩
    refine ⟨_, rfl, _, _, _, _, rfl, rfl, SqT.of h1, rfl, rfl, _, rfl, ite_f (by decide +kernel) ?_⟩
    refine ⟨_, rfl, _, _, _, _, rfl, rfl, SqT.of h1, rfl, rfl, _, rfl, ite_t (by decide +kernel) ⟨_, rfl, iteT ?_⟩⟩
    exact ⟨_, rfl, _, _, _, _, rfl, rfl, SqT.of h1, rfl, x, rfl, (fun _ => q), fun z => absurd hok z⟩
  | blank x =>
    obtain ⟨a, rfl, h1⟩ := termAt_blank.mp ht
    refine ⟨_, rfl, a, _, rfl, .inr (SqT.of h1), rfl, _, rfl, iteF ⟨_, rfl, _, _, _, _, rfl, rfl, SqT.of h1, rfl, _, _, _, _, rfl, .str _, .ss, _, rfl, iteF ?_⟩⟩
    refine ⟨_, rfl, _, _, _, _, rfl, rfl, SqT.of h1, rfl, rfl, _, rfl, ite_f (by decide +kernel) ?_⟩
    refine ⟨_, rfl, _, _, _, _, rfl, rfl, SqT.of h1, rfl, rfl, _, rfl, ite_f (by decide +kernel) ⟨_, rfl, _, _, _, _, rfl, rfl, SqT.of h1, rfl, rfl, _, rfl, ite_t (by decide +kernel) ?_⟩⟩
    exact ⟨_, rfl, _, _, _, _, rfl, rfl, SqT.of h1, rfl, x, rfl, (fun _ => q), fun z => absurd hok z⟩
/-- a well-made term of bounded size: True, all that was there stays -/
def spIsTerm : Sp := fun vs H Q _ => ∃ (v : V) (t : Tm), vs = [v] ∧ TermAt H v t ∧ t.Gd ∧ t.nodes ≤ 21100 ∧ ∀ H', Same H H' → Q (.bl true) H'
theorem ok_is_term {f : Addr} {fd : FuncData} (F : Fun K "_law_is_term" "_law_is_term" s_law_is_term f fd) (T : Bi mg) (c__law_small : Cal P w K mg base 2 "_law_small" ["_law_part"] spSmall)
    (c__law_letters : Cal P w K mg base 1 "_law_letters" ["_law_found"] spLetters) : FnOk P w K mg base CX0 3 f fd ["_law_found"] spIsTerm := by
  refine F.ok sc_law_is_term (fun vs H Q E h => ?_) (fun cdv A outer s H vs Q E hr h => ?_)
  · obtain ⟨v, t, rfl, _⟩ := h
    rfl
  obtain ⟨v, t, rfl, ht, hok, hn, q⟩ := h
  apply let_ts; intro T1
  apply let_ts; intro T2
  apply let_ts; intro T3
  apply let_ts; intro T4
  apply let_ts; intro T5
  apply let_ts; intro T6
  apply let_ts; intro T7
  apply let_ts; intro T8
  refine ⟨_, (pss_cons (ps_set (i := 1) sc_law_is_term.nd rfl (Or.inl rfl) (pe_lst (pa_cons (pv 0) pa_nil))) (pss_as T8 (pss_cons (ps_while PassesOwn.never (pt_cmpR (op_neNil hr.units0) (pv 1) (pe_lst pa_nil) (nomark _)) (pss_as T7 (pss_cons (ps_set (i := 2) sc_law_is_term.nd rfl (Or.inl rfl) (pe_bm0 PySem.F.plainAttrs_list PySem.F.slot_list_pop PySem.F.type_list_pop mt_pop (pv 1))) (pss_as T6 (pss_cons (ps_if (pt_not (pt_val (pe_blt call_isi T.b_isinstance bt_isinstance (pa_cons (pv 2) (pa_cons (pe_tyn T.b_tuple bt_tuple) pa_nil))))) (pss_one (ps_ret pe_bl)) pss_nil) (pss_as T5 (pss_one (ps_if (pt_cmpR op_eq (pe_blt call_len_seq T.b_len bt_len (pa_cons (pv 2) pa_nil)) pe_int (nomark _)) (pss_as T3 (pss_cons (ps_if (pw_or (pt_not (pt_val (pe_blt call_isi T.b_isinstance bt_isinstance (pa_cons (pe_ix ix_tup (pv 2) pe_int (fun _ _ => rfl)) (pa_cons (pe_tyn T.b_str bt_str) pa_nil))))) (pw_or (pt_cmpR op_ne (pe_ix ix_tup (pv 2) pe_int (fun _ _ => rfl)) pe_str (nomark _)) (pw_or1 (pt_not (pt_val (pe_cal c__law_letters (hr.mono (by decide)) (pa_cons (pe_ix ix_tup (pv 2) pe_int (fun _ _ => rfl)) pa_nil))))))).pt (pss_one (ps_ret pe_bl)) pss_nil) (pss_as T2 (pss_cons (ps_if (pw_or (pt_not (pt_val (pe_blt call_isi T.b_isinstance bt_isinstance (pa_cons (pe_ix ix_tup (pv 2) pe_int (fun _ _ => rfl)) (pa_cons (pe_tyn T.b_tuple bt_tuple) pa_nil))))) (pw_or1 (pt_cmpR (op_eqNilT hr.units0) (pe_ix ix_tup (pv 2) pe_int (fun _ _ => rfl)) (pe_tup pa_nil) (nomark _)))).pt (pss_one (ps_ret pe_bl)) pss_nil) (pss_as T1 (pss_one (ps_expr (pe_bm PySem.F.plainAttrs_list PySem.F.slot_list_extend PySem.F.type_list_extend mt_extend (pv 1) (pa_cons (pe_bty call_list_of T.b_list bt_list (pa_cons (pe_ix ix_tup (pv 2) pe_int (fun _ _ => rfl)) pa_nil)) pa_nil))))))))) (pss_as T4 (pss_one (ps_if (pt_not (pt_val (pe_cal c__law_small (hr.mono (by decide)) (pa_cons (pv 2) pa_nil)))) (pss_one (ps_ret pe_bl)) pss_nil))))))))))) (pss_one (ps_ret pe_bl))))), ?_⟩
  refine ⟨_, rfl, (by show 1 ≤ sizeLine; decide), fun p hp => ?_⟩
  refine ⟨fun m σ H1 => Same H H1 ∧ H p = none ∧ ∃ (o : Option V) (us : List V) (ts : List Tm), σ = [some v, some (.ref p), o] ∧ H1 p = some (.lst us) ∧ TermsAt H1 us ts ∧ GdL ts ∧ nodesL ts = m ∧ m ≤ 21100,
    ⟨t.nodes, same_new hp _, hp, _, _, [t], rfl, upd_same, .cons (ht.mono (.new hp)) .nil, ⟨hok, trivial⟩, by simp [nodesL], hn⟩, ?_⟩
  rintro m σ H1 ⟨s1, fp, o, us, ts, rfl, hu, hts, hoks, hnd, hm⟩
  have hlen := hts.len
  have hln := len_le_nodes ts
  refine ⟨_, rfl, (by show 0 ≤ sizeLine; decide), fun e he => ?_⟩
  have s2 := same_new he (HO.lst [])
  have x2 : upd H1 e (HO.lst []) e = some _ := upd_same
  generalize upd H1 e (HO.lst []) = H2 at s2 x2 ⊢
  refine ⟨p, e, us, rfl, rfl, s2 _ _ hu, x2, _, rfl, ite2 (fun c => ⟨_, fun _ _ h => h, ?_⟩) (fun c => ?_)⟩
  · -- a turn
    have hne : us ≠ [] := by intro z; rw [z] at c; exact absurd c (by decide)
    have hs2 : TermsAt H2 us ts := hts.mono (.of s2)
    obtain ⟨us0, u, rfl⟩ : ∃ us0 u, us = us0 ++ [u] := ⟨us.dropLast, us.getLast hne, (List.dropLast_concat_getLast hne).symm⟩
    obtain ⟨ts0, t1, rfl⟩ : ∃ ts0 t1, ts = ts0 ++ [t1] := by
      have : ts ≠ [] := by intro z; rw [z] at hlen; simp at hlen
      exact ⟨ts.dropLast, ts.getLast this, (List.dropLast_concat_getLast this).symm⟩
    obtain ⟨hs0, ht1⟩ := hs2.snoc
    rw [gdL_append] at hoks
    obtain ⟨ho0, ho1, _⟩ := hoks
    rw [nodesL_append] at hnd
    simp only [nodesL] at hnd
    refine ⟨_, rfl, .inl ⟨rfl, _, SqL.of (s2 _ _ hu)⟩, p, _, u, rfl, rfl, s2 _ _ hu, by simp, ?_⟩
    rw [List.dropLast_concat]
    have k3 : TSame H2 (upd H2 p (HO.lst us0)) := .lst (s2 _ _ hu)
    have x3 : upd H2 p (HO.lst us0) p = some _ := upd_same
    have y3 : Same H (upd H2 p (HO.lst us0)) := fun b ob z => by rw [upd_ne (ne_of_none z fp)]; exact s2 _ _ (s1 _ _ z)
    generalize upd H2 p (HO.lst us0) = H3 at k3 x3 y3 ⊢
    have hs3 := hs0.mono k3
    have ht3 := ht1.mono k3
    cases t1 with
    | thing x ps =>
      obtain ⟨a, b, vs, rfl, h1, h2, h3⟩ := termAt_thing.mp ht3
      simp only [Tm.Gd] at ho1
      obtain ⟨hx, hps, hop⟩ := ho1
      have hvl := h3.len
      have hpl := len_le_nodes ps
      simp only [Tm.nodes] at hnd
      refine ⟨_, rfl, _, _, _, _, rfl, .tup h1, .tt, _, rfl, iteF ?_⟩
      refine ⟨_, rfl, a, _, rfl, .inr (SqT.of h1), rfl, _, rfl, ite_t rfl ?_⟩
      refine ⟨_, rfl, _, _, _, _, rfl, rfl, SqT.of h1, rfl, _, _, _, _, rfl, .str _, .ss, _, rfl, iteF ⟨_, rfl, _, _, _, _, rfl, rfl, SqT.of h1, rfl, rfl, _, rfl, ite_f (by decide +kernel) ⟨_, rfl, _, _, _, _, rfl, rfl, SqT.of h1, rfl, x, rfl, (fun _ => ⟨_, rfl, iteF ?_⟩), fun z => absurd hx z⟩⟩⟩
      refine ⟨_, rfl, _, _, _, _, rfl, rfl, SqT.of h1, rfl, _, _, _, _, rfl, .tup h2, .tt, _, rfl, iteF ⟨_, rfl, _, _, _, _, rfl, rfl, SqT.of h1, rfl, (by show 0 ≤ sizeLine; decide), fun g hg => ?_⟩⟩
      have s4 := same_new hg (HO.tup [])
      have x4 : upd H3 g (HO.tup []) g = some _ := upd_same
      generalize upd H3 g (HO.tup []) = H4 at s4 x4 ⊢
      refine ⟨b, g, vs, rfl, rfl, s4 _ _ h2, x4, _, rfl, ite_f ?_ ?_⟩
      · cases vs with
        | nil => exact absurd (List.length_eq_zero_iff.mp hvl.symm) hps
        | cons _ _ => rfl
      refine ⟨_, rfl, .inl ⟨rfl, _, SqL.of (s4 _ _ x3)⟩, _, rfl, _, _, _, _, rfl, rfl, SqT.of (s4 _ _ h1), rfl, b, vs, rfl, .inr (SqT.of (s4 _ _ h2)), fun l hl => ?_⟩
      have s5 := same_new hl (HO.lst vs)
      have x5 : upd H4 l (HO.lst vs) l = some _ := upd_same
      generalize upd H4 l (HO.lst vs) = H5 at s5 x5 ⊢
      have hlen0 := hs0.len
      have hln0 := len_le_nodes ts0
      refine ⟨p, l, us0, vs, rfl, rfl, s5 _ _ (s4 _ _ x3), x5, small (by omega), ?_⟩
      have k6 : TSame H5 (upd H5 p (HO.lst (us0 ++ vs))) := .lst (s5 _ _ (s4 _ _ x3))
      refine ⟨nodesL ts0 + nodesL ps, by omega, fun b' ob z => ?_, fp, _, _, ts0 ++ ps, rfl, upd_same, TermsAt.mono k6 ((hs3.mono (.of (s4.trans s5))).app (h3.mono (.of (s4.trans s5)))), (gdL_append _ _).mpr ⟨ho0, hop⟩, nodesL_append _ _, by omega⟩
      rw [upd_ne (ne_of_none z fp)]
      exact s5 _ _ (s4 _ _ (y3 _ _ z))
    | num n =>
      obtain ⟨a, rfl, h1⟩ := termAt_num.mp ht3
      refine ⟨_, rfl, _, _, _, _, rfl, .tup h1, .tt, _, rfl, iteF ?_⟩
      refine ⟨_, rfl, a, _, rfl, .inr (SqT.of h1), rfl, _, rfl, ite_f rfl ?_⟩
      refine ⟨_, rfl, _, _, rfl, ht3, ho1, (fun _ _ z => nomatch z), _, rfl, iteF ?_⟩
      simp only [Tm.nodes] at hnd
      exact ⟨nodesL ts0, by omega, y3, fp, _, _, ts0, rfl, x3, hs3, ho0, rfl, by omega⟩
    | name x =>
      obtain ⟨a, rfl, h1⟩ := termAt_name.mp ht3
      refine ⟨_, rfl, _, _, _, _, rfl, .tup h1, .tt, _, rfl, iteF ?_⟩
      refine ⟨_, rfl, a, _, rfl, .inr (SqT.of h1), rfl, _, rfl, ite_f rfl ?_⟩
      refine ⟨_, rfl, _, _, rfl, ht3, ho1, (fun _ _ z => nomatch z), _, rfl, iteF ?_⟩
      simp only [Tm.nodes] at hnd
      exact ⟨nodesL ts0, by omega, y3, fp, _, _, ts0, rfl, x3, hs3, ho0, rfl, by omega⟩
    | blank x =>
      obtain ⟨a, rfl, h1⟩ := termAt_blank.mp ht3
      refine ⟨_, rfl, _, _, _, _, rfl, .tup h1, .tt, _, rfl, iteF ?_⟩
      refine ⟨_, rfl, a, _, rfl, .inr (SqT.of h1), rfl, _, rfl, ite_f rfl ?_⟩
      refine ⟨_, rfl, _, _, rfl, ht3, ho1, (fun _ _ z => nomatch z), _, rfl, iteF ?_⟩
      simp only [Tm.nodes] at hnd
      exact ⟨nodesL ts0, by omega, y3, fp, _, _, ts0, rfl, x3, hs3, ho0, rfl, by omega⟩
  · exact q H2 (s1.trans s2)
end
end K02
set_option Elab.async false
set_option linter.all false
set_option maxRecDepth 100000
set_option maxHeartbeats 4000000
namespace K02
open PySem L2 BF
section
variable {P : Program} {w : World} {K : PySem.W.Frag} {mg : Str → Option Value} {base : Heap}
def spKind : Sp := fun vs H Q _ => ∃ x : Str, vs = [.str x] ∧ x.cps.toList ≠ [] ∧ x.cps.toList.length ≤ 61000 ∧ Q (.str ⟨#[kindN x.cps.toList]⟩) H
theorem ok_kind {f : Addr} {fd : FuncData} (F : Fun K "_law_kind" "_law_kind" s_law_kind f fd) (T : Bi mg) (c__law_letters : Cal P w K mg base 1 "_law_letters" ["_law_found"] spLetters) : FnOk P w K mg base CX0 2 f fd ["_law_signs"] spKind := by
  refine F.ok sc_law_kind (fun vs H Q E h => ?_) (fun cdv A outer s H vs Q E hr h => ?_)
  · obtain ⟨x, rfl, _⟩ := h
    rfl
  obtain ⟨x, rfl, hne, hx, q⟩ := h
  have hxl : x.length = x.cps.toList.length := len_cps x
  have hx1 : 1 ≤ x.cps.toList.length := List.length_pos_iff.mpr hne
  have hz : x.length ≤ sizeLine := by rw [hxl]; exact small (by omega)
  have e0 : (Str.ofString "").cps.toList = [] := by decide +kernel
  have e45 : (Str.ofString "-").cps.toList = [45] := by decide +kernel
  have e48 : (Str.ofString "0").cps.toList = [48] := by decide +kernel
  have eW : (Str.ofString "W") = ⟨#[87]⟩ := by decide +kernel
  have eB : (Str.ofString "B") = ⟨#[66]⟩ := by decide +kernel
  have eN : (Str.ofString "N") = ⟨#[78]⟩ := by decide +kernel
  have eX : (Str.ofString "!") = ⟨#[33]⟩ := by decide +kernel
  apply let_ts; intro T1
  apply let_ts; intro T2
  apply let_ts; intro T3
  apply let_ts; intro T4
  apply let_ts; intro T5
  refine ⟨_, (pss_cons (ps_set (i := 1) sc_law_kind.nd rfl (Or.inl rfl) (pv 0)) (pss_as T5 (pss_cons (ps_if (pt_cmpR op_eq (pe_slice sl_strA (pv 0) po_none (po_some pe_int)) pe_str (nomark _)) (pss_one (ps_set (i := 1) sc_law_kind.nd rfl (Or.inl rfl) (pe_slice sl_strA (pv 0) (po_some pe_int) po_none))) pss_nil) (pss_as T4 (pss_cons (ps_if (pt_val (pe_cal c__law_letters (hr.mono (by decide)) (pa_cons (pv 0) pa_nil))) (pss_one (ps_ret pe_str)) pss_nil) (pss_as T3 (pss_cons (ps_if (pw_and (pt_cmpR op_eq (pe_slice sl_strA (pv 0) po_none (po_some pe_int)) pe_str (nomark _)) (pw_and1 (pt_val (pe_cal c__law_letters (hr.mono (by decide)) (pa_cons (pe_slice sl_strA (pv 0) (po_some pe_int) po_none) pa_nil))))).pt (pss_one (ps_ret pe_str)) pss_nil) (pss_as T2 (pss_cons (ps_for PassesOwn.never rfl (pi_str (pv 1)) (pg_name (i := 2) sc_law_kind.nd rfl (Or.inl rfl)) (pss_one (ps_if (pt_cmpR op_notin_str (pv 2) pe_str (by with_unfolding_all rfl)) (pss_one (ps_ret pe_str)) pss_nil))) (pss_as T1 (pss_cons (ps_if (pw_or (pt_cmpR op_eq (pv 1) pe_str (nomark _)) (pw_or1 (pw_and (pt_cmpR op_eq (pe_ix ix_str (pv 1) pe_int (fun _ _ => rfl)) pe_str (nomark _)) (pw_and1 (pt_cmpR op_ne (pv 0) pe_str (nomark _)))).pt)).pt (pss_one (ps_ret pe_str)) pss_nil) (pss_one (ps_ret pe_str))))))))))))), ?_⟩
  refine ⟨_, rfl, ?_⟩
  show Ends.nx _ _ _
  with_reducible show tSeq _ _ _ _ _
  refine let I1 : L2.St → Hp → Prop := (fun σ H1 => ∃ (fg : Str) (o : Option V), σ = [some (.str x), some (.str fg), o] ∧ fg.cps.toList = unsg x.cps.toList ∧ H1 = H); tSeq_cut I1 ?_ (fun key => ?_)
  rotate_left
  · refine ⟨_, rfl, _, rfl, x, 0, 1, rfl, .inr ⟨rfl, rfl⟩, .inl rfl, .inl ⟨by omega, by omega⟩, hz, rfl, _, rfl, ite2 (fun c => ?_) (fun c => ?_)⟩
    · have c' := (cut_first x 45 _ e45).mp (V.str.inj (of_decide_eq_true c))
      refine ⟨_, rfl, _, rfl, x, 1, x.length, rfl, .inl rfl, .inr (.inl ⟨rfl, rfl⟩), .inl ⟨by omega, by omega⟩, hz, key _ _ ⟨_, _, rfl, ?_, rfl⟩⟩
      rw [cut_rest]
      unfold unsg
      rw [if_pos c']
      simp
    · refine key _ _ ⟨_, _, rfl, ?_, rfl⟩
      unfold unsg
      rw [if_neg]
      intro z
      exact c (decide_eq_true (congrArg V.str ((cut_first x 45 _ e45).mpr z)))
  rintro σ H1 ⟨fg, o, rfl, hfg, rfl⟩
  refine ⟨_, rfl, x, rfl, (fun hw => ⟨_, rfl, ite_t rfl ?_⟩), fun hw => ⟨_, rfl, ite_f rfl ?_⟩⟩
  · rw [kind_word hw] at q
    rw [eW]
    exact q
  -- no blank: the figures
  have rest : ∀ (D : Ends) (σ' : L2.St), True := fun _ _ => trivial
  show Ends.nx _ _ _
  with_reducible show tSeq _ _ _ _ _
  refine let I2 : L2.St → Hp → Prop := (fun σ H2 => σ = [some (.str x), some (.str fg), o] ∧ H2 = H1 ∧ ∀ r, x.cps.toList = 63 :: r → ¬ Lw (mkS r)); tSeq_cut I2 ?_ (fun key => ?_)
  rotate_left
  · refine ⟨_, rfl, _, rfl, x, 0, 1, rfl, .inr ⟨rfl, rfl⟩, .inl rfl, .inl ⟨by omega, by omega⟩, hz, rfl, _, rfl, ite2 (fun c => ?_) (fun c => ?_)⟩
    · have c' := (cut_first x 63 _ quest_cps).mp (V.str.inj (of_decide_eq_true c))
      obtain ⟨r, hr'⟩ : ∃ r, x.cps.toList = 63 :: r := by
        cases e : x.cps.toList with
        | nil => exact absurd e hne
        | cons a r => rw [e] at c'; simp at c'; exact ⟨r, by rw [c']⟩
      have hcr : (cutS x 1 x.length).cps.toList = r := by rw [cut_rest, hr']; rfl
      have hcm : cutS x 1 x.length = mkS r := str_ext (by rw [hcr, mkS_cps])
      refine ⟨_, rfl, _, rfl, x, 1, x.length, rfl, .inl rfl, .inr (.inl ⟨rfl, rfl⟩), .inl ⟨by omega, by omega⟩, hz, _, rfl, (fun hw2 => ⟨_, rfl, ite_t rfl ?_⟩), fun hw2 => ⟨_, rfl, ite_f rfl (key _ _ ⟨rfl, rfl, fun r2 e2 z => hw2 ?_⟩)⟩⟩
      · rw [hcm] at hw2
        rw [kind_blank hr' hw2] at q
        rw [eB]
        exact q
      · rw [hr'] at e2
        cases e2
        rw [hcm]
        exact z
    · refine key _ _ ⟨rfl, rfl, fun r e _ => c (decide_eq_true (congrArg V.str ((cut_first x 63 _ quest_cps).mpr (by rw [e]; rfl))))⟩
  rintro σ H2 ⟨rfl, rfl, hb⟩
  have hw' : ¬ Lw (mkS x.cps.toList) := by rw [mkS_self]; exact hw
  refine ⟨_, rfl, fg, rfl, let I3 : Nat → L2.St → Hp → Prop := (fun i σ H3 => H3 = H2 ∧ (∀ c ∈ fg.cps.toList.take i, figure c = true) ∧ ∃ o, σ = [some (.str x), some (.str fg), o]); for_str I3 ⟨rfl, by simp, _, rfl⟩ ?_ ?_⟩
  · rintro i c σ H3 hi ⟨rfl, hl, o, rfl⟩
    refine ⟨_, rfl, _, _, rfl, rfl, _, rfl, ite2 (fun cc => ?_) (fun cc => ?_)⟩
    · rw [in_one, Bool.not_eq_true', decide_eq_false_iff_not, figures_mem, Bool.not_eq_true] at cc
      rw [kind_bad hw' hb (.inl ⟨c, by rw [← hfg]; exact List.mem_of_getElem? hi, cc⟩)] at q
      rw [eX]
      exact q
    · refine ⟨rfl, ?_, _, rfl⟩
      rw [in_one, Bool.not_eq_true', decide_eq_false_iff_not, figures_mem, Classical.not_not] at cc
      obtain ⟨hil, hie⟩ := List.getElem?_eq_some_iff.mp hi
      rw [List.take_succ_eq_append_getElem hil]
      intro d hd
      rcases List.mem_append.mp hd with hd | hd
      · exact hl d hd
      · rw [List.mem_singleton] at hd; rw [hd, hie]; exact cc
  · rintro σ H3 ⟨rfl, hl, o, rfl⟩
    rw [List.take_of_length_le (by simp)] at hl
    have fin : unsg x.cps.toList ≠ [] → ¬ ((unsg x.cps.toList).head? = some 48 ∧ x.cps.toList ≠ [48]) → Q (.str "N") H3 := fun h1 h2 => by
      rw [kind_num (by rw [← hfg]; exact hl) h1 h2] at q
      rw [eN]
      exact q
    have bad : (unsg x.cps.toList = [] ∨ ((unsg x.cps.toList).head? = some 48 ∧ x.cps.toList ≠ [48])) → Q (.str "!") H3 := fun h1 => by
      rw [kind_bad hw' hb (.inr h1)] at q
      rw [eX]
      exact q
    refine ⟨_, rfl, rfl, _, rfl, ite2 (fun c => iteT (bad (.inl ?_))) (fun c => ?_)⟩
    · rw [← hfg, V.str.inj (of_decide_eq_true c)]
      exact e0
    have hfne : unsg x.cps.toList ≠ [] := fun z => c (decide_eq_true (congrArg V.str (str_ext (by rw [hfg, z, e0]))))
    obtain ⟨d, r, hd⟩ : ∃ d r, fg.cps.toList = d :: r := by
      cases e : fg.cps.toList with
      | nil => rw [hfg] at e; exact absurd e hfne
      | cons d r => exact ⟨d, r, rfl⟩
    have hat : atI fg.cps.toList 0 = some d := atI_nat (j := 0) (by rw [hd]; rfl)
    have hfz : fg.length ≤ sizeLine := by
      have h1 : (unsg x.cps.toList).length ≤ x.cps.toList.length := by unfold unsg; split <;> simp
      rw [len_cps, hfg]
      exact small (by omega)
    refine ⟨_, rfl, _, _, _, rfl, rfl, hfz, hat, rfl, _, rfl, ite2 (fun c2 => ?_) (fun c2 => iteF (fin hfne fun z => ?_))⟩
    · have hd48 : d = 48 := by
        have z : (⟨#[d]⟩ : Str) = "0" := V.str.inj (of_decide_eq_true c2)
        have := congrArg (fun y : Str => y.cps.toList) z
        rw [e48] at this
        simpa using this
      subst hd48
      refine ⟨_, rfl, rfl, _, rfl, ite2 (fun c3 => bad (.inr ⟨by rw [← hfg, hd]; rfl, fun z => ?_⟩)) (fun c3 => fin hfne fun z => z.2 ?_)⟩
      · exact absurd (congrArg V.str (str_ext (z.trans e48.symm))) (by simpa using c3)
      · have : x = "0" := by simpa using c3
        rw [this]
        exact e48
    · rw [← hfg, hd] at z
      have : d = 48 := by simpa using z.1
      subst this
      exact c2 (decide_eq_true (congrArg V.str (str_ext (by rw [e48]))))
end
section
variable {P : Program} {w : World} {K : PySem.W.Frag} {mg : Str → Option Value} {base : Heap}
def spMarked : Sp := fun vs H Q _ => ∃ L : Str, vs = [.str L] ∧ L.cps.toList.length ≤ 30000 ∧ ∀ m : Str, m.cps.toList = toks L.cps.toList [] → Q (.str m) H
theorem ok_marked {f : Addr} {fd : FuncData} (F : Fun K "_law_marked" "_law_marked" s_law_marked f fd) (T : Bi mg) (c__law_kind : Cal P w K mg base 2 "_law_kind" ["_law_signs"] spKind) : FnOk P w K mg base CX0 3 f fd ["_law_line"] spMarked := by
  refine F.ok sc_law_marked (fun vs H Q E h => ?_) (fun cdv A outer s H vs Q E hr h => ?_)
  · obtain ⟨x, rfl, _⟩ := h
    rfl
  obtain ⟨L, rfl, hL, q⟩ := h
  have e0 : (Str.ofString "").cps.toList = [] := by decide +kernel
  have hLc : (L ++ Str.ofString ",").cps.toList = L.cps.toList ++ [44] := by rw [cps_append, comma_cps]
  apply let_ts; intro T1
  apply let_ts; intro T2
  apply let_ts; intro T3
  apply let_ts; intro T4
  apply let_ts; intro T5
  apply let_ts; intro T6
  refine ⟨_, (pss_cons (ps_set (i := 1) sc_law_marked.nd rfl (Or.inl rfl) pe_str) (pss_as T6 (pss_cons (ps_set (i := 2) sc_law_marked.nd rfl (Or.inl rfl) pe_str) (pss_as T5 (pss_cons (ps_for PassesOwn.never rfl (pi_str (pe_op op_add_str (pv 0) pe_str)) (pg_name (i := 3) sc_law_marked.nd rfl (Or.inl rfl)) (pss_as T4 (pss_one (ps_if (pt_cmpR op_in_str (pv 3) pe_str (by with_unfolding_all rfl)) (pss_as T3 (pss_cons (ps_if (pt_cmpR op_ne (pv 2) pe_str (nomark _)) (pss_as T1 (pss_one (ps_set (i := 1) sc_law_marked.nd rfl (Or.inl rfl) (pe_op op_add_str (pv 1) (pe_cal c__law_kind (hr.mono (by decide)) (pa_cons (pv 2) pa_nil)))))) pss_nil) (pss_as T2 (pss_cons (ps_set (i := 1) sc_law_marked.nd rfl (Or.inl rfl) (pe_op op_add_str (pv 1) (pv 3))) (pss_one (ps_set (i := 2) sc_law_marked.nd rfl (Or.inl rfl) pe_str)))))) (pss_one (ps_set (i := 2) sc_law_marked.nd rfl (Or.inl rfl) (pe_op op_add_str (pv 2) (pv 3)))))))) (pss_one (ps_ret (pe_slice sl_strA (pv 1) po_none (po_some (pe_un un_neg pe_int)))))))))), ?_⟩
  refine ⟨_, rfl, _, _, rfl, rfl, by rw [len_cps, len_cps, comma_cps]; exact small (by simp only [List.length_cons, List.length_nil]; omega), L ++ ",", rfl,
    let I1 : Nat → L2.St → Hp → Prop := (fun i σ H2 => H2 = H ∧ ∃ (m sg : Str) (o : Option V), σ = [some (.str L), some (.str m), some (.str sg), o] ∧ mst ((L.cps.toList ++ [44]).take i) ([], []) = (m.cps.toList, sg.cps.toList)); for_str I1
      ⟨rfl, "", "", none, rfl, by rw [e0]; rfl⟩ ?_ ?_⟩
  · rintro i c σ H2 hi ⟨rfl, m, sg, o, rfl, hms⟩
    rw [hLc] at hi
    obtain ⟨hil, hie⟩ := List.getElem?_eq_some_iff.mp hi
    have htk : (L.cps.toList ++ [44]).take (i + 1) = (L.cps.toList ++ [44]).take i ++ [c] := by rw [List.take_succ_eq_append_getElem hil, hie]
    have hlen := mst_len ((L.cps.toList ++ [44]).take i) ([], [])
    rw [hms, List.length_take, List.length_append] at hlen
    simp only [List.length_cons, List.length_nil] at hlen
    have h1c : (⟨#[c]⟩ : Str).cps.toList = [c] := rfl
    refine ⟨_, rfl, _, _, rfl, rfl, _, rfl, ite2 (fun cc => ?_) (fun cc => ?_)⟩
    · rw [in_one, decide_eq_true_eq, sep_mem] at cc
      refine let I2 : L2.St → Hp → Prop := (fun σ H3 => H3 = H2 ∧ ∃ m' : Str, σ = [some (.str L), some (.str m'), some (.str sg), some (.str ⟨#[c]⟩)] ∧ m'.cps.toList = m.cps.toList ++ told sg.cps.toList); tSeq_cut I2 ?_ (fun key => ?_)
      rotate_left
      · refine ⟨_, rfl, rfl, _, rfl, ite2 (fun c2 => ?_) (fun c2 => ?_)⟩
        · have hne : sg.cps.toList ≠ [] := fun z => by
            have : sg = "" := str_ext (z.trans e0.symm)
            rw [this] at c2
            simp at c2
          refine ⟨_, rfl, _, rfl, sg, rfl, hne, by omega, _, _, rfl, rfl, by rw [len_cps, len_cps]; exact small (by show _ + 1 ≤ _; omega), key _ _ ⟨rfl, _, rfl, ?_⟩⟩
          rw [cps_append]
          unfold told
          rw [if_neg hne]
        · have : sg = "" := by simpa using c2
          refine key _ _ ⟨rfl, _, rfl, ?_⟩
          rw [this, e0]
          simp [told]
      rintro σ H3 ⟨rfl, m', rfl, hm'⟩
      have htl : (told sg.cps.toList).length ≤ 1 := by unfold told; split <;> simp
      have hml := congrArg List.length hm'
      rw [List.length_append] at hml
      refine ⟨_, rfl, _, rfl, _, _, rfl, rfl, by rw [len_cps, len_cps]; exact small (by show _ + 1 ≤ _; omega), ?_⟩
      refine ⟨rfl, _, _, _, rfl, ?_⟩
      rw [htk, mst_snoc, if_pos cc, hms, cps_append, hm', e0]
    · rw [in_one, decide_eq_true_eq, sep_mem, Bool.not_eq_true] at cc
      refine ⟨_, rfl, _, rfl, _, _, rfl, rfl, by rw [len_cps, len_cps]; exact small (by show _ + 1 ≤ _; omega), ?_⟩
      refine ⟨rfl, _, _, _, rfl, ?_⟩
      rw [htk, mst_snoc, if_neg (by rw [cc]; simp), hms, cps_append]
  · rintro σ H2 ⟨rfl, m, sg, o, rfl, hms⟩
    have hsz : (L ++ Str.ofString ",").cps.size = (L.cps.toList ++ [44]).length := by rw [← hLc]; simp
    rw [hsz, List.take_length, mst_line] at hms
    have hm : m.cps.toList = toks L.cps.toList [] ++ [44] := (Prod.mk.inj hms).1.symm
    have hlen := mst_len (L.cps.toList ++ [44]) ([], [])
    rw [mst_line] at hlen
    simp only [List.length_append, List.length_cons, List.length_nil] at hlen
    have hml : m.length = (toks L.cps.toList []).length + 1 := by rw [len_cps, hm, List.length_append]; rfl
    refine ⟨_, rfl, _, rfl, _, rfl, m, 0, (toks L.cps.toList []).length, rfl, .inr ⟨rfl, rfl⟩, .inr (.inr ⟨rfl, hml.symm⟩), .inl ⟨by omega, by omega⟩, by rw [hml]; exact small (by omega), q _ ?_⟩
    rw [cut_to0, hm, List.take_left]
end
end K02
set_option Elab.async false
set_option linter.all false
set_option maxRecDepth 100000
set_option maxHeartbeats 4000000
namespace K02
open PySem L2 BF
section
variable {P : Program} {w : World} {K : PySem.W.Frag} {mg : Str → Option Value} {base : Heap}
abbrev four : List V := [.str "W", .str "B", .str "N", .str "T"]
theorem in_four (z : Str) : inV (.str z) four = true ↔ ∃ c, atom c ∧ z.cps.toList = [c] := by
  have e1 : (Str.ofString "W").cps.toList = [87] := by decide +kernel
  have e2 : (Str.ofString "B").cps.toList = [66] := by decide +kernel
  have e3 : (Str.ofString "N").cps.toList = [78] := by decide +kernel
  have e4 : (Str.ofString "T").cps.toList = [84] := by decide +kernel
  have k : ∀ y : Str, eqV (.str y) (.str z) = true ↔ z = y := fun y => by
    show (y == z) = true ↔ z = y
    rw [beq_iff_eq]
    exact eq_comm
  unfold inV four
  simp only [List.any_cons, List.any_nil, Bool.or_false, Bool.or_eq_true, k]
  constructor
  · rintro (rfl | rfl | rfl | rfl)
    · exact ⟨87, .inl rfl, e1⟩
    · exact ⟨66, .inr (.inl rfl), e2⟩
    · exact ⟨78, .inr (.inr (.inl rfl)), e3⟩
    · exact ⟨84, .inr (.inr (.inr rfl)), e4⟩
  · rintro ⟨c, rfl | rfl | rfl | rfl, e⟩
    · exact .inl (str_ext (e.trans e1.symm))
    · exact .inr (.inl (str_ext (e.trans e2.symm)))
    · exact .inr (.inr (.inl (str_ext (e.trans e3.symm))))
    · exact .inr (.inr (.inr (str_ext (e.trans e4.symm))))
def spWell : Sp := fun vs H Q _ => ∃ L : Str, vs = [.str L] ∧ L.cps.toList.length ≤ 30000 ∧ ((∃ t : Tm, t.Gd ∧ t.line = L.cps.toList) → ∀ H', Same H H' → Q (.bl true) H') ∧ ((∀ t : Tm, t.Gd → t.line ≠ L.cps.toList) → ∀ H', Same H H' → Q (.bl false) H')
theorem ok_well {f : Addr} {fd : FuncData} (F : Fun K "_law_well" "_law_well" s_law_well f fd) (T : Bi mg) (c__law_marked : Cal P w K mg base 3 "_law_marked" ["_law_line"] spMarked) : FnOk P w K mg base CX0 4 f fd ["_law_line"] spWell := by
  refine F.ok sc_law_well (fun vs H Q E h => ?_) (fun cdv A outer s H vs Q E hr h => ?_)
  · obtain ⟨x, rfl, _⟩ := h
    rfl
  obtain ⟨L, rfl, hL, qt, qf⟩ := h
  have e40 : (Str.ofString "(") = ⟨#[40]⟩ := by decide +kernel
  have e41 : (Str.ofString ")") = ⟨#[41]⟩ := by decide +kernel
  have e44 : (Str.ofString ",") = ⟨#[44]⟩ := by decide +kernel
  have e87 : (Str.ofString "W").cps.toList = [87] := by decide +kernel
  have e84 : (Str.ofString "T").cps.toList = [84] := by decide +kernel
  apply let_ts; intro T1
  apply let_ts; intro T2
  apply let_ts; intro T3
  apply let_ts; intro T4
  apply let_ts; intro T5
  apply let_ts; intro T6
  apply let_ts; intro T7
  apply let_ts; intro T8
  refine ⟨_, (pss_cons (ps_set (i := 1) sc_law_well.nd rfl (Or.inl rfl) (pe_cal c__law_marked (hr.mono (by decide)) (pa_cons (pv 0) pa_nil))) (pss_as T8 (pss_cons (ps_while PassesOwn.never (pt_cmpR op_in_str pe_str (pv 1) (by with_unfolding_all rfl)) (pss_as T6 (pss_cons (ps_set (i := 2) sc_law_well.nd rfl (Or.inl rfl) (pe_bm PySem.F.plainAttrs_str PySem.F.slot_str_find PySem.F.type_str_find mt_find (pv 1) (pa_cons pe_str pa_nil))) (pss_as T5 (pss_cons (ps_set (i := 3) sc_law_well.nd rfl (Or.inl rfl) (pe_bm PySem.F.plainAttrs_str PySem.F.slot_str_rfind PySem.F.type_str_rfind mt_rfind (pe_slice sl_strA (pv 1) po_none (po_some (pv 2))) (pa_cons pe_str pa_nil))) (pss_as T4 (pss_cons (ps_if (pw_or (pt_cmpR op_lt (pv 3) pe_int (nomark _)) (pw_or1 (pt_cmpR op_ne (pe_ix ix_str (pv 1) (pe_op op_sub (pv 3) pe_int) (fun _ _ => rfl)) pe_str (nomark _)))).pt (pss_one (ps_ret pe_bl)) pss_nil) (pss_as T3 (pss_cons (ps_for PassesOwn.never rfl (pi_list (pe_bm PySem.F.plainAttrs_str PySem.F.slot_str_split PySem.F.type_str_split mt_split (pe_slice sl_str (pv 1) (po_some (pe_op op_add (pv 3) pe_int)) (po_some (pv 2))) (pa_cons pe_str pa_nil))) (pg_name (i := 4) sc_law_well.nd rfl (Or.inl rfl)) (pss_as T1 (pss_one (ps_if (pt_cmpR op_notIn_seq (pv 4) (pe_lst (pa_cons pe_str (pa_cons pe_str (pa_cons pe_str (pa_cons pe_str pa_nil))))) (by with_unfolding_all rfl)) (pss_one (ps_ret pe_bl)) pss_nil)))) (pss_as T2 (pss_one (ps_set (i := 1) sc_law_well.nd rfl (Or.inl rfl) (pe_op op_add_str (pe_op op_add_str (pe_slice sl_strA (pv 1) po_none (po_some (pe_op op_sub (pv 3) pe_int))) pe_str) (pe_slice sl_strA (pv 1) (po_some (pe_op op_add (pv 2) pe_int)) po_none)))))))))))))) (pss_as T7 (pss_one (ps_ret (pe_cmpR op_in_seq (pv 1) (pe_lst (pa_cons pe_str (pa_cons pe_str (pa_cons pe_str (pa_cons pe_str pa_nil))))) (by with_unfolding_all rfl)))))))), ?_⟩
  refine ⟨_, rfl, L, rfl, hL, fun m0 hm0 => ?_⟩
  have hl0 := toks_len L.cps.toList
  refine ⟨fun k σ H1 => ∃ (m : Str) (o2 o3 o4 : Option V), σ = [some (.str L), some (.str m), o2, o3, o4] ∧ Same H H1 ∧ m.cps.toList.length = k ∧ k ≤ 60010 ∧ Glu m.cps.toList L.cps.toList ∧ (∀ t : Tm, t.Gd → t.line = L.cps.toList → Exm t m.cps.toList),
    ⟨_, m0, none, none, none, rfl, Same.refl _, rfl, by rw [hm0]; omega, by rw [hm0]; simpa using toks_glu L.cps.toList [], fun t ht e => by rw [hm0, ← e]; exact marks_exm ht⟩, ?_⟩
  rintro k σ H1 ⟨m, o2, o3, o4, rfl, s1, rfl, hk, hg, hex⟩
  have hml : m.length = m.cps.toList.length := len_cps m
  have hz : m.length ≤ sizeLine := by rw [hml]; exact small (by omega)
  refine ⟨_, rfl, _, _, rfl, rfl, _, rfl, ite2 (fun c => ⟨_, fun _ _ h => h, ?_⟩) (fun c => ?_)⟩
  · -- a turn
    rw [e41, in_one, decide_eq_true_eq] at c
    obtain ⟨x, r, hxr, hx⟩ := List.eq_append_cons_of_mem c
    have hxl := congrArg List.length hxr
    rw [List.length_append, List.length_cons] at hxl
    refine ⟨_, rfl, rfl, m, _, rfl, rfl, ?_⟩
    rw [e41, find1 hxr hx]
    have hcx : (cutS m 0 x.length).cps.toList = x := by rw [cut_to0, hxr, List.take_left]
    refine ⟨_, rfl, _, rfl, _, rfl, m, 0, x.length, rfl, .inr ⟨rfl, rfl⟩, .inl rfl, .inl ⟨by omega, by omega⟩, hz, rfl, _, _, rfl, rfl, ?_⟩
    rw [e40]
    by_cases h40 : 40 ∈ x
    · -- the last beginning ahead of it
      obtain ⟨y, q, hyq, hq⟩ : ∃ y q, x = y ++ 40 :: q ∧ 40 ∉ q := by
        obtain ⟨a, b, hab, hb⟩ := List.eq_append_cons_of_mem (List.mem_reverse.mpr h40)
        refine ⟨b.reverse, a.reverse, ?_, by simpa using hb⟩
        have := congrArg List.reverse hab
        simpa using this
      have hyl := congrArg List.length hyq
      rw [List.length_append, List.length_cons] at hyl
      have hmy : m.cps.toList = y ++ 40 :: (q ++ 41 :: r) := by rw [hxr, hyq]; simp
      have hx' : 41 ∉ y ∧ 41 ∉ q := by
        rw [hyq] at hx
        simp only [List.mem_append, List.mem_cons, not_or] at hx
        exact ⟨hx.1, hx.2.2⟩
      rw [rfind1 (hcx.trans hyq) hq]
      refine ⟨_, rfl, _, _, rfl, rfl, _, rfl, ite2 (fun c1 => iteT ?_) (fun c1 => ?_)⟩
      · have c1' : (y.length : Int) < 1 := of_decide_eq_true c1
        refine qf (fun t ht e => ?_) _ s1
        have hh := hex t ht e
        rw [hmy] at hh
        obtain ⟨p, rfl, _⟩ := exm_turn hh hx'.1 hx'.2 hq
        rw [List.length_append] at c1'
        simp only [List.length_cons, List.length_nil] at c1'
        omega
      have c1' : ¬ (y.length : Int) < 1 := of_decide_eq_false (Bool.eq_false_iff.mpr c1)
      obtain ⟨p, d, rfl⟩ := snoc_of (l := y) (by intro z; rw [z] at c1'; simp at c1')
      rw [List.length_append] at c1' hyl
      simp only [List.length_append, List.length_cons, List.length_nil] at c1' hyl ⊢
      have hat : atI m.cps.toList (((p.length + 1 : Nat) : Int) - 1) = some d := by
        have : (((p.length + 1 : Nat) : Int) - 1) = ((p.length : Nat) : Int) := by omega
        rw [this]
        refine atI_nat ?_
        rw [hmy, List.append_assoc, List.getElem?_append_right (Nat.le_refl _), Nat.sub_self]
        rfl
      refine ⟨_, rfl, _, rfl, _, _, rfl, rfl, _, _, _, rfl, rfl, hz, hat, rfl, _, rfl, ite2 (fun c2 => ?_) (fun c2 => ?_)⟩
      · refine qf (fun t ht e => ?_) _ s1
        have hh := hex t ht e
        rw [hmy] at hh
        obtain ⟨p', e', _⟩ := exm_turn hh hx'.1 hx'.2 hq
        obtain ⟨_, e2⟩ := List.append_inj' e' rfl
        have hd : d = 87 := by simpa using e2
        subst hd
        have : (⟨#[87]⟩ : Str) = "W" := str_ext (by rw [e87])
        rw [this] at c2
        simp at c2
      have hd : d = 87 := by
        have : (⟨#[d]⟩ : Str) = "W" := by simpa using c2
        have := congrArg (fun y : Str => y.cps.toList) this
        rw [e87] at this
        simpa using this
      subst hd
      have hcq : (cutS m (p.length + 1 + 1) x.length).cps.toList = q := by
        rw [cutS_cps, hmy]
        have h1 : p ++ [87] ++ 40 :: (q ++ 41 :: r) = (p ++ [87] ++ [40]) ++ (q ++ 41 :: r) := by simp
        have h2 : p.length + 1 + 1 = (p ++ [87] ++ [40]).length := by simp
        rw [h1, h2, List.drop_left, hyl]
        have h3 : p.length + 1 + (q.length + 1) - (p ++ [87] ++ [40]).length = q.length := by simp; omega
        rw [h3, List.take_left]
      have hql : (cutS m (p.length + 1 + 1) x.length).length = q.length := by rw [len_cps, hcq]
      obtain ⟨i1, i2, i3⟩ := split_cps (cutS m (p.length + 1 + 1) x.length) 44
      rw [hcq] at i1
      refine ⟨_, rfl, _, rfl, _, _, rfl, rfl, _, rfl, _, rfl, _, rfl, m, p.length + 1 + 1, x.length, rfl, congrArg some (by omega), rfl, by omega, by omega, hz, rfl, _, _, rfl, rfl, by rw [len_cps, comma_cps]; rfl, by rw [hql]; exact small (by omega), fun l hl => ?_⟩
      rw [e44]
      generalize Txt.split (cutS m (p.length + 1 + 1) x.length) ⟨#[44]⟩ = parts at i1 i2 i3 ⊢
      have s2 := same_new hl (HO.lst (parts.map V.str))
      have x2 : upd H1 l (HO.lst (parts.map V.str)) l = some _ := upd_same
      generalize upd H1 l (HO.lst (parts.map V.str)) = H2 at s2 x2 ⊢
      refine ⟨l, rfl, ⟨_, SqL.of x2⟩, let I1 : Nat → L2.St → Hp → Prop := (fun i σ H3 => ∃ (o : Option V), σ = [some (.str L), some (.str m), some (.int (x.length : Nat)), some (.int ((p.length + 1 : Nat) : Int)), o] ∧ Same H2 H3 ∧ ∀ y ∈ parts.take i, ∃ c, atom c ∧ y.cps.toList = [c]); for_list (K := K) (a := l) (xs := parts.map V.str) I1
        ⟨o4, rfl, Same.refl _, by simp⟩ (fun i σ H3 _ ⟨_, _, s3, _⟩ => s3.seq (SqL.of x2)) ?_ ?_⟩
      · rintro i v σ H3 hi ⟨o, rfl, s3, hat3⟩
        obtain ⟨z, hz1, rfl⟩ : ∃ z, parts[i]? = some z ∧ v = V.str z := by
          rw [List.getElem?_map] at hi
          cases e : parts[i]? with
          | none => rw [e] at hi; cases hi
          | some z => rw [e] at hi; exact ⟨z, rfl, (Option.some.inj hi).symm⟩
        refine ⟨_, rfl, (by show 4 ≤ sizeLine; decide), fun g hg' => ⟨g, _, rfl, .inl (SqL.of upd_same), rfl, rfl, _, rfl, ite2 (fun c3 => ?_) (fun c3 => ?_)⟩⟩
        · refine qf (fun t ht e => ?_) _ (s1.trans (s2.trans (s3.trans (same_new hg' _))))
          have hh := hex t ht e
          rw [hmy] at hh
          obtain ⟨p', e', hal, _⟩ := exm_turn hh hx'.1 hx'.2 hq
          rw [← i1] at hal
          obtain ⟨c, hc1, hc2⟩ := of_atl i2 hal z.cps.toList (List.mem_map.mpr ⟨z, List.mem_of_getElem? hz1, rfl⟩)
          have := (in_four z).mpr ⟨c, hc1, hc2⟩
          have c3' : (!inV (.str z) four) = true := c3
          rw [this] at c3'
          cases c3'
        · have c3' : ¬ (!inV (.str z) four) = true := c3
          have c4 : inV (.str z) four = true := by simpa using c3'
          refine ⟨_, rfl, s3.trans (same_new hg' _), fun y hy => ?_⟩
          obtain ⟨hil, hie⟩ := List.getElem?_eq_some_iff.mp hz1
          rw [List.take_succ_eq_append_getElem hil] at hy
          rcases List.mem_append.mp hy with hy | hy
          · exact hat3 y hy
          · simp at hy
            rw [hy, hie]
            exact (in_four z).mp c4
      · rintro σ H3 ⟨o, rfl, s3, hat3⟩
        rw [List.length_map, List.take_length] at hat3
        have hal : AtL q := by
          rw [← i1]
          refine atl_of i3 fun y hy => ?_
          obtain ⟨z, hz1, rfl⟩ := List.mem_map.mp hy
          obtain ⟨c, hc1, hc2⟩ := hat3 z hz1
          exact ⟨c, hc1, hc2⟩
        have hc1 : (cutS m 0 p.length).cps.toList = p := by rw [cut_to0, hmy, List.append_assoc, List.take_left]
        have hc2 : (cutS m (x.length + 1) m.length).cps.toList = r := by
          rw [cut_rest, hxr]
          have h1 : x ++ 41 :: r = (x ++ [41]) ++ r := by simp
          have h2 : x.length + 1 = (x ++ [41]).length := by simp
          rw [h1, h2, List.drop_left]
        have hnew : ((cutS m 0 p.length ++ Str.ofString "T") ++ cutS m (x.length + 1) m.length).cps.toList = p ++ 84 :: r := by rw [cps_append, cps_append, hc1, hc2, e84]; simp
        refine ⟨_, rfl, _, rfl, _, _, rfl, rfl, _, rfl, m, 0, p.length, rfl, .inr ⟨rfl, rfl⟩, .inl (congrArg some (by omega)), .inl ⟨by omega, by omega⟩, hz, _, _, rfl, rfl, ?_, _, rfl, _, rfl, _, _, rfl, rfl, _, rfl, m, x.length + 1, m.length, rfl, .inl (congrArg some (by omega)), .inr (.inl ⟨rfl, rfl⟩), .inl ⟨by omega, by omega⟩, hz, _, _, rfl, rfl, ?_, ?_⟩
        · rw [len_cps, len_cps, hc1, e84]; exact small (by simp only [List.length_cons, List.length_nil]; omega)
        · rw [len_cps, len_cps, cps_append, hc1, hc2, e84, List.length_append]; exact small (by simp only [List.length_cons, List.length_nil]; omega)
        · refine ⟨_, ?_, _, _, _, _, rfl, s1.trans (s2.trans s3), rfl, ?_, ?_, fun t ht e => ?_⟩
          · rw [hnew, List.length_append, List.length_cons]; omega
          · rw [hnew, List.length_append, List.length_cons]; omega
          · rw [hnew]
            refine glu_close (q := q) ?_ hal
            rw [hmy] at hg
            simpa using hg
          · rw [hnew]
            have hh := hex t ht e
            rw [hmy] at hh
            obtain ⟨p', e', _, h3⟩ := exm_turn hh hx'.1 hx'.2 hq
            obtain ⟨rfl, _⟩ := List.append_inj' e' rfl
            exact h3
    · rw [rfind0 (by rw [hcx]; exact h40)]
      refine ⟨_, rfl, _, _, rfl, rfl, _, rfl, ite_t (by decide) (iteT ?_)⟩
      refine qf (fun t ht e => ?_) _ s1
      have hh := hex t ht e
      rw [hxr] at hh
      exact h40 (exm_begins hh hx)
  · rw [e41, in_one, decide_eq_true_eq] at c
    refine ⟨_, rfl, (by show 4 ≤ sizeLine; decide), fun g hg' => ⟨g, _, rfl, .inl (SqL.of upd_same), rfl, rfl, ?_⟩⟩
    have sg := s1.trans (same_new hg' (HO.lst four))
    show Q (.bl (inV (.str m) four)) _
    cases hin : inV (.str m) four
    · refine qf (fun t ht e => ?_) _ sg
      obtain ⟨d, h1, h2⟩ := exm_fin (hex t ht e) c
      rw [(in_four m).mpr ⟨d, h2, h1⟩] at hin
      cases hin
    · obtain ⟨d, h1, h2⟩ := (in_four m).mp hin
      rw [h2] at hg
      exact qt (glu_end hg h1) _ sg
end
end K02
set_option Elab.async false
set_option linter.all false
set_option maxRecDepth 100000
set_option maxHeartbeats 4000000
namespace K02
open PySem L2 BF
/-! ### reading: the small methods -/
structure RT (K : PySem.W.Frag) (C : Addr) : Prop where
  cl : Cls K C
  nl : NoAttr K C "line"
  np : NoAttr K C "place"
  nb : NoAttr K C "begun"
section
variable {P : Program} {w : World} {K : PySem.W.Frag} {mg : Str → Option Value} {base : Heap} {C : Addr}
def spInit (C : Addr) : Sp := fun vs H Q _ => ∃ (p dx : Addr) (L : Str), vs = [.ref p, .str L] ∧ H p = some (.ins C dx []) ∧
  ∀ (b : Addr) (H' : Hp), H b = none → H' p = some (.ins C dx (fldsR L 0 b)) → H' b = some (.lst []) → (∀ c o, H c = some o → c ≠ p → H' c = some o) → Q .non H'
theorem ok_init {f : Addr} {fd : FuncData} (F : Fun K "__init__" "Reader.__init__" s_Reader_init f fd) (R : RT K C) : FnOk P w K mg base CX0 1 f fd ["self", "line"] (spInit C) := by
  refine F.ok sc_Reader_init (fun vs H Q E h => ?_) (fun cdv A outer s H vs Q E hr h => ?_)
  · obtain ⟨p, dx, L, rfl, _⟩ := h
    rfl
  obtain ⟨p, dx, L, rfl, hp, q⟩ := h
  refine ⟨_, (pss_cons (ps_fld (pv 0) (pv 1) rfl) (pss_cons (ps_fld (pv 0) pe_int rfl) (pss_one (ps_fld (pv 0) (pe_lst pa_nil) rfl)))), ?_⟩
  refine ⟨_, rfl, _, rfl, p, C, dx, [], rfl, hp, R.cl, R.nl, (by show 0 < 1000; decide), ?_⟩
  refine ⟨_, rfl, p, C, dx, _, rfl, upd_same, R.cl, R.np, (by show 1 < 1000; decide), ?_⟩
  rw [upd_upd]
  refine ⟨(by show 0 ≤ sizeLine; decide), fun b hb => ?_⟩
  have npb : p ≠ b := fun z => by rw [← z, upd_same] at hb; cases hb
  have hb0 : H b = none := by rw [upd_ne npb.symm] at hb; exact hb
  refine ⟨_, rfl, p, C, dx, _, rfl, (by rw [upd_ne npb]; exact upd_same), R.cl, R.nb, ?_, ?_⟩
  · have h1 := length_putF (Str.ofString "place") (V.int 0) (putF (Str.ofString "line") (V.str L) [])
    have h2 := length_putF (Str.ofString "line") (V.str L) []
    simp only [List.length_nil] at h2
    omega
  refine q b _ hb0 (by rw [upd_same, init_flds]) (by rw [upd_ne npb.symm, upd_same]) fun c o e hc => ?_
  rw [upd_ne hc, upd_ne (ne_of_none e hb0), upd_ne hc]
  exact e
def spSign (C : Addr) : Sp := fun vs H Q _ => ∃ (p dx b : Addr) (L : Str) (i : Nat), vs = [.ref p] ∧ H p = some (.ins C dx (fldsR L i b)) ∧ i ≤ L.cps.toList.length ∧ L.cps.toList.length ≤ 30000 ∧
  Q (.str (cutS L i (i + 1))) H
theorem ok_sign {f : Addr} {fd : FuncData} (F : Fun K "sign" "Reader.sign" s_Reader_sign f fd) (R : RT K C) : FnOk P w K mg base CX0 1 f fd ["self"] (spSign C) := by
  refine F.ok sc_Reader_sign (fun vs H Q E h => ?_) (fun cdv A outer s H vs Q E hr h => ?_)
  · obtain ⟨p, dx, b, L, i, rfl, _⟩ := h
    rfl
  obtain ⟨p, dx, b, L, i, rfl, hp, hi, hL, q⟩ := h
  refine ⟨_, (pss_one (ps_ret (pe_slice sl_str (pe_fld (pv 0) rfl) (po_some (pe_fld (pv 0) rfl)) (po_some (pe_op op_add (pe_fld (pv 0) rfl) pe_int))))), ?_⟩
  refine ⟨_, rfl, p, C, dx, _, _, rfl, hp, R.cl, R.nl, lk_line, _, rfl, p, C, dx, _, _, rfl, hp, R.cl, R.np, lk_place, _, rfl, _, rfl, p, C, dx, _, _, rfl, hp, R.cl, R.np, lk_place, _, _, rfl, rfl, _, rfl, ?_⟩
  exact ⟨L, i, i + 1, rfl, rfl, rfl, by rw [len_cps]; exact hi, by omega, by rw [len_cps]; exact small (by omega), q⟩
def spRun (C : Addr) : Sp := fun vs H Q _ => ∃ (p dx b : Addr) (L : Str) (i : Nat) (f l : Str) (c1 c2 : Nat), vs = [.ref p, .str f, .str l] ∧ f.cps.toList = [c1] ∧ l.cps.toList = [c2] ∧ H p = some (.ins C dx (fldsR L i b)) ∧ i ≤ L.cps.toList.length ∧ L.cps.toList.length ≤ 30000 ∧
  ∀ x : Str, x.cps.toList = (L.cps.toList.drop i).takeWhile (rg c1 c2) → Q (.str x) (upd H p (.ins C dx (fldsR L (i + ((L.cps.toList.drop i).takeWhile (rg c1 c2)).length) b)))
theorem ok_run {f : Addr} {fd : FuncData} (F : Fun K "run" "Reader.run" s_Reader_run f fd) (R : RT K C) (m_sign : Mtd P w K mg base 1 C "sign" ["self"] (spSign C)) : FnOk P w K mg base CX0 2 f fd ["self", "first", "last"] (spRun C) := by
  refine F.ok sc_Reader_run (fun vs H Q E h => ?_) (fun cdv A outer s H vs Q E hr h => ?_)
  · obtain ⟨p, dx, b, L, i, f1, l1, c1, c2, rfl, _⟩ := h
    rfl
  obtain ⟨p, dx, b, L, i, f1, l1, c1, c2, rfl, hf1, hl1, hp, hi, hL, q⟩ := h
  generalize hT : (L.cps.toList.drop i).takeWhile (rg c1 c2) = tw at q
  have htl : tw.length ≤ L.cps.toList.length - i := by rw [← hT, ← List.length_drop]; exact tw_le _
  apply let_ts; intro T1
  refine ⟨_, (pss_cons (ps_set (i := 3) sc_Reader_run.nd rfl (Or.inl rfl) (pe_fld (pv 0) rfl)) (pss_as T1 (pss_cons (ps_while PassesOwn.never (pt_chain op_le_str op_le_str (pv 1) (pe_mt0 m_sign (hr.mono (by decide)) (pv 0)) (pv 2)) (pss_one (ps_fldaug (pv 0) pe_int in_add))) (pss_one (ps_ret (pe_slice sl_str (pe_fld (pv 0) rfl) (po_some (pv 3)) (po_some (pe_fld (pv 0) rfl)))))))), ?_⟩
  refine ⟨_, rfl, p, C, dx, _, _, rfl, hp, R.cl, R.np, lk_place, ?_⟩
  refine ⟨fun m σ H1 => ∃ k : Nat, k ≤ tw.length ∧ m = tw.length - k ∧ H1 = upd H p (.ins C dx (fldsR L (i + k) b)) ∧ σ = [some (.ref p), some (.str f1), some (.str l1), some (.int (i : Int))],
    ⟨_, 0, Nat.zero_le _, rfl, by rw [Nat.add_zero]; exact (upd_self hp).symm, rfl⟩, ?_⟩
  rintro m σ H1 ⟨k, hk, rfl, rfl, rfl⟩
  refine ⟨_, rfl, _, rfl, p, dx, _, rfl, upd_same, lk_no (by decide +kernel) (by decide +kernel) (by decide +kernel), p, dx, b, L, i + k, rfl, upd_same, by omega, hL, ?_⟩
  have hcut : (cutS L (i + k) (i + k + 1)).cps.toList = ((L.cps.toList.drop i).drop k).take 1 := by
    rw [cutS_cps, List.drop_drop, Nat.add_sub_cancel_left]
  refine ⟨_, _, rfl, rfl, _, rfl, ?_⟩
  rw [hcut, hf1]
  by_cases hkt : k < tw.length
  · obtain ⟨c, r, hd, hc⟩ := drop_lt (p := rg c1 c2) (L.cps.toList.drop i) k (by rw [hT]; exact hkt)
    rw [hd]
    unfold rg at hc
    rw [Bool.and_eq_true] at hc
    refine ite_t (by show (!decide (([c] : List Nat) < [c1])) = true; rw [le_one]; exact hc.1) ?_
    refine ⟨_, rfl, _, _, rfl, rfl, _, rfl, ?_⟩
    rw [hcut, hd, hl1]
    refine ite_t (by show (!decide (([c2] : List Nat) < [c])) = true; rw [le_one]; exact hc.2) ⟨_, fun _ _ h => h, ?_⟩
    refine ⟨_, rfl, p, C, dx, _, _, rfl, upd_same, R.cl, R.np, lk_place, _, _, rfl, rfl, dx, _, upd_same, (by show 3 < 1000; decide), ?_⟩
    refine ⟨tw.length - (k + 1), by omega, k + 1, by omega, rfl, ?_, rfl⟩
    rw [upd_upd, put_place (j := i + (k + 1)) (by omega)]
  · have hke : k = tw.length := by omega
    have fin : ∀ D : Ends, D.rt = Q → tRet (tSl (fun x lo hi H Q => ∃ (z : Str) (i j : Nat), x = .str z ∧ lo = some (i : Int) ∧ hi = some (j : Int) ∧ i ≤ z.length ∧ i ≤ j ∧ z.length ≤ sizeLine ∧ Q (.str (cutS z i j)) H) (tFld K (tVar 0) "line") (tPart (tVar 3)) (tPart (tFld K (tVar 0) "place"))) D
        [some (.ref p), some (.str f1), some (.str l1), some (.int (i : Int))] (upd H p (.ins C dx (fldsR L (i + k) b))) := fun D hD => by
      refine ⟨_, rfl, p, C, dx, _, _, rfl, upd_same, R.cl, R.nl, lk_line, _, rfl, _, rfl, _, rfl, p, C, dx, _, _, rfl, upd_same, R.cl, R.np, lk_place, _, rfl, L, i, i + k, rfl, rfl, rfl, by rw [len_cps]; exact hi, by omega, by rw [len_cps]; exact small (by omega), ?_⟩
      rw [hD, hke]
      refine q _ ?_
      rw [cutS_cps, Nat.add_sub_cancel_left, ← hT, take_takeWhile]
    have hde := drop_eq (p := rg c1 c2) (L.cps.toList.drop i)
    rw [hT, ← hke] at hde
    rcases hde with hd | ⟨c, r, hd, hc⟩
    · rw [hd]
      refine ite_f (by show (!decide (([] : List Nat) < [c1])) = false; exact le_nil) ⟨_, rfl, iteF ?_⟩
      exact fin _ rfl
    · rw [hd]
      unfold rg at hc
      by_cases h1 : c1 ≤ c
      · refine ite_t (by show (!decide (([c] : List Nat) < [c1])) = true; rw [le_one]; exact decide_eq_true h1) ?_
        refine ⟨_, rfl, _, _, rfl, rfl, _, rfl, ?_⟩
        rw [hcut, hd, hl1]
        rw [decide_eq_true h1, Bool.true_and] at hc
        refine ite_f (by show (!decide (([c2] : List Nat) < [c])) = false; rw [le_one]; exact hc) ?_
        exact fin _ rfl
      · refine ite_f (by show (!decide (([c] : List Nat) < [c1])) = false; rw [le_one]; exact decide_eq_false h1) ⟨_, rfl, iteF ?_⟩
        exact fin _ rfl
def spLet (C : Addr) : Sp := fun vs H Q _ => ∃ (p dx b : Addr) (L : Str) (i : Nat), vs = [.ref p] ∧ H p = some (.ins C dx (fldsR L i b)) ∧ i ≤ L.cps.toList.length ∧ L.cps.toList.length ≤ 30000 ∧
  ∀ x : Str, x.cps.toList = (L.cps.toList.drop i).takeWhile (rg 97 122) → Q (.str x) (upd H p (.ins C dx (fldsR L (i + ((L.cps.toList.drop i).takeWhile (rg 97 122)).length) b)))
theorem ok_let {f : Addr} {fd : FuncData} (F : Fun K "letters" "Reader.letters" s_Reader_letters f fd) (R : RT K C) (m_run : Mtd P w K mg base 2 C "run" ["self", "first", "last"] (spRun C)) : FnOk P w K mg base CX0 3 f fd ["self"] (spLet C) := by
  refine F.ok sc_Reader_letters (fun vs H Q E h => ?_) (fun cdv A outer s H vs Q E hr h => ?_)
  · obtain ⟨p, dx, b, L, i, rfl, _⟩ := h
    rfl
  obtain ⟨p, dx, b, L, i, rfl, hp, hi, hL, q⟩ := h
  refine ⟨_, (pss_one (ps_ret (pe_mt m_run (hr.mono (by decide)) (pv 0) (pa_cons pe_str (pa_cons pe_str pa_nil))))), ?_⟩
  exact ⟨_, rfl, p, dx, _, rfl, hp, lk_no (by decide +kernel) (by decide +kernel) (by decide +kernel), p, dx, b, L, i, _, _, 97, 122, rfl, by decide +kernel, by decide +kernel, hp, hi, hL, q⟩
/-- what a leaf's reading comes to -/
def LeafR (C : Addr) (H : Hp) (p dx b : Addr) (L : Str) (j : Nat) (c : Tm) (Q : VK) : Prop := ∀ (v : V) (H' : Hp), (∀ a o, H a = some o → a ≠ p → H' a = some o) → H' p = some (.ins C dx (fldsR L j b)) → TermAt H' v c → Q v H'
end
end K02
set_option Elab.async false
set_option linter.all false
set_option maxRecDepth 100000
set_option maxHeartbeats 4000000
namespace K02
open PySem L2 BF
section
variable {P : Program} {w : World} {K : PySem.W.Frag} {mg : Str → Option Value} {base : Heap} {C aNoTerm aNoPart aFormError : Addr}
/-- what is wanted of an exception: all of G stays -/
def Out (aNoTerm : Addr) (G : Hp) (E : XK) : Prop := ∀ H', Same G H' → E (.ref aNoTerm) none H'
def spBlankX (C aNoTerm : Addr) : Sp := fun vs H Q E => ∃ (p dx b : Addr) (L : Str) (i : Nat) (G : Hp), vs = [.ref p] ∧ H p = some (.ins C dx (fldsR L i b)) ∧ i ≤ L.cps.toList.length ∧ L.cps.toList.length ≤ 30000 ∧ Same G H ∧ G p = none ∧
  ((L.cps.toList.drop i).takeWhile letter ≠ [] → LeafR C H p dx b L (i + ((L.cps.toList.drop i).takeWhile letter).length) (.blank (mkS ((L.cps.toList.drop i).takeWhile letter))) Q) ∧ ((L.cps.toList.drop i).takeWhile letter = [] → Out aNoTerm G E)
theorem ok_blankX {f : Addr} {fd : FuncData} (F : Fun K "blank" "Reader.blank" s_Reader_blank f fd) (R : RT K C) (ER : ErT K mg aNoTerm aNoPart aFormError) (m_letters : Mtd P w K mg base 3 C "letters" ["self"] (spLet C)) : FnOk P w K mg base (CXR P w) 4 f fd ["self"] (spBlankX C aNoTerm) := by
  refine fun_okR F sc_Reader_blank (fun vs H Q E h => ?_) (fun cdv A outer s H vs Q E hr h => ?_)
  · obtain ⟨p, dx, b, L, i, G, rfl, _⟩ := h
    rfl
  obtain ⟨p, dx, b, L, i, G, rfl, hp, hi, hL, hG, hGp, q, hx⟩ := h
  apply let_ts; intro T1
  apply let_ts; intro T2
  refine ⟨_, (pss_cons (ps_set (i := 1) sc_Reader_blank.nd rfl (Or.inl rfl) (pe_mt0 m_letters (hr.mono (by decide)) (pv 0))) (pss_as T2 (pss_cons (ps_if (pt_cmpR op_eq (pv 1) pe_str (nomark _)) (pss_as T1 (pss_one (ps_raise PySem.F.excBase_ValueError ER.ex_NoTerm ER.mg_NoTerm (pa_cons pe_str pa_nil) (fun _ _ _ _ _ _ _ I m q => raise_leaves I m q)))) pss_nil) (pss_one (ps_ret (pe_tup (pa_cons pe_str (pa_cons (pv 1) pa_nil)))))))), ?_⟩
  refine ⟨_, rfl, p, dx, _, rfl, hp, lk_no (by decide +kernel) (by decide +kernel) (by decide +kernel), p, dx, b, L, i, rfl, hp, hi, hL, fun y hy => ?_⟩
  have e0 : (Str.ofString "").cps.toList = [] := by decide +kernel
  have ht : (L.cps.toList.drop i).takeWhile (rg 97 122) = (L.cps.toList.drop i).takeWhile letter := rfl
  rw [ht] at hy ⊢
  generalize (L.cps.toList.drop i).takeWhile letter = tw at hy q hx ⊢
  refine ⟨_, rfl, rfl, _, rfl, ite2 (fun c => ?_) (fun c => ?_)⟩
  · have c' : y = "" := V.str.inj (of_decide_eq_true c)
    rw [c', e0] at hy
    refine ⟨(by show 1 ≤ sizeLine; decide), hx hy.symm _ fun a o e => ?_⟩
    rw [upd_ne (ne_of_none e hGp)]
    exact hG _ _ e
  · have c' : tw ≠ [] := fun z => c (decide_eq_true (by
      have : y = "" := str_ext (by rw [hy, z, e0])
      rw [this]))
    have ey : y = mkS tw := str_ext (by rw [hy, mkS_cps])
    refine ⟨_, rfl, (by show 2 ≤ sizeLine; decide), fun g hg => ?_⟩
    have npg : p ≠ g := fun z => by rw [← z, upd_same] at hg; cases hg
    refine q c' _ _ (fun a o e n => ?_) (by rw [upd_ne npg]; exact upd_same) (termAt_blank.mpr ⟨g, rfl, by rw [upd_same, ey]⟩)
    have hga : a ≠ g := fun z => by rw [z] at e n; rw [upd_ne n, e] at hg; cases hg
    rw [upd_ne hga, upd_ne n]; exact e
def spEndX (C aNoTerm : Addr) : Sp := fun vs H Q E => ∃ (p dx b g l : Addr) (L : Str) (i : Nat) (G : Hp) (bvs dvs : List V) (x : Str) (d : List Tm), vs = [.ref p] ∧ H p = some (.ins C dx (fldsR L i b)) ∧ i ≤ L.cps.toList.length ∧ L.cps.toList.length ≤ 30000 ∧
  Same G H ∧ ((L.cps.toList.drop i).head? ≠ some 41 → Out aNoTerm G E) ∧ H b = some (.lst (bvs ++ [.ref g])) ∧ H g = some (.tup [.str x, .ref l]) ∧ H l = some (.lst dvs) ∧ l ≠ b ∧ TermsAt H dvs d ∧
  ((L.cps.toList.drop i).head? = some 41 → ∀ (v : V) (H' : Hp), (∀ a o, H a = some o → a ≠ p → a ≠ b → H' a = some o) → H' p = some (.ins C dx (fldsR L (i + 1) b)) → H' b = some (.lst bvs) → TermAt H' v (.thing x d) → Q v H')
theorem ok_endedX {f : Addr} {fd : FuncData} (F : Fun K "ended_thing" "Reader.ended_thing" s_Reader_ended_thing f fd) (T : Bi mg) (R : RT K C) (ER : ErT K mg aNoTerm aNoPart aFormError) (m_sign : Mtd P w K mg base 1 C "sign" ["self"] (spSign C)) : FnOk P w K mg base (CXR P w) 2 f fd ["self"] (spEndX C aNoTerm) := by
  refine fun_okR F sc_Reader_ended_thing (fun vs H Q E h => ?_) (fun cdv A outer s H vs Q E hr h => ?_)
  · obtain ⟨p, dx, b, g, l, L, i, G, bvs, dvs, x, d, rfl, _⟩ := h
    rfl
  obtain ⟨p, dx, b, g, l, L, i, G, bvs, dvs, x, d, rfl, hp, hi, hL, hG, hx, hb, hg, hl, nlb, hts, q⟩ := h
  have npb : p ≠ b := ne_of hp hb (by intro z; cases z)
  have npg : p ≠ g := ne_of hp hg (by intro z; cases z)
  have npl : p ≠ l := ne_of hp hl (by intro z; cases z)
  have ngb : g ≠ b := ne_of hg hb (by intro z; cases z)
  apply let_ts; intro T1
  apply let_ts; intro T2
  apply let_ts; intro T3
  apply let_ts; intro T4
  refine ⟨_, (pss_cons (ps_if (pt_cmpR op_ne (pe_mt0 m_sign (hr.mono (by decide)) (pv 0)) pe_str (nomark _)) (pss_as T1 (pss_one (ps_raise PySem.F.excBase_ValueError ER.ex_NoTerm ER.mg_NoTerm (pa_cons pe_str pa_nil) (fun _ _ _ _ _ _ _ I m q => raise_leaves I m q)))) pss_nil) (pss_as T4 (pss_cons (ps_fldaug (pv 0) pe_int in_add) (pss_as T3 (pss_cons (ps_set (i := 1) sc_Reader_ended_thing.nd rfl (Or.inl rfl) (pe_bm0 PySem.F.plainAttrs_list PySem.F.slot_list_pop PySem.F.type_list_pop mt_pop (pe_fld (pv 0) rfl))) (pss_as T2 (pss_one (ps_ret (pe_tup (pa_cons pe_str (pa_cons (pe_ix ix_tup (pv 1) pe_int (fun _ _ => rfl)) (pa_cons (pe_bty call_tuple_of T.b_tuple bt_tuple (pa_cons (pe_ix ix_tup (pv 1) pe_int (fun _ _ => rfl)) pa_nil)) pa_nil)))))))))))), ?_⟩
  have hcl : cutS L i (i + 1) = ")" ↔ (L.cps.toList.drop i).head? = some 41 := by
    have e1 : (cutS L i (i + 1)).cps.toList = (L.cps.toList.drop i).take 1 := by rw [cutS_cps, Nat.add_sub_cancel_left]
    constructor
    · intro z
      rw [z, close_cps] at e1
      cases hd : L.cps.toList.drop i with
      | nil => rw [hd] at e1; simp at e1
      | cons c r => rw [hd] at e1; simp at e1; simp [e1]
    · intro z
      cases hd : L.cps.toList.drop i with
      | nil => rw [hd] at z; simp at z
      | cons c r =>
        rw [hd] at z e1
        simp at z
        exact str_ext (by rw [e1, close_cps, z]; rfl)
  refine ⟨_, rfl, p, dx, _, rfl, hp, lk_no (by decide +kernel) (by decide +kernel) (by decide +kernel), p, dx, b, L, i, rfl, hp, hi, hL, rfl, _, rfl, ite2 (fun c => ⟨(by show 1 ≤ sizeLine; decide), hx (fun z => (by rw [hcl.mpr z] at c; exact absurd c (by decide +kernel))) _ hG⟩) (fun c => ?_)⟩
  have hd : (L.cps.toList.drop i).head? = some 41 := by
    by_cases z : (L.cps.toList.drop i).head? = some 41
    · exact z
    · exact absurd (by rw [Bool.not_eq_true']; exact decide_eq_false (fun y => z (hcl.mp (V.str.inj y)))) c
  refine ⟨_, rfl, p, C, dx, _, _, rfl, hp, R.cl, R.np, lk_place, _, _, rfl, rfl, dx, _, hp, (by show 3 < 1000; decide), ?_⟩
  rw [put_place (j := i + 1) (by omega)]
  refine ⟨_, rfl, p, C, dx, _, _, rfl, upd_same, R.cl, R.nb, lk_begun, .inl ⟨rfl, _, SqL.of (xs := bvs ++ [.ref g]) (by rw [upd_ne npb.symm]; exact hb)⟩, b, bvs ++ [.ref g], .ref g, rfl, rfl, by rw [upd_ne npb.symm]; exact hb, by simp, ?_⟩
  rw [List.dropLast_concat]
  have k1 : TSame H (upd (upd H p (.ins C dx (fldsR L (i + 1) b))) b (.lst bvs)) := fun c xs e => by
    rw [upd_ne (ne_of e hb (by intro z; cases z)), upd_ne (ne_of e hp (by intro z; cases z))]; exact e
  have y1 : ∀ a o, H a = some o → a ≠ p → a ≠ b → upd (upd H p (.ins C dx (fldsR L (i + 1) b))) b (.lst bvs) a = some o := fun a o e n1 n2 => by rw [upd_ne n2, upd_ne n1]; exact e
  have x1 : upd (upd H p (.ins C dx (fldsR L (i + 1) b))) b (.lst bvs) b = some (.lst bvs) := upd_same
  have z1 : upd (upd H p (.ins C dx (fldsR L (i + 1) b))) b (.lst bvs) p = some (.ins C dx (fldsR L (i + 1) b)) := by rw [upd_ne npb]; exact upd_same
  generalize upd (upd H p (.ins C dx (fldsR L (i + 1) b))) b (.lst bvs) = H1 at k1 y1 x1 z1 ⊢
  have hg1 := k1 _ _ hg
  have hl1 := y1 _ _ hl npl.symm nlb
  refine ⟨_, rfl, _, _, _, _, rfl, rfl, SqT.of hg1, rfl, _, rfl, _, _, _, _, rfl, rfl, SqT.of hg1, rfl, l, dvs, rfl, .inl ⟨SqL.of hl1, fun r hr' => ?_⟩⟩
  have s2 := same_new hr' (HO.tup dvs)
  have x2 : upd H1 r (HO.tup dvs) r = some _ := upd_same
  generalize upd H1 r (HO.tup dvs) = H2 at s2 x2 ⊢
  refine ⟨(by show 3 ≤ sizeLine; decide), fun t ht => ?_⟩
  have s3 := same_new ht (HO.tup [.str "thing", .str x, .ref r])
  have x3 : upd H2 t (HO.tup [.str "thing", .str x, .ref r]) t = some _ := upd_same
  generalize upd H2 t (HO.tup [.str "thing", .str x, .ref r]) = H3 at s3 x3 ⊢
  exact q hd _ _ (fun a o e n1 n2 => s3 _ _ (s2 _ _ (y1 a o e n1 n2))) (s3 _ _ (s2 _ _ z1)) (s3 _ _ (s2 _ _ x1)) (termAt_thing.mpr ⟨t, r, dvs, rfl, x3, s3 _ _ x2, (hts.mono k1).mono (.of (s2.trans s3))⟩)
end
end K02
set_option Elab.async false
set_option linter.all false
set_option maxRecDepth 100000
set_option maxHeartbeats 4000000
namespace K02
open PySem L2 BF
section
variable {P : Program} {w : World} {K : PySem.W.Frag} {mg : Str → Option Value} {base : Heap} {C aNoTerm aNoPart aFormError : Addr}
def spNumX (C aNoTerm : Addr) : Sp := fun vs H Q E => ∃ (p dx b : Addr) (L : Str) (i : Nat) (G : Hp), vs = [.ref p] ∧ H p = some (.ins C dx (fldsR L i b)) ∧ i ≤ L.cps.toList.length ∧ L.cps.toList.length ≤ 30000 ∧ Same G H ∧ G p = none ∧
  ((unsg (L.cps.toList.drop i)).takeWhile figure).length ≤ 600 ∧
  (∀ n r, numF (L.cps.toList.drop i) = some (n, r) → LeafR C H p dx b L (i + (sgn (L.cps.toList.drop i)).length + ((unsg (L.cps.toList.drop i)).takeWhile figure).length) (.num n) Q) ∧ (numF (L.cps.toList.drop i) = none → Out aNoTerm G E)
theorem ok_numberX {f : Addr} {fd : FuncData} (F : Fun K "number" "Reader.number" s_Reader_number f fd) (T : Bi mg) (R : RT K C) (ER : ErT K mg aNoTerm aNoPart aFormError) (m_sign : Mtd P w K mg base 1 C "sign" ["self"] (spSign C)) (m_run : Mtd P w K mg base 2 C "run" ["self", "first", "last"] (spRun C)) :
    FnOk P w K mg base (CXR P w) 3 f fd ["self"] (spNumX C aNoTerm) := by
  refine fun_okR F sc_Reader_number (fun vs H Q E h => ?_) (fun cdv A outer s H vs Q E hr h => ?_)
  · obtain ⟨p, dx, b, L, i, G, rfl, _⟩ := h
    rfl
  obtain ⟨p, dx, b, L, i, G, rfl, hp, hi, hL, hG, hGp, hb, q, hx⟩ := h
  have hcut : (cutS L i (i + 1)).cps.toList = (L.cps.toList.drop i).take 1 := by rw [cutS_cps, Nat.add_sub_cancel_left]
  have hsu := sgn_unsg (L.cps.toList.drop i)
  have hfr := tw_dw (p := figure) (unsg (L.cps.toList.drop i))
  have hmin : (Str.ofString "-").cps.toList = [45] := by decide +kernel
  have hsg : sgn (L.cps.toList.drop i) = [] ∨ sgn (L.cps.toList.drop i) = [45] := by unfold sgn; split <;> simp
  have e1 : decide (V.str (cutS L i (i + 1)) = V.str "-") = decide (sgn (L.cps.toList.drop i) = [45]) := by
    have : (V.str (cutS L i (i + 1)) = V.str "-") ↔ sgn (L.cps.toList.drop i) = [45] := by
      unfold sgn
      constructor
      · intro z
        have z' := congrArg (fun x : Str => x.cps.toList) (V.str.inj z)
        simp only [hcut, hmin] at z'
        cases hd : L.cps.toList.drop i with
        | nil => rw [hd] at z'; simp at z'
        | cons c r => rw [hd] at z'; simp at z'; simp [z']
      · intro z
        split at z
        · rename_i y
          congr 1
          refine str_ext ?_
          rw [hcut, hmin]
          cases hd : L.cps.toList.drop i with
          | nil => rw [hd] at y; simp at y
          | cons c r => rw [hd] at y; simp at y; simp [y]
        · simp at z
    rw [decide_eq_decide]
    exact this
  have hlen : (sgn (L.cps.toList.drop i)).length + ((unsg (L.cps.toList.drop i)).takeWhile figure).length + ((unsg (L.cps.toList.drop i)).dropWhile figure).length = L.cps.toList.length - i := by
    rw [← List.length_drop, Nat.add_assoc, ← List.length_append, hfr, ← List.length_append, hsu]
  apply let_ts; intro T1
  apply let_ts; intro T2
  apply let_ts; intro T3
  apply let_ts; intro T4
  apply let_ts; intro T5
  apply let_ts; intro T6
  apply let_ts; intro T7
  apply let_ts; intro T8
  refine ⟨_, (pss_cons (ps_set (i := 1) sc_Reader_number.nd rfl (Or.inl rfl) (pe_fld (pv 0) rfl)) (pss_as T8 (pss_cons (ps_if (pt_cmpR op_eq (pe_mt0 m_sign (hr.mono (by decide)) (pv 0)) pe_str (nomark _)) (pss_one (ps_fldaug (pv 0) pe_int in_add)) pss_nil) (pss_as T7 (pss_cons (ps_set (i := 2) sc_Reader_number.nd rfl (Or.inl rfl) (pe_mt m_run (hr.mono (by decide)) (pv 0) (pa_cons pe_str (pa_cons pe_str pa_nil)))) (pss_as T6 (pss_cons (ps_set (i := 3) sc_Reader_number.nd rfl (Or.inl rfl) (pe_slice sl_str (pe_fld (pv 0) rfl) (po_some (pv 1)) (po_some (pe_fld (pv 0) rfl)))) (pss_as T5 (pss_cons (ps_if (pt_cmpR op_eq (pv 2) pe_str (nomark _)) (pss_as T1 (pss_one (ps_raise PySem.F.excBase_ValueError ER.ex_NoTerm ER.mg_NoTerm (pa_cons pe_str pa_nil) (fun _ _ _ _ _ _ _ I m q => raise_leaves I m q)))) pss_nil) (pss_as T4 (pss_cons (ps_if (pw_and (pt_cmpR op_eq (pe_ix ix_str (pv 2) pe_int (fun _ _ => rfl)) pe_str (nomark _)) (pw_and1 (pt_cmpR op_ne (pv 3) pe_str (nomark _)))).pt (pss_as T2 (pss_one (ps_raise PySem.F.excBase_ValueError ER.ex_NoTerm ER.mg_NoTerm (pa_cons pe_str pa_nil) (fun _ _ _ _ _ _ _ I m q => raise_leaves I m q)))) pss_nil) (pss_as T3 (pss_one (ps_ret (pe_tup (pa_cons pe_str (pa_cons (pe_bty call_int_str T.b_int bt_int (pa_cons (pv 3) pa_nil)) pa_nil))))))))))))))))), ?_⟩
  refine ⟨_, rfl, p, C, dx, _, _, rfl, hp, R.cl, R.np, lk_place, ?_⟩
  have hdj : L.cps.toList.drop (i + (sgn (L.cps.toList.drop i)).length) = unsg (L.cps.toList.drop i) := by
    have e : (sgn (L.cps.toList.drop i) ++ unsg (L.cps.toList.drop i)).drop (sgn (L.cps.toList.drop i)).length = unsg (L.cps.toList.drop i) := List.drop_left
    rw [hsu, List.drop_drop] at e
    exact e
  generalize hsn : sgn (L.cps.toList.drop i) = sg at hsu hsg hlen hdj q e1
  generalize hfg : (unsg (L.cps.toList.drop i)).takeWhile figure = fg at hfr hlen hb q
  generalize hus : unsg (L.cps.toList.drop i) = us at hsu hfr hdj hfg hlen
  show Ends.nx _ _ _
  with_reducible show tSeq _ _ _ _ _
  refine let I1 : L2.St → Hp → Prop := (fun σ H1 => σ = [some (.ref p), some (.int (i : Int)), none, none] ∧ H1 p = some (.ins C dx (fldsR L (i + sg.length) b)) ∧ ∀ a o, H a = some o → a ≠ p → H1 a = some o); tSeq_cut I1 ?_ (fun key => ?_)
  rotate_left
  · refine ⟨_, rfl, p, dx, _, rfl, hp, lk_no (by decide +kernel) (by decide +kernel) (by decide +kernel), p, dx, b, L, i, rfl, hp, hi, hL, rfl, _, rfl, ?_⟩
    rw [e1]
    rcases hsg with z | z
    · refine ite_f (by rw [z]; rfl) (key _ _ ⟨rfl, by rw [z]; exact hp, fun _ _ e _ => e⟩)
    · refine ite_t (by rw [z]; rfl) ?_
      refine ⟨_, rfl, p, C, dx, _, _, rfl, hp, R.cl, R.np, lk_place, _, _, rfl, rfl, dx, _, hp, (by show 3 < 1000; decide), ?_⟩
      rw [put_place (j := i + sg.length) (by rw [z]; simp)]
      exact key _ _ ⟨rfl, upd_same, fun a o e n => by rw [upd_ne n]; exact e⟩
  rintro σ H1 ⟨rfl, hp1, kp1⟩
  refine ⟨_, rfl, p, dx, _, rfl, hp1, lk_no (by decide +kernel) (by decide +kernel) (by decide +kernel), p, dx, b, L, _, _, _, 48, 57, rfl, by decide +kernel, by decide +kernel, hp1, by omega, hL, fun y hy => ?_⟩
  have ht : (L.cps.toList.drop (i + sg.length)).takeWhile (rg 48 57) = fg := by rw [hdj]; exact hfg
  rw [ht] at hy ⊢
  refine ⟨_, rfl, p, C, dx, _, _, rfl, upd_same, R.cl, R.nl, lk_line, _, rfl, _, rfl, _, rfl, p, C, dx, _, _, rfl, upd_same, R.cl, R.np, lk_place, _, rfl, L, i, _, rfl, rfl, rfl, by rw [len_cps]; exact hi, by omega, by rw [len_cps]; exact small (by omega), ?_⟩
  have hw : (cutS L i (i + sg.length + fg.length)).cps.toList = sg ++ fg := by
    rw [cutS_cps, ← hsu, ← hfr, ← List.append_assoc, show i + sg.length + fg.length - i = (sg ++ fg).length by rw [List.length_append]; omega, List.take_left]
  generalize cutS L i (i + sg.length + fg.length) = wr at hw ⊢
  have kp2 : ∀ a o, H a = some o → a ≠ p → upd H1 p (.ins C dx (fldsR L (i + sg.length + fg.length) b)) a = some o := fun a o e na => by rw [upd_ne na]; exact kp1 a o e na
  have hp2 : upd H1 p (.ins C dx (fldsR L (i + sg.length + fg.length) b)) p = some (.ins C dx (fldsR L (i + sg.length + fg.length) b)) := upd_same
  have hG2 : Same G (upd H1 p (.ins C dx (fldsR L (i + sg.length + fg.length) b))) := fun a o e => kp2 a o (hG _ _ e) (ne_of_none e hGp)
  generalize upd H1 p (.ins C dx (fldsR L (i + sg.length + fg.length) b)) = H2 at kp2 hp2 hG2 ⊢
  have e0 : (Str.ofString "").cps.toList = [] := by decide +kernel
  have hz : (Str.ofString "0").cps.toList = [48] := by decide +kernel
  refine ⟨_, rfl, rfl, _, rfl, ite2 (fun c => ?_) (fun c => ?_)⟩
  · have c' : y = "" := V.str.inj (of_decide_eq_true c)
    rw [c', e0] at hy
    refine ⟨(by show 1 ≤ sizeLine; decide), hx ?_ _ hG2⟩
    unfold numF
    rw [hus, hfg, ← hy, if_pos rfl]
  have hfn : fg ≠ [] := fun z => c (decide_eq_true (by
    have : y = "" := str_ext (by rw [hy, z, e0])
    rw [this]))
  have fin : ((fg.head? = some 48 ∧ sg ++ fg ≠ [48]) → False) → ∀ (D : Ends), D.rt = Q → tRet (tTup (tCons (tC (.str "number")) (tCons (tCB (fun xs H Q => ∃ z n, xs = [.str z] ∧ PySem.intText? z = some n ∧ z.length ≤ 640 ∧ Q (.int n) H) (tCons (tVar 3) tNil)) tNil))) D [some (.ref p), some (.int (i : Int)), some (.str y), some (.str wr)] H2 := fun hno D hD => by
    have en : numF (L.cps.toList.drop i) = some (if sg = [] then (NumText.digitsVal fg : Int) else -(NumText.digitsVal fg : Int), (unsg (L.cps.toList.drop i)).dropWhile figure) := by
      unfold numF
      rw [hus, hsn, hfg, if_neg hfn, if_neg hno]
    have hall : NumText.AllDigits fg := fun c hc => by
      rw [← hfg] at hc
      have := tw_all _ c hc
      unfold figure rg at this
      rw [Bool.and_eq_true, decide_eq_true_eq, decide_eq_true_eq] at this
      exact this
    have hit : PySem.intText? wr = some (if sg = [] then (NumText.digitsVal fg : Int) else -(NumText.digitsVal fg : Int)) := by
      rcases hsg with rfl | rfl
      · rw [if_pos rfl]
        rw [List.nil_append] at hw
        have := PySem.intText_digits (x := wr) (by rw [hw]; exact hall) (by rw [hw]; exact hfn) (by rw [len_cps, hw]; omega)
        rw [hw] at this
        exact this
      · rw [if_neg (by simp)]
        exact PySem.intText_neg (x := wr) (cs := fg) hw hall hfn (by rw [len_cps, hw, List.length_append]; simp only [List.length_cons, List.length_nil]; omega)
    refine ⟨_, rfl, wr, _, rfl, hit, by rw [len_cps, hw, List.length_append]; rcases hsg with rfl | rfl <;> simp only [List.length_cons, List.length_nil] <;> omega, (by show 2 ≤ sizeLine; decide), fun g hg => ?_⟩
    rw [hD]
    have npg : p ≠ g := ne_of_none hp2 hg
    refine q _ _ en _ _ (fun a o e na => ?_) (by rw [upd_ne npg]; exact hp2) (termAt_num.mpr ⟨g, rfl, upd_same⟩)
    rw [upd_ne (ne_of_none (kp2 a o e na) hg)]; exact kp2 a o e na
  cases hf : fg with
  | nil => exact absurd hf hfn
  | cons c0 r0 =>
    have hyl := congrArg List.length hy
    refine ⟨_, rfl, y, _, c0, rfl, rfl, by rw [len_cps, hyl]; exact small (by omega), by rw [hy, hf]; exact atI_nat (j := 0) rfl, rfl, _, rfl, ?_⟩
    by_cases h48 : c0 = 48
    · refine ite_t (decide_eq_true (by rw [h48]; congr 1)) ?_
      refine ⟨_, rfl, rfl, _, rfl, ite2 (fun c2 => ?_) (fun c2 => ?_)⟩
      · refine ⟨(by show 1 ≤ sizeLine; decide), hx ?_ _ hG2⟩
        have c2' : sg ++ fg ≠ [48] := fun z => by
          have : wr = "0" := str_ext (by rw [hw, z, hz])
          rw [this] at c2
          exact absurd c2 (by decide +kernel)
        unfold numF
        rw [hus, hsn, hfg, if_neg hfn, if_pos ⟨by rw [hf, h48]; rfl, c2'⟩]
      · refine fin (fun z => c2 ?_) _ rfl
        rw [Bool.not_eq_true']
        refine decide_eq_false fun y2 => z.2 ?_
        have := congrArg (fun x : Str => x.cps.toList) (V.str.inj y2)
        simp only [hw, hz] at this
        exact this
    · refine ite_f (decide_eq_false fun z => h48 ?_) (iteF ?_)
      · have z' := congrArg (fun x : Str => x.cps.toList) (V.str.inj z)
        simp only [hz] at z'
        simpa using z'
      · refine fin (fun z => h48 ?_) _ rfl
        have := z.1
        rw [hf] at this
        simpa using this
end
end K02
set_option Elab.async false
set_option linter.all false
set_option maxRecDepth 100000
set_option maxHeartbeats 4000000
namespace K02
open PySem L2 BF
section
variable {P : Program} {w : World} {K : PySem.W.Frag} {mg : Str → Option Value} {base : Heap} {C aNoTerm aNoPart aFormError : Addr}
def bgF (b : Bg) : List Fm := b.map fun f => ⟨f.1, f.2, []⟩
def bsz : Bg → Nat
  | [] => 0
  | f :: r => 1 + f.2.length + bsz r
theorem len_bsz : ∀ b : Bg, b.length ≤ bsz b
  | [] => Nat.le_refl _
  | f :: r => by have := len_bsz r; simp only [bsz, List.length_cons]; omega
/-- runs of figures are short everywhere -/
def Runs (L : Str) : Prop := ∀ i, ((unsg (L.cps.toList.drop i)).takeWhile figure).length ≤ 600
/-- how the reader lies there: what is begun, behind the place -/
structure RdAt (C : Addr) (H : Hp) (p dx b : Addr) (L : Str) (i : Nat) (bg : Bg) (bvs : List V) (ls : List Addr) : Prop where
  hp : H p = some (.ins C dx (fldsR L i b))
  hi : i ≤ L.cps.toList.length
  hb : H b = some (.lst bvs)
  fr : FrAt H bvs (bgF bg) ls
  nb : b ∉ ls
  sm : bsz bg ≤ i
def spLeafX (C aNoTerm : Addr) : Sp := fun vs H Q E => ∃ (p dx b : Addr) (L : Str) (i : Nat) (G : Hp) (bg : Bg) (bvs : List V) (ls : List Addr), vs = [.ref p] ∧ RdAt C H p dx b L i bg bvs ls ∧ L.cps.toList.length ≤ 30000 ∧ Same G H ∧ G p = none ∧ G b = none ∧ Runs L ∧
  (∀ t k bg', LfR (L.cps.toList.drop i) bg (some (t, k, bg')) → ∀ (v : V) (H' : Hp) (bvs' : List V) (ls' : List Addr) (j : Nat), (∀ a o, H a = some o → a ≠ p → a ≠ b → H' a = some o) → RdAt C H' p dx b L j bg' bvs' ls' → L.cps.toList.drop j = k →
    (∀ l ∈ ls', l ∈ ls ∨ H l = none) → TermAt H' v t → Q v H') ∧ (LfR (L.cps.toList.drop i) bg none → Out aNoTerm G E)
theorem nd_nil : (Str.ofString "").cps.toList = [] := by decide +kernel
theorem cut_head (L : Str) (j c : Nat) (z : Str) (hz : z.cps.toList = [c]) : cutS L j (j + 1) = z ↔ (L.cps.toList.drop j).head? = some c := by
  have e1 : (cutS L j (j + 1)).cps.toList = (L.cps.toList.drop j).take 1 := by rw [cutS_cps, Nat.add_sub_cancel_left]
  constructor
  · intro y
    rw [y, hz] at e1
    cases hd : L.cps.toList.drop j with
    | nil => rw [hd] at e1; simp at e1
    | cons a r => rw [hd] at e1; simp at e1; simp [e1]
  · intro y
    cases hd : L.cps.toList.drop j with
    | nil => rw [hd] at y; simp at y
    | cons a r =>
      rw [hd] at y e1
      simp at y
      exact str_ext (by rw [e1, hz, y]; rfl)
theorem num_drop {l r : List Nat} {n : Int} (h : numF l = some (n, r)) : l.drop ((sgn l).length + ((unsg l).takeWhile figure).length) = r ∧ (sgn l).length + ((unsg l).takeWhile figure).length ≤ l.length := by
  have h1 := sgn_unsg l
  have h2 := tw_dw (p := figure) (unsg l)
  have e : r = (unsg l).dropWhile figure := by
    unfold numF at h
    split at h
    · cases h
    split at h
    · cases h
    cases h
    rfl
  have h3 : sgn l ++ (unsg l).takeWhile figure ++ r = l := by rw [e, List.append_assoc, h2, h1]
  have h4 := congrArg List.length h3
  rw [List.length_append, List.length_append] at h4
  refine ⟨?_, by omega⟩
  have h5 : (sgn l ++ (unsg l).takeWhile figure ++ r).drop ((sgn l).length + ((unsg l).takeWhile figure).length) = r := by
    rw [← List.length_append]; exact List.drop_left
  rw [h3] at h5
  exact h5
theorem ok_leafX {f : Addr} {fd : FuncData} (F : Fun K "leaf" "Reader.leaf" s_Reader_leaf f fd) (R : RT K C) (ER : ErT K mg aNoTerm aNoPart aFormError) (m_sign : Mtd P w K mg base 1 C "sign" ["self"] (spSign C)) (m_letters : Mtd P w K mg base 3 C "letters" ["self"] (spLet C))
    (m_blank : MtdX P w K mg base 4 C "blank" ["self"] (spBlankX C aNoTerm)) (m_number : MtdX P w K mg base 3 C "number" ["self"] (spNumX C aNoTerm)) : FnOk P w K mg base (CXR P w) 5 f fd ["self"] (spLeafX C aNoTerm) := by
  refine fun_okR F sc_Reader_leaf (fun vs H Q E h => ?_) (fun cdv A outer s H vs Q E hr h => ?_)
  · obtain ⟨p, dx, b, L, i, G, bg, bvs, ls, rfl, _⟩ := h
    rfl
  obtain ⟨p, dx, b, L, i, G, bg, bvs, ls, rfl, ⟨hp, hi, hb, hfr, hbl, hsm⟩, hL, hG, hGp, hGb, hru, q, hx⟩ := h
  have npb : p ≠ b := ne_of hp hb (by intro z; cases z)
  apply let_ts; intro T1
  apply let_ts; intro T2
  apply let_ts; intro T3
  apply let_ts; intro T4
  apply let_ts; intro T5
  refine ⟨_, (pss_cons (ps_set (i := 1) sc_Reader_leaf.nd rfl (Or.inl rfl) (pe_mt0 m_letters (hr.mono (by decide)) (pv 0))) (pss_as T5 (pss_cons (ps_while PassesOwn.leaving (pw_and (pt_cmpR op_ne (pv 1) pe_str (nomark _)) (pw_and1 (pt_cmpR op_eq (pe_mt0 m_sign (hr.mono (by decide)) (pv 0)) pe_str (nomark _)))).pt (pss_as T2 (pss_cons (ps_fldaug (pv 0) pe_int in_add) (pss_as T1 (pss_cons (ps_expr (pe_bm PySem.F.plainAttrs_list PySem.F.slot_list_append PySem.F.type_list_append mt_append (pe_fld (pv 0) rfl) (pa_cons (pe_tup (pa_cons (pv 1) (pa_cons (pe_lst pa_nil) pa_nil))) pa_nil))) (pss_one (ps_set (i := 1) sc_Reader_leaf.nd rfl (Or.inl rfl) (pe_mt0 m_letters (hr.mono (by decide)) (pv 0))))))))) (pss_as T4 (pss_cons (ps_if (pt_cmpR op_ne (pv 1) pe_str (nomark _)) (pss_one (ps_ret (pe_tup (pa_cons pe_str (pa_cons (pv 1) pa_nil))))) pss_nil) (pss_as T3 (pss_cons (ps_if (pt_cmpR op_eq (pe_mt0 m_sign (hr.mono (by decide)) (pv 0)) pe_str (nomark _)) (pss_cons (ps_fldaug (pv 0) pe_int in_add) (pss_one (ps_ret (pe_mx0 m_blank (hr.mono (by decide)) (pv 0))))) pss_nil) (pss_one (ps_ret (pe_mx0 m_number (hr.mono (by decide)) (pv 0))))))))))), ?_⟩
  refine ⟨_, rfl, p, dx, _, rfl, hp, lk_no (by decide +kernel) (by decide +kernel) (by decide +kernel), p, dx, b, L, i, rfl, hp, hi, hL, fun x hx0 => ?_⟩
  have twl : ∀ j, j ≤ L.cps.toList.length → j + ((L.cps.toList.drop j).takeWhile letter).length ≤ L.cps.toList.length := fun j hj => by
    have := tw_le (p := letter) (L.cps.toList.drop j)
    rw [List.length_drop] at this
    omega
  have dwl : ∀ j, L.cps.toList.drop (j + ((L.cps.toList.drop j).takeWhile letter).length) = (L.cps.toList.drop j).dropWhile letter := fun j => by
    rw [← List.drop_drop]
    have e := tw_dw (p := letter) (L.cps.toList.drop j)
    conv => lhs; arg 2; rw [← e]
    exact List.drop_left
  refine ⟨fun m σ H1 => ∃ (bg' : Bg) (bvs' : List V) (ls' : List Addr) (j : Nat) (x : Str), σ = [some (.ref p), some (.str x)] ∧ x.cps.toList = (L.cps.toList.drop j).takeWhile letter ∧ m = L.cps.toList.length - j ∧ j ≤ L.cps.toList.length ∧
      RdAt C H1 p dx b L (j + ((L.cps.toList.drop j).takeWhile letter).length) bg' bvs' ls' ∧ bsz bg' ≤ j ∧ (∀ l ∈ ls', l ∈ ls ∨ H l = none) ∧ (∀ a o, H a = some o → a ≠ p → a ≠ b → H1 a = some o) ∧ ∀ res, LfR (L.cps.toList.drop j) bg' res → LfR (L.cps.toList.drop i) bg res,
    ⟨_, bg, bvs, ls, i, x, rfl, hx0, rfl, hi, ⟨upd_same, twl i hi, by rw [upd_ne npb.symm]; exact hb, hfr.mono (fun c xs e => by rw [upd_ne (ne_of e hp (by intro z; cases z))]; exact e) (fun l hl => ?_), hbl, by omega⟩, hsm, fun l hl => .inl hl, fun a o e n1 n2 => by rw [upd_ne n1]; exact e, fun _ h => h⟩, ?_⟩
  · obtain ⟨dvs, e⟩ := hfr.lst l hl
    rw [upd_ne (ne_of e hp (by intro z; cases z))]
  rintro m σ H1 ⟨bg', bvs', ls', j0, x', rfl, hx', rfl, hj0, ⟨hp1, hj, hb1, hfr1, hbl1, hsm1⟩, hsj, hlf1, kp1, hrel⟩
  have hdw := dwl j0
  generalize hjj : j0 + ((L.cps.toList.drop j0).takeWhile letter).length = j at hp1 hj hsm1 hdw
  have hfl1 := hfr1.len
  have hlb := len_bsz bg'
  have hbl' : (bgF bg').length = bg'.length := by unfold bgF; rw [List.length_map]
  have G1 : Same G H1 := fun a o e => kp1 a o (hG _ _ e) (ne_of_none e hGp) (ne_of_none e hGb)
  by_cases hxe : x' = ""
  · -- no letters
    have htw : (L.cps.toList.drop j0).takeWhile letter = [] := by rw [← hx', hxe, nd_nil]
    have ejj : j = j0 := by rw [htw] at hjj; simpa using hjj.symm
    subst ejj
    have hnv : (!decide (V.str x' = V.str "")) = false := by rw [hxe]; decide +kernel
    refine ⟨_, rfl, rfl, _, rfl, ite_f hnv ?_⟩
    refine iteF ?_
    refine ⟨_, rfl, rfl, _, rfl, ite_f hnv ?_⟩
    by_cases h63 : (L.cps.toList.drop j).head? = some 63
    · -- a blank
      have hd63 : L.cps.toList.drop j = 63 :: L.cps.toList.drop (j + 1) := by
        rw [← List.drop_drop]
        cases hd : L.cps.toList.drop j with
        | nil => rw [hd] at h63; simp at h63
        | cons c r => rw [hd] at h63; simp at h63; simp [h63]
      have hjl : j < L.cps.toList.length := by
        have := congrArg List.length hd63
        rw [List.length_drop, List.length_cons] at this
        omega
      refine ⟨_, rfl, p, dx, _, rfl, hp1, lk_no (by decide +kernel) (by decide +kernel) (by decide +kernel), p, dx, b, L, j, rfl, hp1, hj, hL, rfl, _, rfl, ite_t (decide_eq_true (congrArg V.str ((cut_head L j 63 _ quest_cps).mpr h63))) ?_⟩
      refine ⟨_, rfl, p, C, dx, _, _, rfl, hp1, R.cl, R.np, lk_place, _, _, rfl, rfl, dx, _, hp1, (by show 3 < 1000; decide), ?_⟩
      rw [put_place (j := j + 1) (by omega)]
      have x2 : upd H1 p (.ins C dx (fldsR L (j + 1) b)) p = some _ := upd_same
      have y2 : ∀ a o, H1 a = some o → a ≠ p → upd H1 p (.ins C dx (fldsR L (j + 1) b)) a = some o := fun a o e n => by rw [upd_ne n]; exact e
      generalize upd H1 p (.ins C dx (fldsR L (j + 1) b)) = H2 at x2 y2 ⊢
      refine ⟨_, rfl, p, dx, _, rfl, x2, lk_no (by decide +kernel) (by decide +kernel) (by decide +kernel), p, dx, b, L, j + 1, G, rfl, x2, by omega, hL, fun a o e => y2 _ _ (G1 _ _ e) (ne_of_none e hGp), hGp, fun hne v H3 kp3 hp3 ht3 => ?_, fun hno => hx (hrel _ (.noblank hd63 hno))⟩
      have all3 : ∀ a o, H1 a = some o → a ≠ p → H3 a = some o := fun a o e n => kp3 a o (y2 a o e n) n
      refine q _ _ _ (hrel _ (.blank hd63 hne)) v H3 bvs' ls' _ (fun a o e n1 n2 => all3 a o (kp1 a o e n1 n2) n1) ⟨hp3, twl (j + 1) (by omega), all3 _ _ hb1 npb.symm, hfr1.mono (fun c xs e => all3 _ _ e (ne_of e hp1 (by intro z; cases z))) (fun l hl => ?_), hbl1, by omega⟩ (dwl (j + 1)) hlf1 ht3
      obtain ⟨dvs, e⟩ := hfr1.lst l hl
      rw [e]; exact all3 _ _ e (ne_of e hp1 (by intro z; cases z))
    · -- a number
      refine ⟨_, rfl, p, dx, _, rfl, hp1, lk_no (by decide +kernel) (by decide +kernel) (by decide +kernel), p, dx, b, L, j, rfl, hp1, hj, hL, rfl, _, rfl, ite_f (decide_eq_false fun z => h63 ((cut_head L j 63 _ quest_cps).mp (V.str.inj z))) ?_⟩
      refine ⟨_, rfl, p, dx, _, rfl, hp1, lk_no (by decide +kernel) (by decide +kernel) (by decide +kernel), p, dx, b, L, j, G, rfl, hp1, hj, hL, G1, hGp, hru j, fun n r hn v H3 kp3 hp3 ht3 => ?_, fun hno => hx (hrel _ (.nonum htw h63 hno))⟩
      obtain ⟨d1, d2⟩ := num_drop hn
      rw [List.drop_drop] at d1
      rw [List.length_drop] at d2
      refine q _ _ _ (hrel _ (.num htw h63 hn)) v H3 bvs' ls' _ (fun a o e n1 n2 => kp3 a o (kp1 a o e n1 n2) n1) ⟨hp3, by omega, kp3 _ _ hb1 npb.symm, hfr1.mono (fun c xs e => kp3 _ _ e (ne_of e hp1 (by intro z; cases z))) (fun l hl => ?_), hbl1, by omega⟩ (by rw [Nat.add_assoc]; exact d1) hlf1 ht3
      obtain ⟨dvs, e⟩ := hfr1.lst l hl
      rw [e]; exact kp3 _ _ e (ne_of e hp1 (by intro z; cases z))
  · have htw : (L.cps.toList.drop j0).takeWhile letter ≠ [] := fun z => hxe (str_ext (by rw [hx', z, nd_nil]))
    have hnv : (!decide (V.str x' = V.str "")) = true := by rw [Bool.not_eq_true', decide_eq_false_iff_not]; exact fun z => hxe (V.str.inj z)
    have exm : mkS ((L.cps.toList.drop j0).takeWhile letter) = x' := str_ext (by rw [mkS_cps, hx'])
    refine ⟨_, rfl, rfl, _, rfl, ite_t hnv ?_⟩
    by_cases h40 : (L.cps.toList.drop j).head? = some 40
    · -- a thing begins
      have hd40 : L.cps.toList.drop j = 40 :: L.cps.toList.drop (j + 1) := by
        rw [← List.drop_drop]
        cases hd : L.cps.toList.drop j with
        | nil => rw [hd] at h40; simp at h40
        | cons c r => rw [hd] at h40; simp at h40; simp [h40]
      have hjl : j < L.cps.toList.length := by
        have := congrArg List.length hd40
        rw [List.length_drop, List.length_cons] at this
        omega
      have hjz : j0 < j := by
        have : 0 < ((L.cps.toList.drop j0).takeWhile letter).length := List.length_pos_iff.mpr htw
        omega
      refine ⟨_, rfl, p, dx, _, rfl, hp1, lk_no (by decide +kernel) (by decide +kernel) (by decide +kernel), p, dx, b, L, j, rfl, hp1, hj, hL, rfl, _, rfl, ite_t (decide_eq_true (congrArg V.str ((cut_head L j 40 _ open_cps).mpr h40))) ⟨_, fun _ _ h => h, ?_⟩⟩
      refine ⟨_, rfl, p, C, dx, _, _, rfl, hp1, R.cl, R.np, lk_place, _, _, rfl, rfl, dx, _, hp1, (by show 3 < 1000; decide), ?_⟩
      rw [put_place (j := j + 1) (by omega)]
      have k2 : TSame H1 (upd H1 p (.ins C dx (fldsR L (j + 1) b))) := fun c xs e => by rw [upd_ne (ne_of e hp1 (by intro z; cases z))]; exact e
      have x2 : upd H1 p (.ins C dx (fldsR L (j + 1) b)) p = some _ := upd_same
      have y2 : ∀ a o, H1 a = some o → a ≠ p → upd H1 p (.ins C dx (fldsR L (j + 1) b)) a = some o := fun a o e n => by rw [upd_ne n]; exact e
      have z2 : ∀ l ∈ ls', upd H1 p (.ins C dx (fldsR L (j + 1) b)) l = H1 l := fun l hl => by
        obtain ⟨dvs, e⟩ := hfr1.lst l hl
        rw [upd_ne (ne_of e hp1 (by intro z; cases z))]
      generalize upd H1 p (.ins C dx (fldsR L (j + 1) b)) = H2 at k2 x2 y2 z2 ⊢
      have hb2 := y2 _ _ hb1 npb.symm
      have hfr2 := hfr1.mono k2 z2
      refine ⟨_, rfl, p, C, dx, _, _, rfl, x2, R.cl, R.nb, lk_begun, .inl ⟨rfl, _, SqL.of hb2⟩, _, rfl, (by show 0 ≤ sizeLine; decide), fun l hl => ?_⟩
      have s3 := same_new hl (HO.lst [])
      have x3 : upd H2 l (HO.lst []) l = some _ := upd_same
      generalize upd H2 l (HO.lst []) = H3 at s3 x3 ⊢
      refine ⟨(by show 2 ≤ sizeLine; decide), fun g hg => ?_⟩
      have s4 := same_new hg (HO.tup [.str x', .ref l])
      have x4 : upd H3 g (HO.tup [.str x', .ref l]) g = some _ := upd_same
      generalize upd H3 g (HO.tup [.str x', .ref l]) = H4 at s4 x4 ⊢
      have s24 : Same H2 H4 := s3.trans s4
      have hb4 := s24 _ _ hb2
      have nlb : l ≠ b := (ne_of_none hb2 hl).symm
      have hll : l ∉ ls' := fun z => by
        obtain ⟨dvs, e⟩ := hfr2.lst l z
        rw [hl] at e; cases e
      refine ⟨b, bvs', _, rfl, rfl, hb4, big (by omega), ?_⟩
      have k5 : TSame H4 (upd H4 b (.lst (bvs' ++ [.ref g]))) := .lst hb4
      have x5 : upd H4 b (.lst (bvs' ++ [.ref g])) b = some _ := upd_same
      have y5 : ∀ a o, H4 a = some o → a ≠ b → upd H4 b (.lst (bvs' ++ [.ref g])) a = some o := fun a o e n => by rw [upd_ne n]; exact e
      have z5 : ∀ l' ∈ ls', upd H4 b (.lst (bvs' ++ [.ref g])) l' = H2 l' := fun l' hl' => by
        obtain ⟨dvs, e⟩ := hfr2.lst l' hl'
        have nb : l' ≠ b := fun z => hbl1 (by rw [← z]; exact hl')
        rw [upd_ne nb, e]; exact s24 _ _ e
      generalize upd H4 b (.lst (bvs' ++ [.ref g])) = H5 at k5 x5 y5 z5 ⊢
      have hp5 := y5 _ _ (s24 _ _ x2) npb
      have hfr5 : FrAt H5 (bvs' ++ [.ref g]) (⟨x', [], []⟩ :: bgF bg') (l :: ls') :=
        .cons (k5 _ _ x4) (y5 _ _ (s4 _ _ x3) nlb) TermsAt.nil hll (hfr2.mono (fun c xs e => k5 _ _ (s24 _ _ e)) z5)
      refine ⟨_, rfl, p, dx, _, rfl, hp5, lk_no (by decide +kernel) (by decide +kernel) (by decide +kernel), p, dx, b, L, j + 1, rfl, hp5, by omega, hL, fun x6 hx6 => ?_⟩
      refine ⟨L.cps.toList.length - (j + 1), by omega, (x', []) :: bg', bvs' ++ [.ref g], l :: ls', j + 1, x6, rfl, hx6, rfl, by omega, ⟨upd_same, twl (j + 1) (by omega), by rw [upd_ne npb.symm]; exact x5,
        FrAt.mono (fun c xs e => by rw [upd_ne (ne_of e hp5 (by intro z; cases z))]; exact e) hfr5 (fun l' hl' => ?_), ?_, by simp only [bsz, List.length_nil]; omega⟩, by simp only [bsz, List.length_nil]; omega, ?_, fun a o e n1 n2 => by rw [upd_ne n1]; exact y5 _ _ (s24 _ _ (y2 _ _ (kp1 a o e n1 n2) n1)) n2, fun res h => hrel _ (.more htw (by rw [← hdw]; exact hd40) (by rw [exm]; exact h))⟩
      · obtain ⟨dvs, e⟩ := hfr5.lst l' hl'
        rw [upd_ne (ne_of e hp5 (by intro z; cases z))]
      · intro z
        rcases List.mem_cons.mp z with z | z
        · exact nlb z.symm
        · exact hbl1 z
      · intro l' hl'
        rcases List.mem_cons.mp hl' with rfl | hl'
        · refine .inr ?_
          cases e : H l' with
          | none => rfl
          | some o =>
            have nlp : l' ≠ p := (ne_of_none x2 hl).symm
            rw [y2 _ _ (kp1 _ _ e nlp nlb) nlp] at hl
            cases hl
        · exact hlf1 l' hl'
    · -- a name
      refine ⟨_, rfl, p, dx, _, rfl, hp1, lk_no (by decide +kernel) (by decide +kernel) (by decide +kernel), p, dx, b, L, j, rfl, hp1, hj, hL, rfl, _, rfl, ite_f (decide_eq_false fun z => h40 ((cut_head L j 40 _ open_cps).mp (V.str.inj z))) ?_⟩
      refine ⟨_, rfl, rfl, _, rfl, ite_t hnv ?_⟩
      refine ⟨_, rfl, (by show 2 ≤ sizeLine; decide), fun g hg => ?_⟩
      have s4 := same_new hg (HO.tup [.str "name", .str x'])
      have x4 : upd H1 g (HO.tup [.str "name", .str x']) g = some _ := upd_same
      generalize upd H1 g (HO.tup [.str "name", .str x']) = H4 at s4 x4 ⊢
      have hlf : LfR (L.cps.toList.drop j0) bg' (some (.name (mkS ((L.cps.toList.drop j0).takeWhile letter)), (L.cps.toList.drop j0).dropWhile letter, bg')) := .name htw (by rw [← hdw]; exact h40)
      rw [exm, ← hdw] at hlf
      refine q _ _ _ (hrel _ hlf) _ H4 bvs' ls' j (fun a o e n1 n2 => s4 _ _ (kp1 a o e n1 n2)) ⟨s4 _ _ hp1, hj, s4 _ _ hb1, hfr1.mono (.of s4) fun l hl => ?_, hbl1, hsm1⟩ rfl hlf1 (termAt_name.mpr ⟨g, rfl, x4⟩)
      obtain ⟨dvs, e⟩ := hfr1.lst l hl
      rw [e]; exact s4 _ _ e
end
end K02
set_option Elab.async false
set_option linter.all false
set_option maxRecDepth 100000
set_option maxHeartbeats 4000000
namespace K02
open PySem L2 BF
section
variable {P : Program} {w : World} {K : PySem.W.Frag} {mg : Str → Option Value} {base : Heap} {C aNoTerm aNoPart aFormError : Addr}
theorem dw_len {p : Nat → Bool} (l : List Nat) : (l.dropWhile p).length ≤ l.length := by
  have := congrArg List.length (tw_dw (p := p) l)
  rw [List.length_append] at this
  omega
theorem lf_len {k : List Nat} {b : Bg} {res : Option (Tm × List Nat × Bg)} (h : LfR k b res) : ∀ t r b', res = some (t, r, b') → r.length ≤ k.length := by
  induction h with
  | more h1 h2 _ ih =>
    rename_i k r b res h3
    intro t r' b' e
    have := ih t r' b' e
    have := congrArg List.length h2
    rw [List.length_cons] at this
    have := dw_len (p := letter) k
    omega
  | name h1 h2 => intro t r' b' e; cases e; exact dw_len _
  | blank h1 h2 => intro t r' b' e; cases e; subst h1; exact Nat.le_succ_of_le (dw_len _)
  | noblank h1 h2 => intro t r' b' e; cases e
  | num h1 h2 h3 =>
    intro t r' b' e
    cases e
    have := congrArg List.length (num_sound h3)
    rw [List.length_append] at this
    omega
  | nonum h1 h2 h3 => intro t r' b' e; cases e
def spWholeX (C aNoTerm : Addr) : Sp := fun vs H Q E => ∃ (p dx b : Addr) (L : Str) (G : Hp), vs = [.ref p] ∧ H p = some (.ins C dx (fldsR L 0 b)) ∧ H b = some (.lst []) ∧ L.cps.toList.length ≤ 30000 ∧ Same G H ∧ G p = none ∧ G b = none ∧ Runs L ∧
  (∀ t, RdR L.cps.toList (some t) → ∀ (v : V) (H' : Hp), Same G H' → TermAt H' v t → Q v H') ∧ (RdR L.cps.toList none → Out aNoTerm G E)
theorem ok_wholeX {f : Addr} {fd : FuncData} (F : Fun K "whole" "Reader.whole" s_Reader_whole f fd) (T : Bi mg) (R : RT K C) (ER : ErT K mg aNoTerm aNoPart aFormError) (m_sign : Mtd P w K mg base 1 C "sign" ["self"] (spSign C)) (m_leaf : MtdX P w K mg base 5 C "leaf" ["self"] (spLeafX C aNoTerm))
    (m_ended_thing : MtdX P w K mg base 2 C "ended_thing" ["self"] (spEndX C aNoTerm)) : FnOk P w K mg base (CXR P w) 6 f fd ["self"] (spWholeX C aNoTerm) := by
  refine fun_okR F sc_Reader_whole (fun vs H Q E h => ?_) (fun cdv A outer s H vs Q E hr h => ?_)
  · obtain ⟨p, dx, b, L, G, rfl, _⟩ := h
    rfl
  obtain ⟨p, dx, b, L, G, rfl, hp, hb, hLl, hG, hGp, hGb, hru, q, hx⟩ := h
  have npb : p ≠ b := ne_of hp hb (by intro z; cases z)
  apply let_ts; intro T1
  apply let_ts; intro T2
  apply let_ts; intro T3
  apply let_ts; intro T4
  apply let_ts; intro T5
  apply let_ts; intro T6
  refine ⟨_, (pss_cons (ps_set (i := 1) sc_Reader_whole.nd rfl (Or.inl rfl) (pe_mx0 m_leaf (hr.mono (by decide)) (pv 0))) (pss_as T6 (pss_cons (ps_while PassesOwn.leaving (pt_truth (pe_fld (pv 0) rfl) (fun _ => rfl)) (pss_as T3 (pss_cons (ps_expr (pe_bm PySem.F.plainAttrs_list PySem.F.slot_list_append PySem.F.type_list_append mt_append (pe_ix ix_tup (pe_ix ix_list (pe_fld (pv 0) rfl) (pe_un un_neg pe_int) (fun _ _ => rfl)) pe_int (fun _ _ => rfl)) (pa_cons (pv 1) pa_nil))) (pss_as T2 (pss_one (ps_if (pt_cmpR op_eq (pe_mt0 m_sign (hr.mono (by decide)) (pv 0)) pe_str (nomark _)) (pss_as T1 (pss_cons (ps_fldaug (pv 0) pe_int in_add) (pss_one (ps_set (i := 1) sc_Reader_whole.nd rfl (Or.inl rfl) (pe_mx0 m_leaf (hr.mono (by decide)) (pv 0)))))) (pss_one (ps_set (i := 1) sc_Reader_whole.nd rfl (Or.inl rfl) (pe_mx0 m_ended_thing (hr.mono (by decide)) (pv 0)))))))))) (pss_as T5 (pss_cons (ps_if (pt_cmpR op_lt (pe_fld (pv 0) rfl) (pe_blt call_len_str T.b_len bt_len (pa_cons (pe_fld (pv 0) rfl) pa_nil)) (nomark _)) (pss_as T4 (pss_one (ps_raise PySem.F.excBase_ValueError ER.ex_NoTerm ER.mg_NoTerm (pa_cons pe_str pa_nil) (fun _ _ _ _ _ _ _ I m q => raise_leaves I m q)))) pss_nil) (pss_one (ps_ret (pv 1)))))))), ?_⟩
  refine ⟨_, rfl, p, dx, _, rfl, hp, lk_no (by decide +kernel) (by decide +kernel) (by decide +kernel), p, dx, b, L, 0, G, [], [], [], rfl, ⟨hp, Nat.zero_le _, hb, .nil, by simp, Nat.zero_le _⟩, hLl, hG, hGp, hGb, hru,
    fun t1 k1 bg1 hl1 v1 H1 bvs1 ls1 j1 kp1 rd1 hk1 hlf1 ht1 => ?_, fun hno => hx (.no hno)⟩
  refine ⟨fun m σ H2 => ∃ (v : V) (t : Tm) (bg : Bg) (bvs : List V) (ls : List Addr) (j : Nat), σ = [some (.ref p), some v] ∧ m = L.cps.toList.length - j ∧ Same G H2 ∧ RdAt C H2 p dx b L j bg bvs ls ∧ (∀ l ∈ ls, G l = none) ∧ TermAt H2 v t ∧ (∀ res, WhR t (L.cps.toList.drop j) bg res → RdR L.cps.toList res),
    ⟨_, v1, t1, bg1, bvs1, ls1, j1, rfl, rfl, fun a o e => kp1 a o (hG _ _ e) (ne_of_none e hGp) (ne_of_none e hGb), rd1, fun l hl => ?_, ht1, fun res h => .yes hl1 (by rw [← hk1]; exact h)⟩, ?_⟩
  · rcases hlf1 l hl with z | z
    · simp at z
    · cases e : G l with
      | none => rfl
      | some o => rw [hG _ _ e] at z; cases z
  rintro m σ H2 ⟨v, c, bg, bvs, ls, j, rfl, rfl, hG2, ⟨hp2, hj, hb2, hfr, hbl, hsm⟩, hlf, ht, hrel⟩
  refine ⟨_, rfl, p, C, dx, _, _, rfl, hp2, R.cl, R.nb, lk_begun, _, .inl ⟨bvs, SqL.of hb2, rfl⟩, ite2 (fun cc => ⟨_, fun _ _ h => h, ?_⟩) (fun cc => ?_)⟩
  · -- a turn
    cases bg with
    | nil =>
      have := hfr.len.1
      rw [List.length_eq_zero_iff.mp this] at cc
      exact absurd cc (by decide)
    | cons fm bg0 =>
      obtain ⟨fw, fd'⟩ := fm
      cases hfr with
      | @cons bvs0 g l dvs fm fr0 ls0 hg hl hdv hll0 hfr0 =>
        simp only at hg hdv
        have nlb : l ≠ b := fun z => hbl (by rw [← z]; simp)
        have hbl0 : b ∉ ls0 := fun z => hbl (by simp [z])
        have npl : p ≠ l := ne_of hp2 hl (by intro z; cases z)
        have hdvl := hdv.len
        simp only [bsz] at hsm
        refine ⟨_, rfl, p, C, dx, _, _, rfl, hp2, R.cl, R.nb, lk_begun, _, rfl, b, _, _, .ref g, rfl, rfl, SqL.of hb2, atI_last _ _, _, _, _, _, rfl, rfl, SqT.of hg, rfl, .inl ⟨rfl, _, SqL.of hl⟩, _, rfl, l, dvs, v, rfl, rfl, hl, big (by omega), ?_⟩
        have k3 : TSame H2 (upd H2 l (.lst (dvs ++ [v]))) := .lst hl
        have x3 : upd H2 l (.lst (dvs ++ [v])) l = some _ := upd_same
        have y3 : ∀ a o, H2 a = some o → a ≠ l → upd H2 l (.lst (dvs ++ [v])) a = some o := fun a o e n => by rw [upd_ne n]; exact e
        have z3 : ∀ l' ∈ ls0, upd H2 l (.lst (dvs ++ [v])) l' = H2 l' := fun l' hl' => upd_ne fun z => hll0 (by rw [← z]; exact hl')
        generalize upd H2 l (.lst (dvs ++ [v])) = H3 at k3 x3 y3 z3 ⊢
        have hp3 := y3 _ _ hp2 npl
        have hb3 := y3 _ _ hb2 nlb.symm
        have hdv3 : TermsAt H3 (dvs ++ [v]) (fd' ++ [c]) := (hdv.mono k3).app (.cons (ht.mono k3) .nil)
        have hfr3 := hfr0.mono k3 z3
        have hGl : G l = none := hlf l (by simp)
        have hG3 : Same G H3 := fun a o e => y3 _ _ (hG2 _ _ e) (ne_of_none e hGl)
        have hlf0 : ∀ l' ∈ ls0, G l' = none := fun l' hl' => hlf l' (by simp [hl'])
        by_cases h44 : (L.cps.toList.drop j).head? = some 44
        · have hd44 : L.cps.toList.drop j = 44 :: L.cps.toList.drop (j + 1) := by
            rw [← List.drop_drop]
            cases hd : L.cps.toList.drop j with
            | nil => rw [hd] at h44; simp at h44
            | cons a r => rw [hd] at h44; simp at h44; simp [h44]
          have hjl : j < L.cps.toList.length := by
            have := congrArg List.length hd44
            rw [List.length_drop, List.length_cons] at this
            omega
          refine ⟨_, rfl, p, dx, _, rfl, hp3, lk_no (by decide +kernel) (by decide +kernel) (by decide +kernel), p, dx, b, L, j, rfl, hp3, hj, hLl, rfl, _, rfl, ite_t (decide_eq_true (congrArg V.str ((cut_head L j 44 _ comma_cps).mpr h44))) ?_⟩
          refine ⟨_, rfl, p, C, dx, _, _, rfl, hp3, R.cl, R.np, lk_place, _, _, rfl, rfl, dx, _, hp3, (by show 3 < 1000; decide), ?_⟩
          rw [put_place (j := j + 1) (by omega)]
          have k4 : TSame H3 (upd H3 p (.ins C dx (fldsR L (j + 1) b))) := fun a xs e => by rw [upd_ne (ne_of e hp3 (by intro z; cases z))]; exact e
          have x4 : upd H3 p (.ins C dx (fldsR L (j + 1) b)) p = some _ := upd_same
          have y4 : ∀ a o, H3 a = some o → a ≠ p → upd H3 p (.ins C dx (fldsR L (j + 1) b)) a = some o := fun a o e n => by rw [upd_ne n]; exact e
          have z4 : ∀ l' ∈ ls0, upd H3 p (.ins C dx (fldsR L (j + 1) b)) l' = H3 l' := fun l' hl' => by
            obtain ⟨dvs', e⟩ := hfr3.lst l' hl'
            rw [upd_ne (ne_of e hp3 (by intro z; cases z))]
          generalize upd H3 p (.ins C dx (fldsR L (j + 1) b)) = H4 at k4 x4 y4 z4 ⊢
          have hG4 : Same G H4 := fun a o e => y4 _ _ (hG3 _ _ e) (ne_of_none e hGp)
          have hfr4 : FrAt H4 (bvs0 ++ [.ref g]) (⟨fw, fd' ++ [c], []⟩ :: bgF bg0) (l :: ls0) :=
            .cons (k4 _ _ (k3 _ _ hg)) (y4 _ _ x3 npl.symm) (hdv3.mono k4) hll0 (FrAt.mono k4 hfr3 z4)
          refine ⟨_, rfl, p, dx, _, rfl, x4, lk_no (by decide +kernel) (by decide +kernel) (by decide +kernel), p, dx, b, L, j + 1, G, (fw, fd' ++ [c]) :: bg0, _, l :: ls0, rfl,
            ⟨x4, by omega, y4 _ _ hb3 npb.symm, hfr4, hbl, by simp only [bsz, List.length_append, List.length_cons, List.length_nil]; omega⟩, hLl, hG4, hGp, hGb, hru, fun t5 k5 bg5 hl5 v5 H5 bvs5 ls5 j5 kp5 rd5 hk5 hlf5 ht5 => ?_, fun hno => hx (hrel _ (by rw [hd44]; exact .nocomma hno))⟩
          have hlt := lf_len hl5 _ _ _ rfl
          have hj5 := rd5.hi
          rw [← hk5, List.length_drop, List.length_drop] at hlt
          refine ⟨L.cps.toList.length - j5, by omega, v5, t5, bg5, bvs5, ls5, j5, rfl, rfl, fun a o e => kp5 _ _ (hG4 _ _ e) (ne_of_none e hGp) (ne_of_none e hGb), rd5, fun l' hl' => ?_, ht5, fun res h => hrel _ (by rw [hd44]; exact .comma hl5 (by rw [← hk5]; exact h))⟩
          rcases hlf5 l' hl' with z | z
          · exact hlf l' z
          · cases e : G l' with
            | none => rfl
            | some o => rw [hG4 _ _ e] at z; cases z
        · refine ⟨_, rfl, p, dx, _, rfl, hp3, lk_no (by decide +kernel) (by decide +kernel) (by decide +kernel), p, dx, b, L, j, rfl, hp3, hj, hLl, rfl, _, rfl, ite_f (decide_eq_false fun z => h44 ((cut_head L j 44 _ comma_cps).mp (V.str.inj z))) ?_⟩
          refine ⟨_, rfl, p, dx, _, rfl, hp3, lk_no (by decide +kernel) (by decide +kernel) (by decide +kernel), p, dx, b, g, l, L, j, G, bvs0, _, fw, fd' ++ [c], rfl, hp3, hj, hLl, hG3, fun h41 => hx (hrel _ (.neither h44 h41)), hb3, k3 _ _ hg, x3, nlb, hdv3, fun h41 v5 H5 kp5 hp5 hb5 ht5 => ?_⟩
          have hd41 : L.cps.toList.drop j = 41 :: L.cps.toList.drop (j + 1) := by
            rw [← List.drop_drop]
            cases hd : L.cps.toList.drop j with
            | nil => rw [hd] at h41; simp at h41
            | cons a r => rw [hd] at h41; simp at h41; simp [h41]
          have hjl : j < L.cps.toList.length := by
            have := congrArg List.length hd41
            rw [List.length_drop, List.length_cons] at this
            omega
          have k5 : TSame H3 H5 := fun a xs e => kp5 _ _ e (ne_of e hp3 (by intro z; cases z)) (ne_of e hb3 (by intro z; cases z))
          refine ⟨L.cps.toList.length - (j + 1), by omega, v5, .thing fw (fd' ++ [c]), bg0, bvs0, ls0, j + 1, rfl, rfl, fun a o e => kp5 _ _ (hG3 _ _ e) (ne_of_none e hGp) (ne_of_none e hGb), ⟨hp5, by omega, hb5, FrAt.mono k5 hfr3 (fun l' hl' => ?_), hbl0, by omega⟩, hlf0, ht5, fun res h => hrel _ (by rw [hd41]; exact .close h)⟩
          obtain ⟨dvs', e⟩ := hfr3.lst l' hl'
          rw [e]
          exact kp5 _ _ e (ne_of e hp3 (by intro z; cases z)) (fun z => hbl0 (by rw [← z]; exact hl'))
  · have hnil : bvs = [] := by
      cases bvs with
      | nil => rfl
      | cons a r => exact absurd rfl cc
    have hbn : bg = [] := by
      have := hfr.len.1
      rw [hnil] at this
      unfold bgF at this
      rw [List.length_map] at this
      exact List.length_eq_zero_iff.mp this.symm
    subst hbn
    refine ⟨_, rfl, p, C, dx, _, _, rfl, hp2, R.cl, R.np, lk_place, _, rfl, p, C, dx, _, _, rfl, hp2, R.cl, R.nl, lk_line, L, rfl, by rw [len_cps]; exact small (by omega), _, _, rfl, rfl, _, rfl, ite2 (fun c2 => ?_) (fun c2 => ?_)⟩
    · have c2' : (j : Int) < (L.length : Int) := of_decide_eq_true c2
      rw [len_cps] at c2'
      refine ⟨(by show 1 ≤ sizeLine; decide), hx (hrel _ ?_) _ hG2⟩
      cases hd : L.cps.toList.drop j with
      | nil =>
        have := congrArg List.length hd
        rw [List.length_drop, List.length_nil] at this
        omega
      | cons a r => exact .behind
    · have c2' : ¬ (j : Int) < (L.length : Int) := of_decide_eq_false (Bool.eq_false_iff.mpr c2)
      rw [len_cps] at c2'
      have hd : L.cps.toList.drop j = [] := List.drop_eq_nil_of_le (by omega)
      exact ⟨_, rfl, q _ (hrel _ (by rw [hd]; exact .fin)) v H2 hG2 ht⟩
def spReadX (aNoTerm : Addr) : Sp := fun vs H Q E => ∃ L : Str, vs = [.str L] ∧ L.cps.toList.length ≤ 30000 ∧ Runs L ∧ (∀ t, RdR L.cps.toList (some t) → ∀ (v : V) (H' : Hp), Same H H' → TermAt H' v t → Q v H') ∧ (RdR L.cps.toList none → Out aNoTerm H E)
theorem ok_readX {f : Addr} {fd : FuncData} (F : Fun K "read" "read" s_read f fd) (n_Reader : New P w K mg base 1 C "Reader" ["self", "line"] (spInit C)) (m_whole : MtdX P w K mg base 6 C "whole" ["self"] (spWholeX C aNoTerm)) : FnOk P w K mg base (CXR P w) 7 f fd ["line"] (spReadX aNoTerm) := by
  refine fun_okR F sc_read (fun vs H Q E h => ?_) (fun cdv A outer s H vs Q E hr h => ?_)
  · obtain ⟨L, rfl, _⟩ := h
    rfl
  obtain ⟨L, rfl, hL, hru, q, hx⟩ := h
  refine ⟨_, (pss_one (ps_ret (pe_mx0 m_whole (hr.mono (by decide)) (pe_new n_Reader (hr.mono (by decide)) (pa_cons (pv 0) pa_nil))))), ?_⟩
  refine ⟨_, rfl, fun p dx hp hdx hne => ⟨p, dx, L, rfl, upd_same, fun b H1 hb hp1 hb1 kp1 => ⟨rfl, p, dx, _, rfl, hp1, lk_no (by decide +kernel) (by decide +kernel) (by decide +kernel), p, dx, b, L, H, rfl, hp1, hb1, hL, fun a o e => ?_, hp, ?_, hru, q, hx⟩⟩⟩
  · have nap : a ≠ p := ne_of_none e hp
    have nad : a ≠ dx := ne_of_none e hdx
    exact kp1 _ _ (by rw [upd_ne nap, upd_ne nad]; exact e) nap
  · cases e : H b with
    | none => rfl
    | some o =>
      have nap : b ≠ p := ne_of_none e hp
      have nad : b ≠ dx := ne_of_none e hdx
      rw [upd_ne nap, upd_ne nad, e] at hb
      cases hb
end
end K02
set_option Elab.async false
set_option linter.all false
set_option maxRecDepth 100000
set_option maxHeartbeats 4000000
namespace K02
open PySem L2 BF
section
variable {P : Program} {w : World} {K : PySem.W.Frag} {mg : Str → Option Value} {base : Heap} {aNoTerm aNoPart aFormError : Addr}
theorem ln_runs {x : Str} (h : Ln x) : Runs x := fun i => by
  have h1 : ∀ j, ((x.cps.toList.drop j).takeWhile figure).length ≤ 600 := fun j => Nat.le_trans (h.2 j) (by decide)
  unfold unsg
  split
  · rw [List.tail_drop]
    exact h1 _
  · exact h1 _
def spTells (aNoTerm : Addr) : Sp := fun vs H Q _ => ∃ L : Str, vs = [.str L] ∧ Ln L ∧ (∀ t, RdR L.cps.toList (some t) → ∀ H', Same H H' → Q (.bl false) H') ∧ (RdR L.cps.toList none → ∀ H', Same H H' → Q (.bl true) H')
theorem ok_tells {f : Addr} {fd : FuncData} (F : Fun K "_law_base_tells" "_law_base_tells" s_law_base_tells f fd) (T : Bi mg) (ER : ErT K mg aNoTerm aNoPart aFormError) (c_read : CalX P w K mg base 7 "read" ["line"] (spReadX aNoTerm)) :
    FnOk P w K mg base CX0 8 f fd ["_law_line"] (spTells aNoTerm) := by
  refine F.ok sc_law_base_tells (fun vs H Q E h => ?_) (fun cdv A outer s H vs Q E hr h => ?_)
  · obtain ⟨_, rfl, _⟩ := h
    rfl
  obtain ⟨L, rfl, hL, q1, q2⟩ := h
  refine ⟨_, (pss_cons (ps_try_as (C := aNoTerm) (i := 1) (psx_expr (pex_cal c_read (hr.mono (by decide)) (pa_cons (pv 0) pa_nil))) rfl rfl rfl ER.mg_FormError ER.xm_NoTerm_FormError sc_law_base_tells.nd rfl rfl (fun ea oe vs hc hd => (pss_cons (ps_set (i := 2) sc_law_base_tells.nd rfl (Or.inl rfl) (pe_op op_add (pe_bty call_int1 T.b_int bt_int (pa_cons (pe_blt (call_isiK (X := caught _ ea oe) (ea := ea) (oe := oe) ER.ek List.mem_cons_self hc) T.b_isinstance bt_isinstance (pa_cons (pv 1) (pa_cons (pe_cls ER.mg_NoTerm) pa_nil))) pa_nil)) (pe_bty call_int1 T.b_int bt_int (pa_cons (pe_blt (call_isiK (X := caught _ ea oe) (ea := ea) (oe := oe) ER.ek List.mem_cons_self hc) T.b_isinstance bt_isinstance (pa_cons (pv 1) (pa_cons (pe_cls ER.mg_NoPart) pa_nil))) pa_nil))))
        (pss_one (ps_ret (pe_and (pe_blt (call_isiK (X := caught _ ea oe) (ea := ea) (oe := oe) ER.ek List.mem_cons_self hc) T.b_isinstance bt_isinstance (pa_cons (pv 1) (pa_cons (pe_tyn ER.b_ValueError bt_ValueError) pa_nil))) (pe_one (pe_cmpR op_eq (pv 2) pe_int (nomark _)))))))))
      (pss_one (ps_ret pe_bl))), ?_⟩
  refine ⟨_, rfl, L, rfl, by have := hL.1; omega, ln_runs hL, fun t hd v H1 s1 ht => q1 t hd H1 s1, fun hno H1 s1 => ⟨_, rfl, rfl, fun ea => ?_⟩⟩
  refine ⟨_, rfl, _, _, rfl, .inl ⟨_, rfl, ER.k1⟩, .inr ⟨_, rfl, ?_⟩⟩
  refine ⟨_, rfl, _, _, rfl, .inl ⟨_, rfl, ER.k2⟩, .inr ⟨_, rfl, _, _, rfl, rfl, ?_⟩⟩
  refine ⟨_, rfl, _, _, rfl, .inr ⟨_, rfl, ER.k3⟩, _, rfl, iteT ⟨_, rfl, rfl, ?_⟩⟩
  exact q2 hno H1 s1
def spLaw (K : PySem.W.Frag) : Sp := fun vs H Q _ => ∃ (a : Addr) (ns : List Int), vs = [.ref a] ∧ SqL K H a (ns.map V.int) ∧ ns.length ≤ 63 ∧ ∀ H', Q (.bl true) H'
theorem ok_law {f : Addr} {fd : FuncData} (F : Fun K "law" "law" s_law f fd) (T : Bi mg) (ER : ErT K mg aNoTerm aNoPart aFormError) (c__law_asked : Cal P w K mg base 4 "_law_asked" ["_law_script"] (spAsked K)) (c_read : CalX P w K mg base 7 "read" ["line"] (spReadX aNoTerm))
    (c__law_base_tells : Cal P w K mg base 8 "_law_base_tells" ["_law_line"] (spTells aNoTerm)) (c__law_well : Cal P w K mg base 4 "_law_well" ["_law_line"] spWell) (c__law_is_term : Cal P w K mg base 3 "_law_is_term" ["_law_found"] spIsTerm) (c_shown : Cal P w K mg base 2 "shown" ["term"] spShownG)
    (c__law_line_of : Cal P w K mg base 1 "_law_line_of" ["_law_term"] spShownG) : FnOk P w K mg base CX0 9 f fd ["_law_script"] (spLaw K) := by
  refine F.ok sc_law (fun vs H Q E h => ?_) (fun cdv A outer s H vs Q E hr h => ?_)
  · obtain ⟨a, ns, rfl, _⟩ := h
    rfl
  obtain ⟨a, ns, rfl, hS, h63, q⟩ := h
  refine ⟨_, (pss_cons (ps_set (i := 1) sc_law.nd rfl (Or.inl rfl) (pe_cal c__law_asked (hr.mono (by decide)) (pa_cons (pv 0) pa_nil)))
      (pss_cons (ps_set (i := 2) sc_law.nd rfl (Or.inl rfl) pe_non)
      (pss_cons (ps_set (i := 3) sc_law.nd rfl (Or.inl rfl) pe_bl)
      (pss_cons (ps_try (C := aNoTerm) (psx_set (i := 2) sc_law.nd rfl (Or.inl rfl) (pex_cal c_read (hr.mono (by decide)) (pa_cons (pv 1) pa_nil))) rfl rfl rfl ER.mg_NoTerm ER.xm_NoTerm_NoTerm (fun _ _ => (pss_one (ps_set (i := 3) sc_law.nd rfl (Or.inl rfl) pe_bl))))
      (pss_cons (ps_if (pt_cmpR op_ne (pe_cal c__law_base_tells (hr.mono (by decide)) (pa_cons (pv 1) pa_nil)) (pv 3) (nomark _)) (pss_one (ps_ret pe_bl)) pss_nil)
      (pss_cons (ps_if (pt_not (pt_val (pe_cal c__law_well (hr.mono (by decide)) (pa_cons (pv 1) pa_nil)))) (pss_one (ps_ret (pv 3))) pss_nil)
      (pss_cons (ps_if (pw_or (pt_val (pv 3)) (pw_or1 (pt_not (pt_val (pe_cal c__law_is_term (hr.mono (by decide)) (pa_cons (pv 2) pa_nil)))))).pt (pss_one (ps_ret pe_bl)) pss_nil)
      (pss_cons (ps_set (i := 4) sc_law.nd rfl (Or.inl rfl) (pe_cal c_shown (hr.mono (by decide)) (pa_cons (pv 2) pa_nil)))
      (pss_one (ps_ret (pe_and (pe_cmpR op_eq (pe_cal c__law_line_of (hr.mono (by decide)) (pa_cons (pv 2) pa_nil)) (pv 1) (nomark _)) (pe_and (pe_blt call_isi T.b_isinstance bt_isinstance (pa_cons (pv 4) (pa_cons (pe_tyn T.b_str bt_str) pa_nil))) (pe_one (pe_cmpR op_eq (pv 4) (pv 1) (nomark _))))))))))))))), ?_⟩
  refine ⟨_, rfl, a, ns, rfl, hS, h63, fun L H1 hL => ?_⟩
  have hLl := hL.1
  refine ⟨_, rfl, L, rfl, by omega, ln_runs hL, fun t hd v H2 s2 ht => ?_, fun hno H2 s2 => ⟨_, rfl, rfl, ?_⟩⟩
  · -- it is read
    obtain ⟨hline, hgd⟩ := rd_sound hd
    refine ⟨_, rfl, L, rfl, hL, fun t' hd' H3 s3 => ?_, fun hno _ _ => by have := rd_one hd hno; cases this⟩
    refine ⟨_, rfl, rfl, _, rfl, ite_f rfl ?_⟩
    refine ⟨_, rfl, L, rfl, by omega, fun _ H4 s4 => ?_, fun hn _ _ => absurd hline (hn t hgd)⟩
    refine ⟨_, rfl, ite_f rfl ?_⟩
    have ht4 : TermAt H4 v t := ht.mono (.of (s3.trans s4))
    have hnd := nodes_line t hgd
    have hnb : t.Nb := nb_of t (by rw [hline]; exact hL.2)
    have hll : t.line.length ≤ 21100 := by rw [hline]; omega
    refine ⟨_, rfl, _, rfl, iteF ⟨_, rfl, v, t, rfl, ht4, hgd, by omega, fun H5 s5 => ⟨_, rfl, ite_f rfl ?_⟩⟩⟩
    have ht5 := ht4.mono (.of s5)
    refine ⟨_, rfl, v, t, rfl, ht5, hgd, hnb, hll, fun y H6 s6 hy => ?_⟩
    have ht6 := ht5.mono (.of s6)
    have ey : y = L := str_ext (hy.trans hline)
    refine ⟨_, rfl, v, t, rfl, ht6, hgd, hnb, hll, fun z H7 s7 hz => ?_⟩
    have ez : z = L := str_ext (hz.trans hline)
    subst ey
    subst ez
    refine ⟨_, rfl, rfl, _, rfl, ite_t (by simp) ⟨_, rfl, _, _, _, _, rfl, .str _, .ss, _, rfl, iteT ⟨_, rfl, _, rfl, rfl, ?_⟩⟩⟩
    have e : decide (V.str z = V.str z) = true := by simp
    rw [e]
    exact q _
  · -- it is refused
    refine ⟨_, rfl, L, rfl, hL, (fun t hd _ _ => nomatch rd_one hd hno), fun _ H3 s3 => ?_⟩
    refine ⟨_, rfl, rfl, _, rfl, ite_f rfl ?_⟩
    refine ⟨_, rfl, L, rfl, by omega, fun ⟨t, hg, e⟩ => absurd e (rd_none hno t hg), fun _ H4 s4 => ?_⟩
    refine ⟨_, rfl, ite_t rfl ?_⟩
    exact ⟨_, rfl, q _⟩
end
end K02
set_option Elab.async false
set_option linter.all false
set_option maxRecDepth 100000
set_option maxHeartbeats 4000000
namespace K02
open PySem L2 BF
theorem all_mk {l : PySem.W.OpenLaw} {w : World} {K : PySem.W.Frag} {h : Heap} {mg : Str → Option Value} {fa CReader f1 f2 f3 f4 f5 f6 f7 f8 f9 f10 f11 f12 f13 f14 f15 f16 f17 f18 f19 f20 f21 f22 f23 f24 f25 f26 f27 f28 f29 f30 f31 aNoTerm aNoPart aFormError : Addr} (X : K.In h) (G : h.Ns mainGlobals mg) (hfa : mg "law" = some (.ref fa))
    {od1 an1 od2 an2 od3 an3 od4 an4 od5 an5 od6 an6 od7 an7 od8 an8 od9 an9 od10 an10 od11 an11 od12 an12 od13 an13 od14 an14 od15 an15 od16 an16 od17 an17 od18 an18 od19 an19 od20 an20 od21 an21 od22 an22 od23 an23 od24 an24 od25 an25 od26 an26 od27 an27 od28 an28 od29 an29 od30 an30 od31 an31 : Option Addr} {sl1 sl2 sl3 sl4 sl5 sl6 sl7 sl8 sl9 sl10 sl11 sl12 sl13 sl14 sl15 sl16 sl17 sl18 sl19 sl20 sl21 sl22 sl23 sl24 sl25 sl26 sl27 sl28 sl29 sl30 sl31 : Array (Option Value)} {oc1 kV1 dc1 pm1 cd1 ct1 oc2 kV2 dc2 pm2 cd2 ct2 oc3 kV3 dc3 pm3 cd3 ct3 oc4 kV4 dc4 pm4 cd4 ct4 oc5 kV5 dc5 pm5 cd5 ct5 oc6 kV6 dc6 pm6 cd6 ct6 oc7 kV7 dc7 pm7 cd7 ct7 oc8 kV8 dc8 pm8 cd8 ct8 oc9 kV9 dc9 pm9 cd9 ct9 oc10 kV10 dc10 pm10 cd10 ct10 oc11 kV11 dc11 pm11 cd11 ct11 oc12 kV12 dc12 pm12 cd12 ct12 oc13 kV13 dc13 pm13 cd13 ct13 oc14 kV14 dc14 pm14 cd14 ct14 oc15 kV15 dc15 pm15 cd15 ct15 oc16 kV16 dc16 pm16 cd16 ct16 oc17 kV17 dc17 pm17 cd17 ct17 oc18 kV18 dc18 pm18 cd18 ct18 oc19 kV19 dc19 pm19 cd19 ct19 oc20 kV20 dc20 pm20 cd20 ct20 oc21 kV21 dc21 pm21 cd21 ct21 oc22 kV22 dc22 pm22 cd22 ct22 oc23 kV23 dc23 pm23 cd23 ct23 oc24 kV24 dc24 pm24 cd24 ct24 oc25 kV25 dc25 pm25 cd25 ct25 oc26 kV26 dc26 pm26 cd26 ct26 oc27 kV27 dc27 pm27 cd27 ct27 oc28 kV28 dc28 pm28 cd28 ct28 oc29 kV29 dc29 pm29 cd29 ct29 oc30 kV30 dc30 pm30 cd30 ct30 oc31 kV31 dc31 pm31 cd31 ct31 : Value}
    (aCReader : PySem.W.nsIn K mainGlobals "Reader" = some (some (.ref CReader)))
    (a1 : PySem.W.findIn K (.ref CReader) "__init__" = some (some (.ref f1)))
    (l1 : K.lookup f1 = some ⟨oc1, od1, .func (PySem.W.fnOf "__init__" "Reader.__init__" (defArgs s_Reader_init) (defBody s_Reader_init) (defScope s_Reader_init) .none kV1 dc1 pm1 an1 cd1 ct1), sl1⟩)
    (c1 : PySem.W.codeIn K cd1 "Reader.__init__" = true)
    (k1 : PySem.W.keepIn K (.ref f1) = true)
    (i1 : PySem.W.isFn K (.ref f1) = true)
    (a2 : PySem.W.findIn K (.ref CReader) "whole" = some (some (.ref f2)))
    (l2 : K.lookup f2 = some ⟨oc2, od2, .func (PySem.W.fnOf "whole" "Reader.whole" (defArgs s_Reader_whole) (defBody s_Reader_whole) (defScope s_Reader_whole) .none kV2 dc2 pm2 an2 cd2 ct2), sl2⟩)
    (c2 : PySem.W.codeIn K cd2 "Reader.whole" = true)
    (k2 : PySem.W.keepIn K (.ref f2) = true)
    (i2 : PySem.W.isFn K (.ref f2) = true)
    (a3 : PySem.W.findIn K (.ref CReader) "leaf" = some (some (.ref f3)))
    (l3 : K.lookup f3 = some ⟨oc3, od3, .func (PySem.W.fnOf "leaf" "Reader.leaf" (defArgs s_Reader_leaf) (defBody s_Reader_leaf) (defScope s_Reader_leaf) .none kV3 dc3 pm3 an3 cd3 ct3), sl3⟩)
    (c3 : PySem.W.codeIn K cd3 "Reader.leaf" = true)
    (k3 : PySem.W.keepIn K (.ref f3) = true)
    (i3 : PySem.W.isFn K (.ref f3) = true)
    (a4 : PySem.W.findIn K (.ref CReader) "blank" = some (some (.ref f4)))
    (l4 : K.lookup f4 = some ⟨oc4, od4, .func (PySem.W.fnOf "blank" "Reader.blank" (defArgs s_Reader_blank) (defBody s_Reader_blank) (defScope s_Reader_blank) .none kV4 dc4 pm4 an4 cd4 ct4), sl4⟩)
    (c4 : PySem.W.codeIn K cd4 "Reader.blank" = true)
    (k4 : PySem.W.keepIn K (.ref f4) = true)
    (i4 : PySem.W.isFn K (.ref f4) = true)
    (a5 : PySem.W.findIn K (.ref CReader) "number" = some (some (.ref f5)))
    (l5 : K.lookup f5 = some ⟨oc5, od5, .func (PySem.W.fnOf "number" "Reader.number" (defArgs s_Reader_number) (defBody s_Reader_number) (defScope s_Reader_number) .none kV5 dc5 pm5 an5 cd5 ct5), sl5⟩)
    (c5 : PySem.W.codeIn K cd5 "Reader.number" = true)
    (k5 : PySem.W.keepIn K (.ref f5) = true)
    (i5 : PySem.W.isFn K (.ref f5) = true)
    (a6 : PySem.W.findIn K (.ref CReader) "ended_thing" = some (some (.ref f6)))
    (l6 : K.lookup f6 = some ⟨oc6, od6, .func (PySem.W.fnOf "ended_thing" "Reader.ended_thing" (defArgs s_Reader_ended_thing) (defBody s_Reader_ended_thing) (defScope s_Reader_ended_thing) .none kV6 dc6 pm6 an6 cd6 ct6), sl6⟩)
    (c6 : PySem.W.codeIn K cd6 "Reader.ended_thing" = true)
    (k6 : PySem.W.keepIn K (.ref f6) = true)
    (i6 : PySem.W.isFn K (.ref f6) = true)
    (a7 : PySem.W.findIn K (.ref CReader) "sign" = some (some (.ref f7)))
    (l7 : K.lookup f7 = some ⟨oc7, od7, .func (PySem.W.fnOf "sign" "Reader.sign" (defArgs s_Reader_sign) (defBody s_Reader_sign) (defScope s_Reader_sign) .none kV7 dc7 pm7 an7 cd7 ct7), sl7⟩)
    (c7 : PySem.W.codeIn K cd7 "Reader.sign" = true)
    (k7 : PySem.W.keepIn K (.ref f7) = true)
    (i7 : PySem.W.isFn K (.ref f7) = true)
    (a8 : PySem.W.findIn K (.ref CReader) "letters" = some (some (.ref f8)))
    (l8 : K.lookup f8 = some ⟨oc8, od8, .func (PySem.W.fnOf "letters" "Reader.letters" (defArgs s_Reader_letters) (defBody s_Reader_letters) (defScope s_Reader_letters) .none kV8 dc8 pm8 an8 cd8 ct8), sl8⟩)
    (c8 : PySem.W.codeIn K cd8 "Reader.letters" = true)
    (k8 : PySem.W.keepIn K (.ref f8) = true)
    (i8 : PySem.W.isFn K (.ref f8) = true)
    (a9 : PySem.W.findIn K (.ref CReader) "run" = some (some (.ref f9)))
    (l9 : K.lookup f9 = some ⟨oc9, od9, .func (PySem.W.fnOf "run" "Reader.run" (defArgs s_Reader_run) (defBody s_Reader_run) (defScope s_Reader_run) .none kV9 dc9 pm9 an9 cd9 ct9), sl9⟩)
    (c9 : PySem.W.codeIn K cd9 "Reader.run" = true)
    (k9 : PySem.W.keepIn K (.ref f9) = true)
    (i9 : PySem.W.isFn K (.ref f9) = true)
    (pgReader : PySem.W.plainGet K CReader Str.empty = true)
    (hdReader : PySem.W.hasDictIn K CReader = true)
    (poReader : PySem.W.plainOver K CReader = true)
    (saReader : PySem.W.findIn K (.ref CReader) "__setattr__" = some (some (.builtin "object.__setattr__")))
    (mkReader : PySem.W.makesIn K CReader = true)
    (kcReader : PySem.W.keepIn K (.ref CReader) = true)
    (nReader_line : PySem.W.findIn K (.ref CReader) "line" = some none)
    (nReader_place : PySem.W.findIn K (.ref CReader) "place" = some none)
    (nReader_begun : PySem.W.findIn K (.ref CReader) "begun" = some none)
    (a10 : PySem.W.nsIn K mainGlobals "shown" = some (some (.ref f10)))
    (l10 : K.lookup f10 = some ⟨oc10, od10, .func (PySem.W.fnOf "shown" "shown" (defArgs s_shown) (defBody s_shown) (defScope s_shown) .none kV10 dc10 pm10 an10 cd10 ct10), sl10⟩)
    (c10 : PySem.W.codeIn K cd10 "shown" = true)
    (k10 : PySem.W.keepIn K (.ref f10) = true)
    (a11 : PySem.W.nsIn K mainGlobals "push_parts" = some (some (.ref f11)))
    (l11 : K.lookup f11 = some ⟨oc11, od11, .func (PySem.W.fnOf "push_parts" "push_parts" (defArgs s_push_parts) (defBody s_push_parts) (defScope s_push_parts) .none kV11 dc11 pm11 an11 cd11 ct11), sl11⟩)
    (c11 : PySem.W.codeIn K cd11 "push_parts" = true)
    (k11 : PySem.W.keepIn K (.ref f11) = true)
    (a12 : PySem.W.nsIn K mainGlobals "shown_leaf" = some (some (.ref f12)))
    (l12 : K.lookup f12 = some ⟨oc12, od12, .func (PySem.W.fnOf "shown_leaf" "shown_leaf" (defArgs s_shown_leaf) (defBody s_shown_leaf) (defScope s_shown_leaf) .none kV12 dc12 pm12 an12 cd12 ct12), sl12⟩)
    (c12 : PySem.W.codeIn K cd12 "shown_leaf" = true)
    (k12 : PySem.W.keepIn K (.ref f12) = true)
    (a13 : PySem.W.nsIn K mainGlobals "read" = some (some (.ref f13)))
    (l13 : K.lookup f13 = some ⟨oc13, od13, .func (PySem.W.fnOf "read" "read" (defArgs s_read) (defBody s_read) (defScope s_read) .none kV13 dc13 pm13 an13 cd13 ct13), sl13⟩)
    (c13 : PySem.W.codeIn K cd13 "read" = true)
    (k13 : PySem.W.keepIn K (.ref f13) = true)
    (a14 : PySem.W.nsIn K mainGlobals "_law_whole" = some (some (.ref f14)))
    (l14 : K.lookup f14 = some ⟨oc14, od14, .func (PySem.W.fnOf "_law_whole" "_law_whole" (defArgs s_law_whole) (defBody s_law_whole) (defScope s_law_whole) .none kV14 dc14 pm14 an14 cd14 ct14), sl14⟩)
    (c14 : PySem.W.codeIn K cd14 "_law_whole" = true)
    (k14 : PySem.W.keepIn K (.ref f14) = true)
    (a15 : PySem.W.nsIn K mainGlobals "_law_at" = some (some (.ref f15)))
    (l15 : K.lookup f15 = some ⟨oc15, od15, .func (PySem.W.fnOf "_law_at" "_law_at" (defArgs s_law_at) (defBody s_law_at) (defScope s_law_at) .none kV15 dc15 pm15 an15 cd15 ct15), sl15⟩)
    (c15 : PySem.W.codeIn K cd15 "_law_at" = true)
    (k15 : PySem.W.keepIn K (.ref f15) = true)
    (a16 : PySem.W.nsIn K mainGlobals "_law_any_word" = some (some (.ref f16)))
    (l16 : K.lookup f16 = some ⟨oc16, od16, .func (PySem.W.fnOf "_law_any_word" "_law_any_word" (defArgs s_law_any_word) (defBody s_law_any_word) (defScope s_law_any_word) .none kV16 dc16 pm16 an16 cd16 ct16), sl16⟩)
    (c16 : PySem.W.codeIn K cd16 "_law_any_word" = true)
    (k16 : PySem.W.keepIn K (.ref f16) = true)
    (a17 : PySem.W.nsIn K mainGlobals "_law_leaf" = some (some (.ref f17)))
    (l17 : K.lookup f17 = some ⟨oc17, od17, .func (PySem.W.fnOf "_law_leaf" "_law_leaf" (defArgs s_law_leaf) (defBody s_law_leaf) (defScope s_law_leaf) .none kV17 dc17 pm17 an17 cd17 ct17), sl17⟩)
    (c17 : PySem.W.codeIn K cd17 "_law_leaf" = true)
    (k17 : PySem.W.keepIn K (.ref f17) = true)
    (a18 : PySem.W.nsIn K mainGlobals "_law_head" = some (some (.ref f18)))
    (l18 : K.lookup f18 = some ⟨oc18, od18, .func (PySem.W.fnOf "_law_head" "_law_head" (defArgs s_law_head) (defBody s_law_head) (defScope s_law_head) .none kV18 dc18 pm18 an18 cd18 ct18), sl18⟩)
    (c18 : PySem.W.codeIn K cd18 "_law_head" = true)
    (k18 : PySem.W.keepIn K (.ref f18) = true)
    (a19 : PySem.W.nsIn K mainGlobals "_law_many_parts" = some (some (.ref f19)))
    (l19 : K.lookup f19 = some ⟨oc19, od19, .func (PySem.W.fnOf "_law_many_parts" "_law_many_parts" (defArgs s_law_many_parts) (defBody s_law_many_parts) (defScope s_law_many_parts) .none kV19 dc19 pm19 an19 cd19 ct19), sl19⟩)
    (c19 : PySem.W.codeIn K cd19 "_law_many_parts" = true)
    (k19 : PySem.W.keepIn K (.ref f19) = true)
    (a20 : PySem.W.nsIn K mainGlobals "_law_grown" = some (some (.ref f20)))
    (l20 : K.lookup f20 = some ⟨oc20, od20, .func (PySem.W.fnOf "_law_grown" "_law_grown" (defArgs s_law_grown) (defBody s_law_grown) (defScope s_law_grown) .none kV20 dc20 pm20 an20 cd20 ct20), sl20⟩)
    (c20 : PySem.W.codeIn K cd20 "_law_grown" = true)
    (k20 : PySem.W.keepIn K (.ref f20) = true)
    (a21 : PySem.W.nsIn K mainGlobals "_law_letters" = some (some (.ref f21)))
    (l21 : K.lookup f21 = some ⟨oc21, od21, .func (PySem.W.fnOf "_law_letters" "_law_letters" (defArgs s_law_letters) (defBody s_law_letters) (defScope s_law_letters) .none kV21 dc21 pm21 an21 cd21 ct21), sl21⟩)
    (c21 : PySem.W.codeIn K cd21 "_law_letters" = true)
    (k21 : PySem.W.keepIn K (.ref f21) = true)
    (a22 : PySem.W.nsIn K mainGlobals "_law_small" = some (some (.ref f22)))
    (l22 : K.lookup f22 = some ⟨oc22, od22, .func (PySem.W.fnOf "_law_small" "_law_small" (defArgs s_law_small) (defBody s_law_small) (defScope s_law_small) .none kV22 dc22 pm22 an22 cd22 ct22), sl22⟩)
    (c22 : PySem.W.codeIn K cd22 "_law_small" = true)
    (k22 : PySem.W.keepIn K (.ref f22) = true)
    (a23 : PySem.W.nsIn K mainGlobals "_law_is_term" = some (some (.ref f23)))
    (l23 : K.lookup f23 = some ⟨oc23, od23, .func (PySem.W.fnOf "_law_is_term" "_law_is_term" (defArgs s_law_is_term) (defBody s_law_is_term) (defScope s_law_is_term) .none kV23 dc23 pm23 an23 cd23 ct23), sl23⟩)
    (c23 : PySem.W.codeIn K cd23 "_law_is_term" = true)
    (k23 : PySem.W.keepIn K (.ref f23) = true)
    (a24 : PySem.W.nsIn K mainGlobals "_law_line_of" = some (some (.ref f24)))
    (l24 : K.lookup f24 = some ⟨oc24, od24, .func (PySem.W.fnOf "_law_line_of" "_law_line_of" (defArgs s_law_line_of) (defBody s_law_line_of) (defScope s_law_line_of) .none kV24 dc24 pm24 an24 cd24 ct24), sl24⟩)
    (c24 : PySem.W.codeIn K cd24 "_law_line_of" = true)
    (k24 : PySem.W.keepIn K (.ref f24) = true)
    (a25 : PySem.W.nsIn K mainGlobals "_law_framed" = some (some (.ref f25)))
    (l25 : K.lookup f25 = some ⟨oc25, od25, .func (PySem.W.fnOf "_law_framed" "_law_framed" (defArgs s_law_framed) (defBody s_law_framed) (defScope s_law_framed) .none kV25 dc25 pm25 an25 cd25 ct25), sl25⟩)
    (c25 : PySem.W.codeIn K cd25 "_law_framed" = true)
    (k25 : PySem.W.keepIn K (.ref f25) = true)
    (a26 : PySem.W.nsIn K mainGlobals "_law_asked" = some (some (.ref f26)))
    (l26 : K.lookup f26 = some ⟨oc26, od26, .func (PySem.W.fnOf "_law_asked" "_law_asked" (defArgs s_law_asked) (defBody s_law_asked) (defScope s_law_asked) .none kV26 dc26 pm26 an26 cd26 ct26), sl26⟩)
    (c26 : PySem.W.codeIn K cd26 "_law_asked" = true)
    (k26 : PySem.W.keepIn K (.ref f26) = true)
    (a27 : PySem.W.nsIn K mainGlobals "_law_kind" = some (some (.ref f27)))
    (l27 : K.lookup f27 = some ⟨oc27, od27, .func (PySem.W.fnOf "_law_kind" "_law_kind" (defArgs s_law_kind) (defBody s_law_kind) (defScope s_law_kind) .none kV27 dc27 pm27 an27 cd27 ct27), sl27⟩)
    (c27 : PySem.W.codeIn K cd27 "_law_kind" = true)
    (k27 : PySem.W.keepIn K (.ref f27) = true)
    (a28 : PySem.W.nsIn K mainGlobals "_law_marked" = some (some (.ref f28)))
    (l28 : K.lookup f28 = some ⟨oc28, od28, .func (PySem.W.fnOf "_law_marked" "_law_marked" (defArgs s_law_marked) (defBody s_law_marked) (defScope s_law_marked) .none kV28 dc28 pm28 an28 cd28 ct28), sl28⟩)
    (c28 : PySem.W.codeIn K cd28 "_law_marked" = true)
    (k28 : PySem.W.keepIn K (.ref f28) = true)
    (a29 : PySem.W.nsIn K mainGlobals "_law_well" = some (some (.ref f29)))
    (l29 : K.lookup f29 = some ⟨oc29, od29, .func (PySem.W.fnOf "_law_well" "_law_well" (defArgs s_law_well) (defBody s_law_well) (defScope s_law_well) .none kV29 dc29 pm29 an29 cd29 ct29), sl29⟩)
    (c29 : PySem.W.codeIn K cd29 "_law_well" = true)
    (k29 : PySem.W.keepIn K (.ref f29) = true)
    (a30 : PySem.W.nsIn K mainGlobals "_law_base_tells" = some (some (.ref f30)))
    (l30 : K.lookup f30 = some ⟨oc30, od30, .func (PySem.W.fnOf "_law_base_tells" "_law_base_tells" (defArgs s_law_base_tells) (defBody s_law_base_tells) (defScope s_law_base_tells) .none kV30 dc30 pm30 an30 cd30 ct30), sl30⟩)
    (c30 : PySem.W.codeIn K cd30 "_law_base_tells" = true)
    (k30 : PySem.W.keepIn K (.ref f30) = true)
    (a31 : PySem.W.nsIn K mainGlobals "law" = some (some (.ref f31)))
    (l31 : K.lookup f31 = some ⟨oc31, od31, .func (PySem.W.fnOf "law" "law" (defArgs s_law) (defBody s_law) (defScope s_law) .none kV31 dc31 pm31 an31 cd31 ct31), sl31⟩)
    (c31 : PySem.W.codeIn K cd31 "law" = true)
    (k31 : PySem.W.keepIn K (.ref f31) = true)
    (qmP : PySem.W.nsIn K mainGlobals "NoPart" = some (some (.ref aNoPart)))
    (qmT : PySem.W.nsIn K mainGlobals "NoTerm" = some (some (.ref aNoTerm)))
    (qmF : PySem.W.nsIn K mainGlobals "FormError" = some (some (.ref aFormError)))
    (qeT : PySem.W.excIn K aNoTerm [.type "ValueError", .type "Exception", .type "BaseException", .type "object"] "ValueError.__new__" = true)
    (qx1 : PySem.W.exmOne K (.ref aNoTerm) (.ref aNoTerm) = some true)
    (qx2 : PySem.W.exmOne K (.ref aNoTerm) (.ref aFormError) = some true)
    (qg1 : PySem.W.findIn K (.ref aNoTerm) "__getattribute__" = some (some (.builtin "BaseException.__getattribute__")))
    (qg2 : PySem.W.findIn K (.ref aNoTerm) "__getattr__" = some none)
    (qg3 : PySem.W.findIn K (.ref aNoTerm) "__class__" = some (some (.builtin "object.__class__")))
    (qg4 : PySem.W.mroIn K aNoTerm (.type "object") = some true)
    (qg5 : PySem.W.mroIn K aNoTerm (.type "BaseException") = some true)
    (qg6 : PySem.W.isClsIn K aNoTerm = true)
    (qkk1 : PySem.W.kitOne K (.ref aNoTerm) (.ref aNoTerm) = some true)
    (qkk2 : PySem.W.kitOne K (.ref aNoTerm) (.ref aNoPart) = some false)
    (qkk3 : PySem.W.kitOne K (.ref aNoTerm) (.type "ValueError") = some true)
    (qzV : PySem.W.nsIn K mainGlobals "ValueError" = some none)
    (z_len : PySem.W.nsIn K mainGlobals "len" = some none)
    (z_abs : PySem.W.nsIn K mainGlobals "abs" = some none)
    (z_isinstance : PySem.W.nsIn K mainGlobals "isinstance" = some none)
    (z_int : PySem.W.nsIn K mainGlobals "int" = some none)
    (z_bool : PySem.W.nsIn K mainGlobals "bool" = some none)
    (z_str : PySem.W.nsIn K mainGlobals "str" = some none)
    (z_tuple : PySem.W.nsIn K mainGlobals "tuple" = some none)
    (z_list : PySem.W.nsIn K mainGlobals "list" = some none)
    (z_reversed : PySem.W.nsIn K mainGlobals "reversed" = some none)
    (z_range : PySem.W.nsIn K mainGlobals "range" = some none)
    : ∃ fd : FuncData, (∀ (s : Shared) (v : Value), BindsTo s fd ⟨[v], []⟩ [("_law_script", v)]) ∧ ∀ base : Heap, K.In base → base.Ns mainGlobals mg → FnOk l.prog w K mg base CX0 9 fa fd ["_law_script"] (spLaw K) := by
  have e := hfa.symm.trans (PySem.W.mg_of X G a31)
  cases e
  have F1 := fun_mk (st := s_Reader_init) l1 c1 k1
  have b1 := F1.binds (ps := ["self", "line"]) fun _ _ _ _ _ _ us hl => match us, hl with | [_, _], _ => rfl
  have F2 := fun_mk (st := s_Reader_whole) l2 c2 k2
  have b2 := F2.binds (ps := ["self"]) fun _ _ _ _ _ _ us hl => match us, hl with | [_], _ => rfl
  have F3 := fun_mk (st := s_Reader_leaf) l3 c3 k3
  have b3 := F3.binds (ps := ["self"]) fun _ _ _ _ _ _ us hl => match us, hl with | [_], _ => rfl
  have F4 := fun_mk (st := s_Reader_blank) l4 c4 k4
  have b4 := F4.binds (ps := ["self"]) fun _ _ _ _ _ _ us hl => match us, hl with | [_], _ => rfl
  have F5 := fun_mk (st := s_Reader_number) l5 c5 k5
  have b5 := F5.binds (ps := ["self"]) fun _ _ _ _ _ _ us hl => match us, hl with | [_], _ => rfl
  have F6 := fun_mk (st := s_Reader_ended_thing) l6 c6 k6
  have b6 := F6.binds (ps := ["self"]) fun _ _ _ _ _ _ us hl => match us, hl with | [_], _ => rfl
  have F7 := fun_mk (st := s_Reader_sign) l7 c7 k7
  have b7 := F7.binds (ps := ["self"]) fun _ _ _ _ _ _ us hl => match us, hl with | [_], _ => rfl
  have F8 := fun_mk (st := s_Reader_letters) l8 c8 k8
  have b8 := F8.binds (ps := ["self"]) fun _ _ _ _ _ _ us hl => match us, hl with | [_], _ => rfl
  have F9 := fun_mk (st := s_Reader_run) l9 c9 k9
  have b9 := F9.binds (ps := ["self", "first", "last"]) fun _ _ _ _ _ _ us hl => match us, hl with | [_, _, _], _ => rfl
  have F10 := fun_mk (st := s_shown) l10 c10 k10
  have b10 := F10.binds (ps := ["term"]) fun _ _ _ _ _ _ us hl => match us, hl with | [_], _ => rfl
  have g10 := PySem.W.mg_of X G a10
  have F11 := fun_mk (st := s_push_parts) l11 c11 k11
  have b11 := F11.binds (ps := ["coming", "parts"]) fun _ _ _ _ _ _ us hl => match us, hl with | [_, _], _ => rfl
  have g11 := PySem.W.mg_of X G a11
  have F12 := fun_mk (st := s_shown_leaf) l12 c12 k12
  have b12 := F12.binds (ps := ["term"]) fun _ _ _ _ _ _ us hl => match us, hl with | [_], _ => rfl
  have g12 := PySem.W.mg_of X G a12
  have F13 := fun_mk (st := s_read) l13 c13 k13
  have b13 := F13.binds (ps := ["line"]) fun _ _ _ _ _ _ us hl => match us, hl with | [_], _ => rfl
  have g13 := PySem.W.mg_of X G a13
  have F14 := fun_mk (st := s_law_whole) l14 c14 k14
  have b14 := F14.binds (ps := ["_law_found"]) fun _ _ _ _ _ _ us hl => match us, hl with | [_], _ => rfl
  have g14 := PySem.W.mg_of X G a14
  have F15 := fun_mk (st := s_law_at) l15 c15 k15
  have b15 := F15.binds (ps := ["_law_script", "_law_k"]) fun _ _ _ _ _ _ us hl => match us, hl with | [_, _], _ => rfl
  have g15 := PySem.W.mg_of X G a15
  have F16 := fun_mk (st := s_law_any_word) l16 c16 k16
  have b16 := F16.binds (ps := ["_law_cell"]) fun _ _ _ _ _ _ us hl => match us, hl with | [_], _ => rfl
  have g16 := PySem.W.mg_of X G a16
  have F17 := fun_mk (st := s_law_leaf) l17 c17 k17
  have b17 := F17.binds (ps := ["_law_cell"]) fun _ _ _ _ _ _ us hl => match us, hl with | [_], _ => rfl
  have g17 := PySem.W.mg_of X G a17
  have F18 := fun_mk (st := s_law_head) l18 c18 k18
  have b18 := F18.binds (ps := ["_law_cell"]) fun _ _ _ _ _ _ us hl => match us, hl with | [_], _ => rfl
  have g18 := PySem.W.mg_of X G a18
  have F19 := fun_mk (st := s_law_many_parts) l19 c19 k19
  have b19 := F19.binds (ps := ["_law_cell", "_law_count"]) fun _ _ _ _ _ _ us hl => match us, hl with | [_, _], _ => rfl
  have g19 := PySem.W.mg_of X G a19
  have F20 := fun_mk (st := s_law_grown) l20 c20 k20
  have b20 := F20.binds (ps := ["_law_cells"]) fun _ _ _ _ _ _ us hl => match us, hl with | [_], _ => rfl
  have g20 := PySem.W.mg_of X G a20
  have F21 := fun_mk (st := s_law_letters) l21 c21 k21
  have b21 := F21.binds (ps := ["_law_found"]) fun _ _ _ _ _ _ us hl => match us, hl with | [_], _ => rfl
  have g21 := PySem.W.mg_of X G a21
  have F22 := fun_mk (st := s_law_small) l22 c22 k22
  have b22 := F22.binds (ps := ["_law_part"]) fun _ _ _ _ _ _ us hl => match us, hl with | [_], _ => rfl
  have g22 := PySem.W.mg_of X G a22
  have F23 := fun_mk (st := s_law_is_term) l23 c23 k23
  have b23 := F23.binds (ps := ["_law_found"]) fun _ _ _ _ _ _ us hl => match us, hl with | [_], _ => rfl
  have g23 := PySem.W.mg_of X G a23
  have F24 := fun_mk (st := s_law_line_of) l24 c24 k24
  have b24 := F24.binds (ps := ["_law_term"]) fun _ _ _ _ _ _ us hl => match us, hl with | [_], _ => rfl
  have g24 := PySem.W.mg_of X G a24
  have F25 := fun_mk (st := s_law_framed) l25 c25 k25
  have b25 := F25.binds (ps := ["_law_line"]) fun _ _ _ _ _ _ us hl => match us, hl with | [_], _ => rfl
  have g25 := PySem.W.mg_of X G a25
  have F26 := fun_mk (st := s_law_asked) l26 c26 k26
  have b26 := F26.binds (ps := ["_law_script"]) fun _ _ _ _ _ _ us hl => match us, hl with | [_], _ => rfl
  have g26 := PySem.W.mg_of X G a26
  have F27 := fun_mk (st := s_law_kind) l27 c27 k27
  have b27 := F27.binds (ps := ["_law_signs"]) fun _ _ _ _ _ _ us hl => match us, hl with | [_], _ => rfl
  have g27 := PySem.W.mg_of X G a27
  have F28 := fun_mk (st := s_law_marked) l28 c28 k28
  have b28 := F28.binds (ps := ["_law_line"]) fun _ _ _ _ _ _ us hl => match us, hl with | [_], _ => rfl
  have g28 := PySem.W.mg_of X G a28
  have F29 := fun_mk (st := s_law_well) l29 c29 k29
  have b29 := F29.binds (ps := ["_law_line"]) fun _ _ _ _ _ _ us hl => match us, hl with | [_], _ => rfl
  have g29 := PySem.W.mg_of X G a29
  have F30 := fun_mk (st := s_law_base_tells) l30 c30 k30
  have b30 := F30.binds (ps := ["_law_line"]) fun _ _ _ _ _ _ us hl => match us, hl with | [_], _ => rfl
  have g30 := PySem.W.mg_of X G a30
  have F31 := fun_mk (st := s_law) l31 c31 k31
  have T : Bi mg := ⟨PySem.W.mg_none_of X G z_len, PySem.W.mg_none_of X G z_abs, PySem.W.mg_none_of X G z_isinstance, PySem.W.mg_none_of X G z_int, PySem.W.mg_none_of X G z_bool, PySem.W.mg_none_of X G z_str, PySem.W.mg_none_of X G z_tuple, PySem.W.mg_none_of X G z_list, PySem.W.mg_none_of X G z_reversed, PySem.W.mg_none_of X G z_range⟩
  refine ⟨PySem.W.fnOf "law" "law" (defArgs s_law) (defBody s_law) (defScope s_law) .none kV31 dc31 pm31 an31 cd31 ct31, fun s v => .of_eq rfl, fun base _ _ => ?_⟩
  have ER : ErT K mg aNoTerm aNoPart aFormError := ⟨PySem.W.mg_none_of X G qzV, PySem.W.mg_of X G qmP, PySem.W.mg_of X G qmT, PySem.W.mg_of X G qmF, qeT, qx1, qx2, ⟨qg1, qg2, qg3, qg4, qg5, qg6⟩, qkk1, qkk2, qkk3⟩
  have R : RT K CReader := ⟨⟨pgReader, hdReader, poReader, saReader⟩, nReader_line, nReader_place, nReader_begun⟩
  have mS : Mtd l.prog w K mg base 1 CReader "sign" ["self"] (spSign CReader) := ⟨_, _, ok_sign F7 R, b7, ⟨a7, i7, k7⟩, R.cl⟩
  have mR : Mtd l.prog w K mg base 2 CReader "run" ["self", "first", "last"] (spRun CReader) := ⟨_, _, ok_run F9 R mS, b9, ⟨a9, i9, k9⟩, R.cl⟩
  have mL : Mtd l.prog w K mg base 3 CReader "letters" ["self"] (spLet CReader) := ⟨_, _, ok_let F8 R mR, b8, ⟨a8, i8, k8⟩, R.cl⟩
  have mB : MtdX l.prog w K mg base 4 CReader "blank" ["self"] (spBlankX CReader aNoTerm) := ⟨_, _, ok_blankX F4 R ER mL, b4, ⟨a4, i4, k4⟩, R.cl⟩
  have mN : MtdX l.prog w K mg base 3 CReader "number" ["self"] (spNumX CReader aNoTerm) := ⟨_, _, ok_numberX F5 T R ER mS mR, b5, ⟨a5, i5, k5⟩, R.cl⟩
  have mE : MtdX l.prog w K mg base 2 CReader "ended_thing" ["self"] (spEndX CReader aNoTerm) := ⟨_, _, ok_endedX F6 T R ER mS, b6, ⟨a6, i6, k6⟩, R.cl⟩
  have mF : MtdX l.prog w K mg base 5 CReader "leaf" ["self"] (spLeafX CReader aNoTerm) := ⟨_, _, ok_leafX F3 R ER mS mL mB mN, b3, ⟨a3, i3, k3⟩, R.cl⟩
  have mW : MtdX l.prog w K mg base 6 CReader "whole" ["self"] (spWholeX CReader aNoTerm) := ⟨_, _, ok_wholeX F2 T R ER mS mF mE, b2, ⟨a2, i2, k2⟩, R.cl⟩
  have nR : New l.prog w K mg base 1 CReader "Reader" ["self", "line"] (spInit CReader) := ⟨_, _, ⟨mkReader, a1, i1, kcReader⟩, ok_init F1 R, b1, PySem.W.mg_of X G aCReader⟩
  have cRead : CalX l.prog w K mg base 7 "read" ["line"] (spReadX aNoTerm) := ⟨_, _, ok_readX F13 nR mW, b13, k13, g13⟩
  have cPush : Cal l.prog w K mg base 1 "push_parts" ["coming", "parts"] (spPush K) := ⟨_, _, ok_push_parts F11 T, b11, k11, g11⟩
  have cSL : Cal l.prog w K mg base 1 "shown_leaf" ["term"] spShownLeaf := ⟨_, _, ok_shown_leaf F12 T, b12, k12, g12⟩
  have cShown : Cal l.prog w K mg base 2 "shown" ["term"] spShownG := ⟨_, _, ok_shown F10 T cSL cPush, b10, k10, g10⟩
  have cWhole : Cal l.prog w K mg base 1 "_law_whole" ["_law_found"] spWhole := ⟨_, _, ok_whole F14 T, b14, k14, g14⟩
  have cAt : Cal l.prog w K mg base 1 "_law_at" ["_law_script", "_law_k"] (spAt K) := ⟨_, _, ok_at F15 T, b15, k15, g15⟩
  have cWord : Cal l.prog w K mg base 1 "_law_any_word" ["_law_cell"] spWord := ⟨_, _, ok_any_word F16 T, b16, k16, g16⟩
  have cLeaf : Cal l.prog w K mg base 2 "_law_leaf" ["_law_cell"] spLeaf := ⟨_, _, ok_leaf F17 T cWord, b17, k17, g17⟩
  have cHead : Cal l.prog w K mg base 2 "_law_head" ["_law_cell"] spHead := ⟨_, _, ok_head F18 T cWord, b18, k18, g18⟩
  have cMany : Cal l.prog w K mg base 1 "_law_many_parts" ["_law_cell", "_law_count"] spMany := ⟨_, _, ok_many F19 T, b19, k19, g19⟩
  have cGrown : Cal l.prog w K mg base 3 "_law_grown" ["_law_cells"] (spGrown K) := ⟨_, _, ok_grown F20 T cMany cLeaf cHead, b20, k20, g20⟩
  have cLet : Cal l.prog w K mg base 1 "_law_letters" ["_law_found"] spLetters := ⟨_, _, ok_letters F21 T, b21, k21, g21⟩
  have cSmall : Cal l.prog w K mg base 2 "_law_small" ["_law_part"] spSmall := ⟨_, _, ok_small F22 T cWhole cLet, b22, k22, g22⟩
  have cTerm : Cal l.prog w K mg base 3 "_law_is_term" ["_law_found"] spIsTerm := ⟨_, _, ok_is_term F23 T cSmall cLet, b23, k23, g23⟩
  have cLine : Cal l.prog w K mg base 1 "_law_line_of" ["_law_term"] spShownG := ⟨_, _, ok_line_of F24 T, b24, k24, g24⟩
  have cFr : Cal l.prog w K mg base 1 "_law_framed" ["_law_line"] spFramed := ⟨_, _, ok_framed F25 T, b25, k25, g25⟩
  have cAsk : Cal l.prog w K mg base 4 "_law_asked" ["_law_script"] (spAsked K) := ⟨_, _, ok_asked F26 T cAt cGrown cLine cFr, b26, k26, g26⟩
  have cKind : Cal l.prog w K mg base 2 "_law_kind" ["_law_signs"] spKind := ⟨_, _, ok_kind F27 T cLet, b27, k27, g27⟩
  have cMk : Cal l.prog w K mg base 3 "_law_marked" ["_law_line"] spMarked := ⟨_, _, ok_marked F28 T cKind, b28, k28, g28⟩
  have cWell : Cal l.prog w K mg base 4 "_law_well" ["_law_line"] spWell := ⟨_, _, ok_well F29 T cMk, b29, k29, g29⟩
  have cTells : Cal l.prog w K mg base 8 "_law_base_tells" ["_law_line"] (spTells aNoTerm) := ⟨_, _, ok_tells F30 T ER cRead, b30, k30, g30⟩
  exact ok_law F31 T ER cAsk cRead cTells cWell cTerm cShown cLine
theorem walk {l : PySem.W.OpenLaw} {q : Program} {loose : List Str} {XP : (Str → Option Value) → Heap → Prop} {YP : World → Heap → Prop} {d : DefRec} {K : Params → PySem.W.Frag} (hn : l.most = some 63) (hdf : d.params.defaults = [])
    (hY : ∀ (w : World) (h : Heap), YP w h → (K w.params).In h)
    (F : ∀ (w : World) (mg : Str → Option Value) (fa : Addr) (h : Heap), (K w.params).In h → h.Ns mainGlobals mg → mg d.name = some (.ref fa) →
      ∃ fd : FuncData, (∀ (s : Shared) (u : Value), BindsTo s fd ⟨[u], []⟩ [("_law_script", u)]) ∧ ∀ base : Heap, (K w.params).In base → base.Ns mainGlobals mg → FnOk l.prog w (K w.params) mg base CX0 9 fa fd ["_law_script"] (spLaw (K w.params))) :
    PySem.W.WalkO q loose XP YP l.row.toRowW d [] (fun f vs => PySem.call f vs) :=
  L2.walk_of (n := 63) (k := 9) (x := "_law_script") (CX := fun _ => CX0) (sp := fun w => spLaw (K w.params)) hn (by decide) hdf ⟨rfl, by decide, by decide⟩ hY F (fun _ _ a ns hl _ hS => ⟨a, ns, rfl, hS, hl, fun _ => rfl⟩) fun _ _ _ _ _ z => z
end K02
open PySem PySem.W PyProof.Rows
set_option maxRecDepth 100000 in
set_option maxHeartbeats 0 in
theorem PySem.Challenge.cw_blankform_k02_whole_read_or_refused_holds : PySem.Challenge.rw_blankform_k02_whole_read_or_refused.Holds := by
  w_on; o_law; k_head; (case hw => w_witness2)
  k_fill
  refine K02.walk (l := PySem.Challenge.rw_blankform_k02_whole_read_or_refused) rfl rfl (fun w h Y => PySem.W.kIn_of Y) ?F
  case F =>
    intro w mg fa h KX G hmg
    refine' K02.all_mk KX G hmg ?aCReader ?a1 ?l1 ?c1 ?k1 ?i1 ?a2 ?l2 ?c2 ?k2 ?i2 ?a3 ?l3 ?c3 ?k3 ?i3 ?a4 ?l4 ?c4 ?k4 ?i4 ?a5 ?l5 ?c5 ?k5 ?i5 ?a6 ?l6 ?c6 ?k6 ?i6 ?a7 ?l7 ?c7 ?k7 ?i7 ?a8 ?l8 ?c8 ?k8 ?i8 ?a9 ?l9 ?c9 ?k9 ?i9 ?pgReader ?hdReader ?poReader ?saReader ?mkReader ?kcReader ?nReader_line ?nReader_place ?nReader_begun ?a10 ?l10 ?c10 ?k10 ?a11 ?l11 ?c11 ?k11 ?a12 ?l12 ?c12 ?k12 ?a13 ?l13 ?c13 ?k13 ?a14 ?l14 ?c14 ?k14 ?a15 ?l15 ?c15 ?k15 ?a16 ?l16 ?c16 ?k16 ?a17 ?l17 ?c17 ?k17 ?a18 ?l18 ?c18 ?k18 ?a19 ?l19 ?c19 ?k19 ?a20 ?l20 ?c20 ?k20 ?a21 ?l21 ?c21 ?k21 ?a22 ?l22 ?c22 ?k22 ?a23 ?l23 ?c23 ?k23 ?a24 ?l24 ?c24 ?k24 ?a25 ?l25 ?c25 ?k25 ?a26 ?l26 ?c26 ?k26 ?a27 ?l27 ?c27 ?k27 ?a28 ?l28 ?c28 ?k28 ?a29 ?l29 ?c29 ?k29 ?a30 ?l30 ?c30 ?k30 ?a31 ?l31 ?c31 ?k31 ?qmP ?qmT ?qmF ?qeT ?qx1 ?qx2 ?qg1 ?qg2 ?qg3 ?qg4 ?qg5 ?qg6 ?qkk1 ?qkk2 ?qkk3 ?qzV ?z_len ?z_abs ?z_isinstance ?z_int ?z_bool ?z_str ?z_tuple ?z_list ?z_reversed ?z_range
    all_goals try (first | k_is | k_exc | kit_is | kts_exm)
#print axioms PySem.Challenge.cw_blankform_k02_whole_read_or_refused_holds
