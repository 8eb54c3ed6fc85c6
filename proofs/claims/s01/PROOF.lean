import PyProof.Rows.All
import Wide.All
import OpenK.AllK
import Wide.FinOn
import PyProof.EqAt
import PyProof.EqKinds
import PyProof.TupleCall
import KE.BitLaws
import Open.SpecLaws
import KE.OsHead
import KE.OsGo
import KE.SpHead
import KE.OsShapes
import PyFlatLaws
import PySem.Challenge.RW_roadlaid_s01_answers
section
set_option Elab.async false
set_option linter.all false
set_option maxRecDepth 100000
/-! THE HAND LAYER, for ints, bools, texts, own classes, lists, tuples, dicts, comprehensions, walks over dicts, enumerate, zip, reversed, texts, calls, loops. Paste it whole ahead of your own text; what your proof does not reach may be deleted. -/
namespace L2
open PySem PySem.Spec PyProof.Rows

/-- a key: an int or a str -/
abbrev Key := Sum Int Str
def keyIs : Key → Value → Bool
  | .inl k, v => Value.isInt k v
  | .inr x, v => Value.isStrOf x v
def keyH (w : World) : Key → Int
  | .inl k => hashInt k
  | .inr x => hashStr w x
theorem keyIs_shape : ∀ {k : Key} {v : Value}, keyIs k v = true → (∃ i t, k = Sum.inl i ∧ v = Value.int i t) ∨ (∃ x t, k = Sum.inr x ∧ v = Value.str x t)
  | .inl i, v, h => by
    obtain ⟨t, e⟩ := Value.isInt_shape (k := i) (v := v) h
    exact .inl ⟨i, t, rfl, e⟩
  | .inr x, v, h => by
    obtain ⟨t, e⟩ := Value.isStrOf_shape (x := x) (v := v) h
    exact .inr ⟨x, t, rfl, e⟩
theorem keyIs_int (i : Int) (t : Tok) : keyIs (.inl i) (.int i t) = true := by simp [keyIs, Value.isInt]
theorem keyIs_str (x : Str) (t : Tok) : keyIs (.inr x) (.str x t) = true := by simp [keyIs, Value.isStrOf]
theorem key_ll (a b : Int) : decide ((Sum.inl a : Key) = Sum.inl b) = (a == b) := by
  by_cases e : a = b
  · subst e; simp
  · have h : ¬ (Sum.inl a : Key) = Sum.inl b := fun q => e (Sum.inl.inj q)
    rw [decide_eq_false h]
    exact (beq_eq_false_iff_ne.mpr e).symm
theorem key_rr (a b : Str) : decide ((Sum.inr a : Key) = Sum.inr b) = decide (a = b) := by
  by_cases e : a = b
  · subst e; simp
  · have h : ¬ (Sum.inr a : Key) = Sum.inr b := fun q => e (Sum.inr.inj q)
    rw [decide_eq_false h, decide_eq_false e]
theorem key_lr (a : Int) (b : Str) : decide ((Sum.inl a : Key) = Sum.inr b) = false := decide_eq_false (fun q => nomatch q)
theorem key_rl (a : Str) (b : Int) : decide ((Sum.inr a : Key) = Sum.inl b) = false := decide_eq_false (fun q => nomatch q)

def mixKind (prog : Program) (w : World) : PySem.KeyKind prog w Key where
  is := keyIs
  hash := keyH w
  inj := fun v a b ha hb => by
    rcases keyIs_shape ha with ⟨i, t, rfl, rfl⟩ | ⟨x, t, rfl, rfl⟩
    · rcases keyIs_shape hb with ⟨j, u, rfl, e⟩ | ⟨y, u, rfl, e⟩
      · injection e with e1 _; rw [e1]
      · exact nomatch e
    · rcases keyIs_shape hb with ⟨j, u, rfl, e⟩ | ⟨y, u, rfl, e⟩
      · exact nomatch e
      · injection e with e1 _; rw [e1]
  byValue := fun k v h => by
    rcases keyIs_shape h with ⟨i, t, rfl, rfl⟩ | ⟨x, t, rfl, rfl⟩ <;> rfl
  pyHash := fun hv h => by
    rcases keyIs_shape hv with ⟨i, t, rfl, rfl⟩ | ⟨x, t, rfl, rfl⟩
    · exact wpAny_pyHash_int h
    · exact wpAny_pyHash_str h
  eqBool := fun hu hv h => by
    rcases keyIs_shape hu with ⟨i, t, rfl, rfl⟩ | ⟨x, t, rfl, rfl⟩
    · rcases keyIs_shape hv with ⟨j, u, rfl, rfl⟩ | ⟨y, u, rfl, rfl⟩
      · rw [key_ll] at h; exact wpAny_eqBool_int h
      · rw [key_lr] at h; exact SeqAt.EqAt.int_str i t y u _ _ _ _ h
    · rcases keyIs_shape hv with ⟨j, u, rfl, rfl⟩ | ⟨y, u, rfl, rfl⟩
      · rw [key_rl] at h; exact SeqAt.EqAt.str_int x t j u _ _ _ _ h
      · rw [key_rr] at h; exact wpAny_eqBool_str h
  «strs» := fun k x t v h => by
    rcases keyIs_shape h with ⟨i, u, rfl, e⟩ | ⟨y, u, rfl, e⟩
    · exact nomatch e
    · injection e with e1 _
      subst e1
      cases v <;> rfl

theorem mixKind_int (prog : Program) (w : World) (i : Int) (t : Tok) : (mixKind prog w).is (.inl i) (.int i t) = true := keyIs_int i t
theorem mixKind_str (prog : Program) (w : World) (x : Str) (t : Tok) : (mixKind prog w).is (.inr x) (.str x t) = true := keyIs_str x t
end L2

namespace L2
open PySem PySem.Spec PyProof.Rows

/-- a value, without the heap -/
inductive V where
  | non | bl (b : Bool) | int (i : Int) | str (x : Str) | byt (b : Array UInt8) | flt (b : UInt64) | ref (a : Addr) | ty (n : String)
  deriving DecidableEq

def RelV : V → Value → Prop
  | .non, u => u = Value.none
  | .bl b, u => u = Value.bool b
  | .int i, u => ∃ t, u = Value.int i t
  | .str x, u => ∃ t, u = Value.str x t
  | .byt b, u => ∃ t, u = Value.bytes b t
  | .flt b, u => ∃ t, u = Value.float b t
  | .ref a, u => u = Value.ref a
  | .ty n, u => u = Value.type n

abbrev Vals : List V → List Value → Prop := Paired RelV
theorem Vals.length {xs : List V} {us : List Value} (r : Vals xs us) : xs.length = us.length := Paired.length r
theorem Vals.get : ∀ {xs : List V} {us : List Value} {i : Nat} {x : V}, Vals xs us → xs[i]? = some x → ∃ u, us[i]? = some u ∧ RelV x u
  | _, _, _, _, .nil, e => by simp at e
  | _, _, 0, _, .cons r _, e => by simp at e; subst e; exact ⟨_, rfl, r⟩
  | _, _, i + 1, x, .cons _ t, e => by
    obtain ⟨u, h1, h2⟩ := Vals.get (i := i) (x := x) t (by simpa using e)
    exact ⟨u, by simpa using h1, h2⟩
theorem Vals.set {x : V} {u : Value} (r : RelV x u) : ∀ {xs : List V} {us : List Value} (i : Nat), Vals xs us → Vals (xs.set i x) (us.set i u)
  | _, _, _, .nil => .nil
  | _, _, 0, .cons _ t => .cons r t
  | _, _, i + 1, .cons q t => .cons q (Vals.set r i t)
theorem Vals.append : ∀ {xs ys : List V} {us ws : List Value}, Vals xs us → Vals ys ws → Vals (xs ++ ys) (us ++ ws)
  | _, _, _, _, .nil, s => s
  | _, _, _, _, .cons r t, s => .cons r (Vals.append t s)
theorem Vals.take : ∀ {xs : List V} {us : List Value} (n : Nat), Vals xs us → Vals (xs.take n) (us.take n)
  | _, _, 0, _ => .nil
  | _, _, _ + 1, .nil => .nil
  | _, _, n + 1, .cons r t => .cons r (Vals.take n t)
theorem Vals.drop : ∀ {xs : List V} {us : List Value} (n : Nat), Vals xs us → Vals (xs.drop n) (us.drop n)
  | _, _, 0, r => r
  | _, _, _ + 1, .nil => .nil
  | _, _, n + 1, .cons _ t => Vals.drop n t

def RelO : Option V → Option Value → Prop
  | some v, some u => RelV v u
  | none, none => True
  | _, _ => False
def KV {κ : Type} : List (κ × V) → List (κ × Value) → Prop := Paired fun (p : κ × V) (q : κ × Value) => p.1 = q.1 ∧ RelV p.2 q.2

/-- a key of a dict (00_mix): an int or a text -/
def kV : Key → V
  | .inl i => .int i
  | .inr x => .str x

/-- what stands at a tracked address -/
inductive HO where
  /-- a list -/
  | lst (xs : List V)
  /-- a tuple (never changes) -/
  | tup (xs : List V)
  /-- a dict whose keys are ints and texts; one whose keys are tuples of ints and texts (the empty one is both) -/
  | dK (kvs : List (Key × V)) | dT (kvs : List (List Key × V))
  /-- a set of ints: its members, its size -/
  | set (S : Int → Bool) (n : Nat)
  /-- an instance of the class at C, its dict at dx, its attributes -/
  | ins (C dx : Addr) (fs : List (Str × V))
  /-- the dict of the instance at x -/
  | own (x : Addr)
  /-- the dict of an exception -/
  | xd (fs : List (Str × V))
  /-- a bound method, f of x -/
  | met (f x : Addr)
  /-- a range object lo, lo + 1, .. below hi -/
  | rng (lo hi : Int)
  /-- a thing that is known to the object (the script; a dict while a loop walks it): read, never written while it is so -/
  | frz (o : Obj) (u : HO)
  /-- a code object's table -/
  | tbl (ps : Array Value)
  /-- any other thing, by what is true of its one object (a def of one's own: SetO a S n := HO.ext fun h => ..) -/
  | ext (φ : Heap → Prop)

abbrev Hp := Addr → Option HO
def upd (H : Hp) (a : Addr) (o : HO) : Hp := fun b => if b = a then some o else H b
theorem upd_same {H : Hp} {a : Addr} {o : HO} : upd H a o a = some o := by unfold upd; rw [if_pos rfl]
theorem upd_ne {H : Hp} {a b : Addr} {o : HO} (h : b ≠ a) : upd H a o b = H b := by unfold upd; rw [if_neg h]
/-- two objects of different content stand apart -/
theorem ne_of {H : Hp} {a b : Addr} {o u : HO} (h : H a = some o) (h' : H b = some u) (d : o ≠ u) : a ≠ b := by
  intro e; subst e; rw [h] at h'; exact d (Option.some.inj h')
theorem ne_of_none {H : Hp} {a b : Addr} {o : HO} (h : H a = some o) (h' : H b = none) : a ≠ b := by
  intro e; subst e; rw [h] at h'; cases h'

section
variable (P : Program) (w : World)
def ObjOk (H : Hp) (h : Heap) (a : Addr) : HO → Prop
  | .lst xs => xs.length ≤ sizeLine ∧ ∃ (its : List Value) (n : Nat), Vals xs its ∧ h.get? a = some { cls := .type "list", data := .seq its.toArray n }
  | .tup xs => xs.length ≤ sizeLine ∧ ∃ its : List Value, Vals xs its ∧ IsTup h a its.toArray
  | .dK kvs => kvs.length ≤ sizeLine ∧ (a == sysModules) = false ∧ ∃ vs, KV kvs vs ∧ h.DictOf (mixKind P w) a vs
  | .dT kvs => kvs.length ≤ sizeLine ∧ (a == sysModules) = false ∧ ∃ xs : List (List Key × Addr × Value),
      Paired (fun (p : List Key × V) (q : List Key × Addr × Value) => p.1 = q.1 ∧ H q.2.1 = some (.tup (p.1.map kV)) ∧ RelV p.2 q.2.2) kvs xs ∧
      ∃ o es ep, h.get? a = some o ∧ o.ExactDict ∧ o.data = .dict es ep ∧ es.toList = xs.map (entryOfKey (tupleKind (mixKind P w))) ∧ (xs.map (·.1)).Nodup
  | .set S n => h.SetOf (intKind P w) a S n
  | .ins C dx fs => H dx = some (.own a) ∧ fs.length ≤ 1000 ∧ dx ≠ a ∧ h.get? a = some (PySem.W.instObj C dx) ∧
      ∃ mA, h.Ns1 dx mA ∧ (∀ f, RelO (fs.lookup f) (mA f)) ∧ PySem.Within mA (fs.map (·.1))
  | .own _ => ∃ o, h.get? a = some o
  | .xd fs => ∃ mA, h.Ns1 a mA ∧ ∀ f, RelO (fs.lookup f) (mA f)
  | .rng lo hi => ∃ t u v, h.get? a = some { cls := .type "range", data := .fields #[.int lo t, .int hi u, .int 1 v] }
  | .frz o u => h.get? a = some o ∧ ObjOk H h a u
  | .tbl ps => h.get? a = some { cls := .none, data := .fields ps }
  | .met f x => h.get? a = some (PySem.W.methodObj (.ref f) (.ref x))
  | .ext φ => φ h ∧ (∃ o, h.get? a = some o) ∧ ∀ h1 h2 : Heap, φ h1 → (∀ o, h1.get? a = some o → h2.get? a = some o) → φ h2
/-- the abstract heap is held -/
def HOk (H : Hp) (h : Heap) : Prop := ∀ a o, H a = some o → ObjOk P w H h a o
end

section
variable {P : Program} {w : World} {H H' : Hp} {h h' : Heap} {a : Addr} {o : HO}
theorem ObjOk.lt (x : ObjOk P w H h a o) : a < h.objs.size := by
  cases o with
  | lst xs => obtain ⟨_, _, _, _, e⟩ := x; exact Heap.lt_size e
  | tup xs => obtain ⟨_, _, _, p⟩ := x; exact p.lt
  | dK kvs => obtain ⟨_, _, _, _, o, _, _, e, _⟩ := x; exact Heap.lt_size e
  | dT kvs => obtain ⟨_, _, _, _, o, _, _, e, _⟩ := x; exact Heap.lt_size e
  | set S n => obtain ⟨o, _, _, _, e, _⟩ := x; exact Heap.lt_size e
  | ins C dx fs => obtain ⟨_, _, _, e, _⟩ := x; exact Heap.lt_size e
  | own y => obtain ⟨_, e⟩ := x; exact Heap.lt_size e
  | xd fs => obtain ⟨_, ⟨_, _, _, e, _⟩, _⟩ := x; exact Heap.lt_size e
  | rng lo hi => obtain ⟨_, _, _, e⟩ := x; exact Heap.lt_size e
  | frz ob u => obtain ⟨e, _⟩ := x; exact Heap.lt_size e
  | tbl ps => exact Heap.lt_size (show h.get? a = some _ from x)
  | met f y => exact Heap.lt_size (show h.get? a = some _ from x)
  | ext φ => obtain ⟨_, ⟨_, e⟩, _⟩ := x; exact Heap.lt_size e
theorem Paired.mapP {α β : Type} {F G : α → β → Prop} : ∀ {l₁ : List α} {l₂ : List β}, Paired F l₁ l₂ → (∀ a b, F a b → G a b) → Paired G l₁ l₂
  | _, _, .nil, _ => .nil
  | _, _, .cons r t, f => .cons (f _ _ r) (Paired.mapP t f)
/-- what an object's description leans on: its own object, its own dict, the tuples -/
theorem ObjOk.stay (x : ObjOk P w H h a o) (k : ∀ b u, (b = a ∨ H b = some (.own a)) → h.get? b = some u → h'.get? b = some u)
    (ho : ∀ b, H b = some (.own a) → H' b = some (.own a)) (ht : ∀ b xs, H b = some (.tup xs) → H' b = some (.tup xs)) : ObjOk P w H' h' a o := by
  induction o with
  | lst xs => obtain ⟨z, its, n, r, e⟩ := x; exact ⟨z, its, n, r, k _ _ (.inl rfl) e⟩
  | tup xs => obtain ⟨z, its, r, ob, e, c⟩ := x; exact ⟨z, its, r, ob, k _ _ (.inl rfl) e, c⟩
  | dK kvs => obtain ⟨z, y, vs, r, ob, es, ep, e, c⟩ := x; exact ⟨z, y, vs, r, ob, es, ep, k _ _ (.inl rfl) e, c⟩
  | dT kvs =>
    obtain ⟨z, y, xs, r, ob, es, ep, e, c⟩ := x
    exact ⟨z, y, xs, Paired.mapP r fun p q z => ⟨z.1, ht _ _ z.2.1, z.2.2⟩, ob, es, ep, k _ _ (.inl rfl) e, c⟩
  | set S n => obtain ⟨ob, es, ep, t, e, c⟩ := x; exact ⟨ob, es, ep, t, k _ _ (.inl rfl) e, c⟩
  | ins C dx fs =>
    obtain ⟨d, z, ne, e, mA, ⟨od, es, ep, e2, c⟩, r⟩ := x
    exact ⟨ho _ d, z, ne, k _ _ (.inl rfl) e, mA, ⟨od, es, ep, k _ _ (.inr d) e2, c⟩, r⟩
  | own y => obtain ⟨ob, e⟩ := x; exact ⟨ob, k _ _ (.inl rfl) e⟩
  | xd fs => obtain ⟨mA, ⟨od, es, ep, e, c⟩, r⟩ := x; exact ⟨mA, ⟨od, es, ep, k _ _ (.inl rfl) e, c⟩, r⟩
  | rng lo hi => obtain ⟨t, u, v, e⟩ := x; exact ⟨t, u, v, k _ _ (.inl rfl) e⟩
  | frz ob u ih => obtain ⟨e, q⟩ := x; exact ⟨k _ _ (.inl rfl) e, ih q⟩
  | tbl ps =>
    have e : h.get? a = some { cls := .none, data := .fields ps } := x
    show h'.get? a = some { cls := .none, data := .fields ps }
    exact k a _ (.inl rfl) e
  | met f y =>
    have e : h.get? a = some (PySem.W.methodObj (.ref f) (.ref y)) := x
    show h'.get? a = some (PySem.W.methodObj (.ref f) (.ref y))
    exact k a _ (.inl rfl) e
  | ext φ => obtain ⟨p, ⟨o, e⟩, st⟩ := x; exact ⟨st _ _ p fun o q => k _ _ (.inl rfl) q, ⟨o, k _ _ (.inl rfl) e⟩, st⟩
theorem HOk.lt (x : HOk P w H h) (e : H a = some o) : a < h.objs.size := (x a o e).lt
theorem HOk.fresh (x : HOk P w H h) (e : h.objs.size ≤ a) : H a = none := by
  cases q : H a with
  | none => rfl
  | some u => exact absurd (Nat.lt_of_lt_of_le (x.lt q) e) (Nat.lt_irrefl _)
/-- every object of the heap is kept -/
theorem HOk.kept (x : HOk P w H h) (k : ∀ b u, h.get? b = some u → h'.get? b = some u) : HOk P w H h' := fun a o e =>
  (x a o e).stay (fun b u _ q => k b u q) (fun _ q => q) fun _ _ q => q
/-- a new object is laid and tracked -/
theorem HOk.laid (x : HOk P w H h) (k : ∀ b u, h.get? b = some u → h'.get? b = some u) (hp : h.objs.size ≤ a) (new : ObjOk P w (upd H a o) h' a o) : HOk P w (upd H a o) h' := fun b u e => by
  have hn := x.fresh hp
  by_cases hb : b = a
  · subst hb; rw [upd_same] at e; cases e; exact new
  · rw [upd_ne hb] at e
    exact (x b u e).stay (fun c v _ q => k c v q) (fun c q => by rw [upd_ne (ne_of_none q hn)]; exact q) fun c xs q => by rw [upd_ne (ne_of_none q hn)]; exact q
end

/-- what may be read as u: it is u, or a known u -/
def Rd (H : Hp) (a : Addr) (u : HO) : Prop := H a = some u ∨ ∃ o, H a = some (.frz o u)
theorem Rd.ok {P : Program} {w : World} {H : Hp} {h : Heap} {a : Addr} {u : HO} (r : Rd H a u) (x : HOk P w H h) : ObjOk P w H h a u := by
  rcases r with r | ⟨o, r⟩
  · exact x a u r
  · obtain ⟨_, q⟩ := x a _ r
    exact q
/-- what may be written -/
def Mut : Option HO → Prop
  | some (.lst _) => True
  | some (.dK _) => True
  | some (.dT _) => True
  | some (.set _ _) => True
  | some (.ins _ _ _) => True
  | some (.ext _) => True
  | _ => False
section
variable {P : Program} {w : World} {H : Hp} {h h' : Heap} {x e : Addr} {o' : HO}
/-- the object at e is changed: x itself, or the dict of the instance x -/
theorem HOk.write (ok : HOk P w H h) (mu : Mut (H x)) (he : e = x ∨ H e = some (.own x)) (k : ∀ b u, b ≠ e → h.get? b = some u → h'.get? b = some u) (heo : ∃ u, h'.get? e = some u)
    (new : ObjOk P w (upd H x o') h' x o') : HOk P w (upd H x o') h' := fun b u q => by
  have nown : ∀ c y, H c = some (.own y) → c ≠ x := fun c y r z => by subst z; rw [r] at mu; exact mu
  have ntup : ∀ c xs, H c = some (.tup xs) → c ≠ x := fun c xs r z => by subst z; rw [r] at mu; exact mu
  by_cases hb : b = x
  · subst hb; rw [upd_same] at q; cases q; exact new
  · rw [upd_ne hb] at q
    by_cases hbe : b = e
    · have q' : H b = some (.own x) := by
        rcases he with z | z
        · exact absurd (hbe.trans z) hb
        · rw [hbe]; exact z
      rw [q] at q'; cases q'
      obtain ⟨v, hv⟩ := heo
      exact ⟨v, by rw [hbe]; exact hv⟩
    · refine (ok b u q).stay (fun c v hc r => k c v ?_ r) (fun c r => by rw [upd_ne (nown c b r)]; exact r) fun c xs r => by rw [upd_ne (ntup c xs r)]; exact r
      rcases hc with rfl | hc
      · exact hbe
      · rintro rfl
        rcases he with z | z
        · exact nown c b hc z
        · rw [hc] at z; cases z; exact hb rfl
end

/-! ### kept unless tracked; of the frames at fs (the callers') the slots may change (an exception that passes writes there); of the records at ex (iterators) nothing is said -/
structure Un (fs ex : List Addr) (H H' : Hp) (h h' : Heap) : Prop where
  keep : ∀ b o, h.get? b = some o → H b = none → b ∉ fs → b ∉ ex → h'.get? b = some o
  slot : ∀ b o, h.get? b = some o → H b = none → b ∈ fs → b ∉ ex → ∃ sl, h'.get? b = some { o with slots := sl }
  free : ∀ b o, h.get? b = some o → H b = none → b ∉ ex → H' b = none
  there : ∀ b o, h.get? b = some o → b ∉ ex → ∃ o', h'.get? b = some o'
  tups : ∀ b xs, H b = some (.tup xs) → H' b = some (.tup xs)
  frzs : ∀ b o u, H b = some (.frz o u) → H' b = some (.frz o u)
  tbls : ∀ b ps, H b = some (.tbl ps) → ∃ more, H' b = some (.tbl (ps ++ more))
section
variable {fs fs' ex ex' : List Addr} {H H1 H2 : Hp} {h h1 h2 h' : Heap} {a x e : Addr} {o : HO}
theorem Un.any (u : Un fs ex H H1 h h1) {b : Addr} {ob : Obj} (q : h.get? b = some ob) (n : H b = none) (hx : b ∉ ex) : ∃ sl, h1.get? b = some { ob with slots := sl } := by
  by_cases hb : b ∈ fs
  · exact u.slot b ob q n hb hx
  · exact ⟨ob.slots, u.keep b ob q n hb hx⟩
theorem Un.kept (k : ∀ b u, h.get? b = some u → h'.get? b = some u) : Un fs ex H H h h' :=
  ⟨fun b ob q _ _ _ => k b ob q, fun b ob q _ _ _ => ⟨ob.slots, k b ob q⟩, fun _ _ _ n _ => n, fun b ob q _ => ⟨ob, k b ob q⟩, fun _ _ q => q, fun _ _ _ q => q, fun _ ps q => ⟨#[], by rw [q]; simp⟩⟩
theorem Un.refl : Un fs ex H H h h := Un.kept fun _ _ q => q
theorem Un.laid (k : ∀ b u, h.get? b = some u → h'.get? b = some u) (hp : h.objs.size ≤ a) (hn : H a = none) : Un fs ex H (upd H a o) h h' where
  keep := fun b u q _ _ _ => k b u q
  slot := fun b u q _ _ _ => ⟨u.slots, k b u q⟩
  free := fun b u q n _ => by rw [upd_ne (Nat.ne_of_lt (Nat.lt_of_lt_of_le (Heap.lt_size q) hp))]; exact n
  there := fun b u q _ => ⟨u, k b u q⟩
  tups := fun b xs q => by rw [upd_ne (ne_of_none q hn)]; exact q
  frzs := fun b u xs q => by rw [upd_ne (ne_of_none q hn)]; exact q
  tbls := fun b ps q => ⟨#[], by rw [upd_ne (ne_of_none q hn), q]; simp⟩
theorem Un.write (mu : Mut (H x)) (he : e = x ∨ H e = some (.own x)) (k : ∀ b u, b ≠ e → h.get? b = some u → h'.get? b = some u) (heo : ∃ u, h'.get? e = some u) : Un fs ex H (upd H x o) h h' := by
  have hx : ∀ b, H b = none → b ≠ x := fun b n z => by subst z; rw [n] at mu; exact mu
  have hb : ∀ b, H b = none → b ≠ e := fun b n z => by
    subst z
    rcases he with r | r
    · exact hx b n r
    · rw [n] at r; cases r
  have hm : ∀ b u, H b = some u → ¬ Mut (some u) → b ≠ x := fun b u q nm z => by subst z; rw [q] at mu; exact nm mu
  refine ⟨fun b u q n _ _ => k b u (hb b n) q, fun b u q n _ _ => ⟨u.slots, k b u (hb b n) q⟩, fun b u q n _ => by rw [upd_ne (hx b n)]; exact n, fun b u q _ => ?_,
    fun b xs q => by rw [upd_ne (hm b _ q fun z => z)]; exact q, fun b u xs q => by rw [upd_ne (hm b _ q fun z => z)]; exact q, fun b ps q => ⟨#[], by rw [upd_ne (hm b _ q fun z => z), q]; simp⟩⟩
  by_cases hbe : b = e
  · subst hbe; exact heo
  · exact ⟨u, k b u hbe q⟩
end

/-! ### the heap without what is tracked -/
def trk (h : Heap) (H : Hp) : List Addr := (List.range h.objs.size).filter fun a => (H a).isSome
def hidT (h : Heap) (H : Hp) : Heap := PySem.W.hideAll h (trk h H)
theorem hidT_size (h : Heap) (H : Hp) : (hidT h H).objs.size = h.objs.size := PySem.W.hideAll_size _ _
theorem hidT_get {h : Heap} {H : Hp} {b : Addr} {o : Obj} (e : h.get? b = some o) (n : H b = none) : (hidT h H).get? b = some o :=
  PySem.W.hideAll_get _ e fun hm => by
    have q : (H b).isSome = true := (List.mem_filter.mp hm).2
    rw [n] at q; simp at q
theorem of_hidT {h : Heap} {H : Hp} {b : Addr} {o : Obj} (e : (hidT h H).get? b = some o) : h.get? b = some o ∧ H b = none := by
  have e' : h.get? b = some o := PySem.W.of_hideAll (trk h H) e
  refine ⟨e', ?_⟩
  cases q : H b with
  | none => rfl
  | some x =>
    have hm : b ∈ trk h H := List.mem_filter.mpr ⟨List.mem_range.mpr (Heap.lt_size e'), by simp [q]⟩
    have z : (hidT h H).get? b = none := PySem.W.hideAll_none (trk h H) hm
    rw [z] at e; cases e

/-! ### OpenK's ledger, filled with every new object but one -/
end L2

namespace L2
open PySem PySem.Spec PyProof.Rows

/-- the module's facts, over the base: the heap at the law's entry without what is tracked there -/
structure Mod (K : PySem.W.Frag) (mg : Str → Option Value) (base : Heap) : Prop where
  kin : K.In base
  glob : base.Ns mainGlobals mg
  blt : ∃ mb, base.Ns builtinsNs mb ∧ ∀ x : Str, x ≠ "__name__" → mb x = bootBuiltins x
  nolimit : base.NoLimit

/-- the context: a def's body (or a comprehension's block) running. base: fixed through the whole law; s₀, H₀: the entry; outer: the frames whose slots others may change (a def's callers); stack: all frames that run;
   ex: iterators that were made ahead of the entry and are walked here (a comprehension's); fn: the names whose cells were made at the entry (a def: all; a comprehension's block: its own); calm: not within an except suite; pn: pins that every state bears; xe: what is wanted of an exception that leaves the code -/
structure Cx where
  prog : Program
  w : World
  K : PySem.W.Frag
  mg : Str → Option Value
  base : Heap
  A : Around
  N : List Str
  s_0 : Shared
  H_0 : Hp
  env : Env
  outer : List Env
  stack : List Env
  ex : List Addr
  fn : Str → Bool
  calm : Bool
  pn : List (Addr × Obj)
  xe : Value → Shared → Prop
/-- the callers' frames -/
def frs (l : List Env) : List Addr := l.filterMap (·.frame)
abbrev Cx.fs (X : Cx) : List Addr := frs X.outer

def Vis (sc : Scope) (x : Str) : Prop := sc.names.lookup x = some .local ∨ sc.names.lookup x = some .cell ∨ sc.names.lookup x = some .free
def Loc (sc : Scope) (x : Str) : Prop := sc.names.lookup x = some .local ∨ sc.names.lookup x = some .cell
def Look (env : Env) (h : Heap) (m : Str → Option Value) (x : Str) (u : Value) : Prop :=
  (env.kindOf x = some .local ∧ m x = some u) ∨ ((env.kindOf x = some .cell ∨ env.kindOf x = some .free) ∧ ∃ c, env.cells.lookup x = some c ∧ h.IsCell c (some u))

structure Cx.Ok (X : Cx) : Prop where
  mod : Mod X.K X.mg X.base
  kind : X.env.scope.kind = .function
  glob : X.env.globals = mainGlobals
  blt : X.env.builtins = builtinsNs
  above : X.s_0.heap.objs.size ≤ X.env.locals
  inj : ∀ x y c, X.env.cells.lookup x = some c → X.env.cells.lookup y = some c → x = y
  has : ∀ x, (X.env.kindOf x = some .cell ∨ X.env.kindOf x = some .free) → ∃ c, X.env.cells.lookup x = some c
  cab : ∀ x c, X.fn x = true → X.env.cells.lookup x = some c → X.s_0.heap.objs.size ≤ c
  hd : X.calm = true → X.A.handled = none
  frames : X.A.frames = some X.stack
  stk : X.stack = X.outer ∨ (X.stack = X.env :: X.outer ∧ X.env.frame = some X.env.locals)
  exf : ∀ b ∈ X.ex, b ≠ X.env.locals ∧ ∀ x c, X.env.cells.lookup x = some c → c ≠ b
  bs : ∀ b o, X.base.get? b = some o → X.s_0.heap.get? b = some o ∧ X.H_0 b = none
  bsz : X.base.objs.size ≤ X.s_0.heap.objs.size
  noex : ∀ b o, X.base.get? b = some o → b ∉ X.ex
  exfs : ∀ b ∈ X.ex, b ∉ X.fs
  funs : X.s_0.heap.FunFrames X.base X.outer
  frf : ∀ b ∈ X.fs, X.H_0 b = none

structure Inv (X : Cx) (pins : List (Addr × Obj)) (σ : List (Option V)) (H : Hp) (s : Shared) : Prop where
  ok : X.Ok
  os : s.os = X.s_0.os
  bare : AllBare s.gens
  base : Un X.fs X.ex X.H_0 H X.s_0.heap s.heap
  loc : ∃ m, s.heap.Ns X.env.locals m ∧ ∀ (i : Nat) (x : Str) (v : V), X.N[i]? = some x → σ[i]? = some (some v) → Vis X.env.scope x → ∃ u, RelV v u ∧ Look X.env s.heap m x u
  cell : ∀ x c, X.env.cells.lookup x = some c → ∃ v, s.heap.IsCell c v
  free : H X.env.locals = none
  freeC : ∀ x c, X.env.cells.lookup x = some c → H c = none
  pin : ∀ p ∈ X.pn ++ pins, s.heap.get? p.1 = some p.2 ∧ H p.1 = none ∧ p.1 ≠ X.env.locals ∧ p.1 ∉ X.fs ∧ ∀ v, p.2.data ≠ .cell v
  hok : HOk X.prog X.w H s.heap
  len : σ.length = X.N.length

section
variable {X : Cx} {pins : List (Addr × Obj)} {σ : List (Option V)} {H H' : Hp} {s : Shared} {h' : Heap}

theorem Cx.Ok.nofr (ok : X.Ok) {b : Addr} {o : Obj} (e : X.base.get? b = some o) : b ∉ X.fs := fun hb => by
  have := (ok.funs.mem hb).1
  rw [e] at this; cases this
theorem Inv.bs (I : Inv X pins σ H s) : ∀ b o, X.base.get? b = some o → s.heap.get? b = some o ∧ H b = none := fun b o e =>
  ⟨I.base.keep b o (I.ok.bs b o e).1 (I.ok.bs b o e).2 (I.ok.nofr e) (I.ok.noex b o e), I.base.free b o (I.ok.bs b o e).1 (I.ok.bs b o e).2 (I.ok.noex b o e)⟩
theorem Inv.bk (I : Inv X pins σ H s) : ∀ b o, X.base.get? b = some o → s.heap.get? b = some o := fun b o e => (I.bs b o e).1
theorem Inv.mod (I : Inv X pins σ H s) : Mod X.K X.mg X.base := I.ok.mod
theorem Inv.kIn (I : Inv X pins σ H s) : X.K.In s.heap := I.ok.mod.kin.keeps I.bk
theorem Inv.lt (I : Inv X pins σ H s) : X.env.locals < s.heap.objs.size := let ⟨_, hn, _⟩ := I.loc; hn.lt
theorem Inv.sz (I : Inv X pins σ H s) : X.s_0.heap.objs.size ≤ s.heap.objs.size := Nat.le_trans I.ok.above (Nat.le_of_lt I.lt)
theorem Inv.nofs (I : Inv X pins σ H s) {a : Addr} (h : s.heap.objs.size ≤ a) : a ∉ X.fs := fun hb => by
  obtain ⟨_, o, ho, _⟩ := I.ok.funs.mem hb
  exact absurd (Nat.lt_of_lt_of_le (Heap.lt_size ho) (Nat.le_trans I.sz h)) (Nat.lt_irrefl _)
theorem Inv.cne (I : Inv X pins σ H s) : ∀ x c, X.env.cells.lookup x = some c → c ≠ X.env.locals := fun x c e z => by
  obtain ⟨v, o, ho, hd⟩ := I.cell x c e
  obtain ⟨m, ⟨o', es, ep, ho', hd', _⟩, _⟩ := I.loc
  rw [z, ho'] at ho; cases ho; rw [hd'] at hd; cases hd
theorem Inv.funs (I : Inv X pins σ H s) : s.heap.FunFrames X.base X.outer := by
  have all : ∀ (l : List Env), (∀ b ∈ frs l, b ∈ X.fs) → X.s_0.heap.FunFrames X.base l → s.heap.FunFrames X.base l := by
    intro l
    induction l with
    | nil => intro _ _; trivial
    | cons env r ih =>
      intro hs hl
      obtain ⟨hk, ⟨L, o, hf, hn, ho, hd⟩, hr⟩ := hl
      have hL : L ∈ X.fs := hs L (by unfold frs; rw [List.filterMap_cons, hf]; exact List.mem_cons_self)
      obtain ⟨sl, e⟩ := I.base.slot L o ho (I.ok.frf L hL) hL fun z => I.ok.exfs L z hL
      exact ⟨hk, ⟨L, _, hf, hn, e, hd⟩, ih (fun b hb => hs b (by unfold frs; rw [List.filterMap_cons, hf]; exact List.mem_cons_of_mem _ hb)) hr⟩
  exact all X.outer (fun _ hb => hb) I.ok.funs

/-- the frames that run, for a call -/
theorem Inv.stack (I : Inv X pins σ H s) : s.heap.FunFrames X.base X.stack := by
  rcases I.ok.stk with e | ⟨e, hf⟩
  · rw [e]; exact I.funs
  · rw [e]
    obtain ⟨m, hn, _⟩ := I.loc
    refine .cons (by rw [I.ok.kind]; decide) hf hn ?_ I.funs
    exact Heap.get?_none_of_le (Nat.le_trans I.ok.bsz I.ok.above)
theorem Inv.stkSub (I : Inv X pins σ H s) : ∀ b ∈ frs X.stack, b ∈ X.env.locals :: X.fs := fun b hb => by
  rcases I.ok.stk with e | ⟨e, hf⟩
  · rw [e] at hb; exact List.mem_cons_of_mem _ hb
  · rw [e] at hb
    unfold frs at hb
    rw [List.filterMap_cons, hf] at hb
    exact hb
theorem Inv.stkFree (I : Inv X pins σ H s) : ∀ b ∈ frs X.stack, H b = none := fun b hb => by
  rcases List.mem_cons.mp (I.stkSub b hb) with e | hb
  · rw [e]; exact I.free
  · obtain ⟨_, o, ho, _⟩ := I.ok.funs.mem hb
    exact I.base.free b o ho (I.ok.frf b hb) fun z => I.ok.exfs b z hb

/-- THE STEP: the untracked objects but the frame and the records at ch are kept (the callers' frames up to slots), the frame's map is kept, the new abstract heap is held -/
theorem Inv.step {g' : Array GenState} {t' : Nat} {d' : Drawn} {ch : List Addr} (I : Inv X pins σ H s)
    (hch : ∀ b ∈ ch, (b ∈ X.ex ∨ X.s_0.heap.objs.size ≤ b) ∧ b ≠ X.env.locals ∧ (∀ x c, X.env.cells.lookup x = some c → c ≠ b) ∧ ∀ p ∈ X.pn ++ pins, p.1 ≠ b)
    (keep : ∀ b o, b ≠ X.env.locals → b ∉ X.fs → b ∉ ch → s.heap.get? b = some o → H b = none → h'.get? b = some o)
    (slot : ∀ b o, b ≠ X.env.locals → b ∈ X.fs → b ∉ ch → s.heap.get? b = some o → H b = none → ∃ sl, h'.get? b = some { o with slots := sl }) (free : ∀ b o, b ∉ ch → s.heap.get? b = some o → H b = none → H' b = none)
    (there : ∀ b o, b ∉ ch → s.heap.get? b = some o → ∃ o', h'.get? b = some o')
    (tups : ∀ b xs, H b = some (.tup xs) → H' b = some (.tup xs)) (frzs : ∀ b o u, H b = some (.frz o u) → H' b = some (.frz o u)) (tbls : ∀ b ps, H b = some (.tbl ps) → ∃ more, H' b = some (.tbl (ps ++ more)))
    (ns : ∀ m, s.heap.Ns X.env.locals m → h'.Ns X.env.locals m) (hok : HOk X.prog X.w H' h') (hg : AllBare g') :
    Inv X pins σ H' { s with heap := h', gens := g', drawn := d', toks := t' } := by
  have neL : ∀ b o, X.s_0.heap.get? b = some o → b ≠ X.env.locals := fun b o e => Nat.ne_of_lt (Nat.lt_of_lt_of_le (Heap.lt_size e) I.ok.above)
  have neC : ∀ b o, X.s_0.heap.get? b = some o → b ∉ X.ex → b ∉ ch := fun b o e hx hb => by
    rcases (hch b hb).1 with z | z
    · exact hx z
    · exact absurd (Nat.lt_of_lt_of_le (Heap.lt_size e) z) (Nat.lt_irrefl _)
  have cellK : ∀ x c, X.env.cells.lookup x = some c → ∀ v, s.heap.IsCell c v → h'.IsCell c v := fun x c e v ⟨o, ho, hd⟩ => by
    have nch : c ∉ ch := fun z => (hch c z).2.2.1 x c e rfl
    by_cases hc : c ∈ X.fs
    · obtain ⟨sl, q⟩ := slot c o (I.cne x c e) hc nch ho (I.freeC x c e)
      exact ⟨_, q, hd⟩
    · exact ⟨o, keep c o (I.cne x c e) hc nch ho (I.freeC x c e), hd⟩
  refine ⟨I.ok, I.os, hg, ⟨fun b o e n hb hx => ?_, fun b o e n hb hx => ?_, fun b o e n hx => ?_, fun b o e hx => ?_, fun b xs e => tups b xs (I.base.tups b xs e), fun b o xs e => frzs b o xs (I.base.frzs b o xs e), fun b ps e => ?_⟩, ?_, fun x c e => ?_, ?_, fun x c e => ?_, fun p hp => ?_, hok, I.len⟩
  · exact keep b o (neL b o e) hb (neC b o e hx) (I.base.keep b o e n hb hx) (I.base.free b o e n hx)
  · obtain ⟨sl, e1⟩ := I.base.slot b o e n hb hx
    obtain ⟨sl', e2⟩ := slot b _ (neL b o e) hb (neC b o e hx) e1 (I.base.free b o e n hx)
    exact ⟨sl', e2⟩
  · obtain ⟨o', e1⟩ := I.base.there b o e hx
    exact free b o' (neC b o e hx) e1 (I.base.free b o e n hx)
  · obtain ⟨o', e1⟩ := I.base.there b o e hx
    exact there b o' (neC b o e hx) e1
  · obtain ⟨m1, e1⟩ := I.base.tbls b ps e
    obtain ⟨m2, e2⟩ := tbls b _ e1
    exact ⟨m1 ++ m2, by rw [e2, Array.append_assoc]⟩
  · obtain ⟨m, hn, hl⟩ := I.loc
    refine ⟨m, ns m hn, fun i x v e1 e2 e3 => ?_⟩
    obtain ⟨u, r, l⟩ := hl i x v e1 e2 e3
    refine ⟨u, r, ?_⟩
    rcases l with l | ⟨k, c, e, z⟩
    · exact .inl l
    · exact .inr ⟨k, c, e, cellK x c e _ z⟩
  · obtain ⟨v, z⟩ := I.cell x c e
    exact ⟨v, cellK x c e v z⟩
  · obtain ⟨m, ⟨o, _, _, ho, _⟩, _⟩ := I.loc
    exact free _ o (fun z => (hch _ z).2.1 rfl) ho I.free
  · obtain ⟨v, o, ho, hd⟩ := I.cell x c e
    exact free c o (fun z => (hch c z).2.2.1 x c e rfl) ho (I.freeC x c e)
  · obtain ⟨e, n, ne, nf, d⟩ := I.pin p hp
    have nch : p.1 ∉ ch := fun z => (hch p.1 z).2.2.2 p hp rfl
    exact ⟨keep p.1 p.2 ne nf nch e n, free p.1 p.2 nch e n, ne, nf, d⟩
/-- .. where the frame's own object is kept too -/
theorem Inv.un {t' : Nat} (I : Inv X pins σ H s) (u : Un X.fs [] H H' s.heap h') (hok : HOk X.prog X.w H' h') : Inv X pins σ H' { s with heap := h', toks := t' } := by
  obtain ⟨m, ⟨o, es, ep, ho, r⟩, _⟩ := id I.loc
  obtain ⟨sl, hL⟩ := u.any ho I.free (by simp)
  exact I.step (g' := s.gens) (d' := s.drawn) (ch := []) (fun _ z => nomatch z) (fun b o _ hb _ e n => u.keep b o e n hb (by simp)) (fun b o _ hb _ e n => u.slot b o e n hb (by simp)) (fun b o _ e n => u.free b o e n (by simp)) (fun b o _ e => u.there b o e (by simp)) u.tups u.frzs u.tbls (fun m' hm => by
    obtain ⟨o', es', ep', ho', r'⟩ := hm
    rw [ho] at ho'; cases ho'
    exact ⟨_, es', ep', hL, r'⟩) hok I.bare
/-- behind a call (or a comprehension's block): the slots of this frame may have changed too, the records at ch may have turned -/
theorem Inv.call {g' : Array GenState} {t' : Nat} {d' : Drawn} {ch : List Addr} (I : Inv X pins σ H s) (u : Un (frs X.stack) ch H H' s.heap h') (hok : HOk X.prog X.w H' h') (hg : AllBare g')
    (hch : ∀ b ∈ ch, (b ∈ X.ex ∨ X.s_0.heap.objs.size ≤ b) ∧ b ≠ X.env.locals ∧ (∀ x c, X.env.cells.lookup x = some c → c ≠ b) ∧ ∀ p ∈ X.pn ++ pins, p.1 ≠ b) :
    Inv X pins σ H' { s with heap := h', gens := g', drawn := d', toks := t' } := by
  obtain ⟨m, ⟨o, es, ep, ho, r⟩, _⟩ := id I.loc
  obtain ⟨sl, hL⟩ := u.any ho I.free fun z => (hch _ z).2.1 rfl
  exact I.step (ch := ch) hch (fun b o hL hb hc e n => u.keep b o e n (fun z => (List.mem_cons.mp (I.stkSub b z)).elim hL hb) hc) (fun b o _ _ hc e n => u.any e n hc) (fun b o hc e n => u.free b o e n hc) (fun b o hc e => u.there b o e hc) u.tups u.frzs u.tbls (fun m' hm => by
    obtain ⟨o', es', ep', ho', r'⟩ := hm
    rw [ho] at ho'; cases ho'
    exact ⟨_, es', ep', hL, r'⟩) hok hg
/-- an untracked record of ours (an iterator) has turned -/
theorem Inv.turned {t' : Nat} {it : Addr} (I : Inv X pins σ H s) (k : ∀ b o, b ≠ it → s.heap.get? b = some o → h'.get? b = some o) (hn : H it = none) (hL : it ≠ X.env.locals)
    (h1 : it ∈ X.ex ∨ X.s_0.heap.objs.size ≤ it) (h2 : ∀ x c, X.env.cells.lookup x = some c → c ≠ it) (h3 : ∀ p ∈ X.pn ++ pins, p.1 ≠ it) : Inv X pins σ H { s with heap := h', toks := t' } := by
  have nit : ∀ b u, H b = some u → b ≠ it := fun b u e z => by rw [z, hn] at e; cases e
  refine I.step (g' := s.gens) (d' := s.drawn) (ch := [it]) (fun b hb => ?_) (fun b o _ _ hc e _ => k b o (fun z => hc (by simp [z])) e) (fun b o _ _ hc e _ => ⟨o.slots, k b o (fun z => hc (by simp [z])) e⟩) (fun _ _ _ _ n => n)
    (fun b o hc e => ⟨o, k b o (fun z => hc (by simp [z])) e⟩) (fun _ _ e => e) (fun _ _ _ e => e) (fun b ps e => ⟨#[], by rw [e]; simp⟩) (fun m hm => ?_) (fun b u e => ?_) I.bare
  · have e : b = it := by simpa using hb
    subst e
    exact ⟨h1, hL, h2, h3⟩
  · obtain ⟨o, es, ep, ho, r⟩ := hm
    exact ⟨o, es, ep, k _ o (Ne.symm hL) ho, r⟩
  · refine (I.hok b u e).stay (fun c v hc q => k c v ?_ q) (fun _ q => q) fun _ _ q => q
    rcases hc with z | z
    · rw [z]; exact nit b u e
    · exact nit c _ z
theorem Inv.tok (I : Inv X pins σ H s) (t : Nat) : Inv X pins σ H { s with toks := t } := I.un (h' := s.heap) (t' := t) Un.refl I.hok
/-- all objects kept -/
theorem Inv.kept {t' : Nat} (I : Inv X pins σ H s) (k : ∀ b u, s.heap.get? b = some u → h'.get? b = some u) : Inv X pins σ H { s with heap := h', toks := t' } := I.un (Un.kept k) (I.hok.kept k)
/-- a new object laid and tracked -/
theorem Inv.laid {a : Addr} {o : HO} {t' : Nat} (I : Inv X pins σ H s) (k : ∀ b u, s.heap.get? b = some u → h'.get? b = some u) (hp : s.heap.objs.size ≤ a) (new : ObjOk X.prog X.w (upd H a o) h' a o) :
    Inv X pins σ (upd H a o) { s with heap := h', toks := t' } := I.un (Un.laid k hp (I.hok.fresh hp)) (I.hok.laid k hp new)
/-- an object written -/
theorem Inv.write {x e : Addr} {o : HO} {t' : Nat} (I : Inv X pins σ H s) (mu : Mut (H x)) (he : e = x ∨ H e = some (.own x)) (k : ∀ b u, b ≠ e → s.heap.get? b = some u → h'.get? b = some u) (heo : ∃ u, h'.get? e = some u)
    (new : ObjOk X.prog X.w (upd H x o) h' x o) : Inv X pins σ (upd H x o) { s with heap := h', toks := t' } := I.un (Un.write mu he k heo) (I.hok.write mu he k heo new)
/-- forgetting slots, pins -/
theorem Inv.weak {σ' : List (Option V)} (I : Inv X pins σ H s) (hl : σ'.length = σ.length) (w : ∀ (i : Nat) v, σ'[i]? = some (some v) → σ[i]? = some (some v)) : Inv X pins σ' H s :=
  ⟨I.ok, I.os, I.bare, I.base, let ⟨m, hn, hl'⟩ := I.loc; ⟨m, hn, fun i x v e1 e2 e3 => hl' i x v e1 (w i v e2) e3⟩, I.cell, I.free, I.freeC, I.pin, I.hok, hl.trans I.len⟩
theorem Inv.pins_of {pins' : List (Addr × Obj)} (I : Inv X pins σ H s) (h : ∀ p ∈ pins', s.heap.get? p.1 = some p.2 ∧ H p.1 = none ∧ p.1 ≠ X.env.locals ∧ p.1 ∉ X.fs ∧ ∀ v, p.2.data ≠ .cell v) : Inv X pins' σ H s :=
  ⟨I.ok, I.os, I.bare, I.base, I.loc, I.cell, I.free, I.freeC, fun p hp => (List.mem_append.mp hp).elim (fun z => I.pin p (List.mem_append_left _ z)) (h p), I.hok, I.len⟩

theorem nodup_ix {N : List Str} (hN : N.Nodup) {i j : Nat} {x : Str} (a : N[i]? = some x) (b : N[j]? = some x) : i = j := by
  obtain ⟨h1, e1⟩ := List.getElem?_eq_some_iff.mp a
  obtain ⟨h2, e2⟩ := List.getElem?_eq_some_iff.mp b
  exact (List.getElem_inj hN).mp (e1.trans e2.symm)

/-- a name is stored; what changed -/
theorem store_ok2 {M : Model} {A : Around} {E : Value → Shared → Prop} {i : Nat} {x : Str} {v : V} {u : Value} {Q : Unit → Shared → Prop} (I : Inv X pins σ H s) (hN : X.N.Nodup) (hi : X.N[i]? = some x) (hx : Loc X.env.scope x) (r : RelV v u)
    (h : ∀ s', Inv X pins (σ.set i (some v)) H s' → (∃ a, Heap.SameBut a s.heap s'.heap ∧ (a = X.env.locals ∨ X.env.cells.lookup x = some a)) → Q () s') (hf : X.fn x = true ∨ X.env.scope.names.lookup x = some .local := by first | exact .inl rfl | exact .inr rfl | assumption) : wpAny M A (storeName X.env x u) Q E s := by
  obtain ⟨m, hn, hl⟩ := id I.loc
  have hcls : (X.env.scope.kind == .class || (X.env.scope.kind == .module && X.env.locals != X.env.globals)) = false := by rw [I.ok.kind]; rfl
  have hiσ : i < σ.length := by rw [I.len]; exact (List.getElem?_eq_some_iff.mp hi).1
  have cne := I.cne
  have tracked : ∀ {a : Addr} {h' : Heap}, (∃ o, s.heap.get? a = some o ∧ H a = none) → Heap.SameBut a s.heap h' → HOk X.prog X.w H h' := fun {a h'} ha hs b ob e => by
    obtain ⟨_, _, hfree⟩ := ha
    refine (I.hok b ob e).stay (fun c w' hc q => (hs.2 c ?_).trans q) (fun _ q => q) fun _ _ q => q
    rintro rfl
    rcases hc with rfl | hc
    · rw [hfree] at e; cases e
    · rw [hfree] at hc; cases hc
  rcases hx with hk | hk
  · refine wpAny_storeName_local hk hn (fun h' hn' hs => ?_) hcls
    obtain ⟨oL, _, _, hoL, _⟩ := id hn
    refine h _ ⟨I.ok, I.os, I.bare, ⟨fun b o e n hb hx => ?_, fun b o e n hb hx => ?_, I.base.free, fun b o e hx => ?_, I.base.tups, I.base.frzs, I.base.tbls⟩, ⟨_, hn', fun j y v' e1 e2 e3 => ?_⟩, fun y c e => ?_, I.free, I.freeC, fun p hp => ?_, tracked ⟨oL, hoL, I.free⟩ hs, by simpa using I.len⟩ ⟨_, hs, .inl rfl⟩
    · exact (hs.2 b (Nat.ne_of_lt (Nat.lt_of_lt_of_le (Heap.lt_size e) I.ok.above))).trans (I.base.keep b o e n hb hx)
    · obtain ⟨sl, e1⟩ := I.base.slot b o e n hb hx
      exact ⟨sl, (hs.2 b (Nat.ne_of_lt (Nat.lt_of_lt_of_le (Heap.lt_size e) I.ok.above))).trans e1⟩
    · obtain ⟨o', e1⟩ := I.base.there b o e hx
      exact ⟨o', (hs.2 b (Nat.ne_of_lt (Nat.lt_of_lt_of_le (Heap.lt_size e) I.ok.above))).trans e1⟩
    · by_cases hj : j = i
      · subst hj
        rw [hi] at e1; cases e1
        rw [List.getElem?_set_self hiσ] at e2
        cases e2
        exact ⟨u, r, .inl ⟨hk, by simp⟩⟩
      · rw [List.getElem?_set_ne (Ne.symm hj)] at e2
        obtain ⟨u', r', q⟩ := hl j y v' e1 e2 e3
        refine ⟨u', r', ?_⟩
        rcases q with ⟨k, e⟩ | ⟨k, c, e, z⟩
        · refine .inl ⟨k, ?_⟩
          have : y ≠ x := fun e => hj (nodup_ix hN e1 (e ▸ hi))
          simp [this, e]
        · exact .inr ⟨k, c, e, z.sameBut hs (cne y c e)⟩
    · obtain ⟨w', z⟩ := I.cell y c e
      exact ⟨w', z.sameBut hs (cne y c e)⟩
    · obtain ⟨e, n, ne, nf, d⟩ := I.pin p hp
      exact ⟨(hs.2 p.1 ne).trans e, n, ne, nf, d⟩
  · have hfn : X.fn x = true := by
      rcases hf with z | z
      · exact z
      · rw [z] at hk; cases hk
    obtain ⟨c, hc⟩ := I.ok.has x (.inl hk)
    obtain ⟨w', z⟩ := I.cell x c hc
    refine wpAny_storeName_cell I.ok.kind hk hc z (fun h' hc' hs => ?_)
    obtain ⟨oc, hoc, hocd⟩ := id z
    refine h { s with heap := h' } ⟨I.ok, I.os, I.bare, ⟨fun b o e n hb hx => ?_, fun b o e n hb hx => ?_, I.base.free, fun b o e hx => ?_, I.base.tups, I.base.frzs, I.base.tbls⟩, ⟨m, hn.sameBut hs (Ne.symm (cne x c hc)), fun j y v' e1 e2 e3 => ?_⟩, fun y c' e => ?_, I.free, I.freeC, fun p hp => ?_, tracked ⟨oc, hoc, I.freeC x c hc⟩ hs, by simpa using I.len⟩ ⟨c, hs, .inr hc⟩
    · exact (hs.2 b (Nat.ne_of_lt (Nat.lt_of_lt_of_le (Heap.lt_size e) (I.ok.cab x c hfn hc)))).trans (I.base.keep b o e n hb hx)
    · obtain ⟨sl, e1⟩ := I.base.slot b o e n hb hx
      exact ⟨sl, (hs.2 b (Nat.ne_of_lt (Nat.lt_of_lt_of_le (Heap.lt_size e) (I.ok.cab x c hfn hc)))).trans e1⟩
    · obtain ⟨o', e1⟩ := I.base.there b o e hx
      exact ⟨o', (hs.2 b (Nat.ne_of_lt (Nat.lt_of_lt_of_le (Heap.lt_size e) (I.ok.cab x c hfn hc)))).trans e1⟩
    · by_cases hj : j = i
      · subst hj
        rw [hi] at e1; cases e1
        rw [List.getElem?_set_self hiσ] at e2
        cases e2
        exact ⟨u, r, .inr ⟨.inl hk, c, hc, hc'⟩⟩
      · rw [List.getElem?_set_ne (Ne.symm hj)] at e2
        obtain ⟨u', r', q⟩ := hl j y v' e1 e2 e3
        refine ⟨u', r', ?_⟩
        rcases q with q | ⟨k, c', e, z'⟩
        · exact .inl q
        · refine .inr ⟨k, c', e, z'.sameBut hs ?_⟩
          rintro rfl
          exact hj (nodup_ix hN e1 (I.ok.inj _ _ _ e hc ▸ hi))
    · by_cases hcc : c' = c
      · subst hcc; exact ⟨_, hc'⟩
      · obtain ⟨w2, z2⟩ := I.cell y c' e
        exact ⟨w2, z2.sameBut hs hcc⟩
    · obtain ⟨e, n, ne, nf, d⟩ := I.pin p hp
      refine ⟨(hs.2 p.1 ?_).trans e, n, ne, nf, d⟩
      intro q
      rw [q, hoc] at e
      have q' : oc = p.2 := Option.some.inj e
      exact d w' (by rw [← q']; exact hocd)
theorem store_ok {M : Model} {A : Around} {E : Value → Shared → Prop} {i : Nat} {x : Str} {v : V} {u : Value} {Q : Unit → Shared → Prop} (I : Inv X pins σ H s) (hN : X.N.Nodup) (hi : X.N[i]? = some x) (hx : Loc X.env.scope x) (r : RelV v u)
    (h : ∀ s', Inv X pins (σ.set i (some v)) H s' → Q () s') (hf : X.fn x = true ∨ X.env.scope.names.lookup x = some .local := by first | exact .inl rfl | exact .inr rfl | assumption) : wpAny M A (storeName X.env x u) Q E s :=
  store_ok2 I hN hi hx r (fun s' I' _ => h s' I') hf
/-- behind a call or a block, the state as it is -/
theorem Inv.call' {s' : Shared} {ch : List Addr} (I : Inv X pins σ H s) (ho : s'.os = s.os) (u : Un (frs X.stack) ch H H' s.heap s'.heap) (hok : HOk X.prog X.w H' s'.heap) (hg : AllBare s'.gens)
    (hch : ∀ b ∈ ch, (b ∈ X.ex ∨ X.s_0.heap.objs.size ≤ b) ∧ b ≠ X.env.locals ∧ (∀ x c, X.env.cells.lookup x = some c → c ≠ b) ∧ ∀ p ∈ X.pn ++ pins, p.1 ≠ b) : Inv X pins σ H' s' := by
  obtain ⟨h', g', d', t', o'⟩ := s'
  have e : o' = s.os := ho
  subst e
  exact I.call (g' := g') (t' := t') (d' := d') u hok hg hch
end

/-! ### the judgements -/
/-- an exception: its class, its own dict's address (where it has one), the abstract heap behind it -/
abbrev XK := Value → Option Addr → Hp → Prop
abbrev St := List (Option V)
abbrev VK := V → Hp → Prop
/-- an expression's reading; a test's; an argument list's -/
abbrev TE := St → Hp → VK → Prop
abbrev TT := St → Hp → (Bool → Hp → Prop) → Prop
abbrev TA := St → Hp → (List V → Hp → Prop) → Prop
/-- what is wanted behind a statement -/
structure Ends where
  nx : St → Hp → Prop
  rt : VK
  bk : St → Hp → Prop := fun _ _ => False
  ct : St → Hp → Prop := fun _ _ => False
abbrev TS := Ends → St → Hp → Prop

def EP (X : Cx) (pins : List (Addr × Obj)) (σ : St) (Q : VK) (u : Value) (s' : Shared) : Prop := ∃ v H', Inv X pins σ H' s' ∧ RelV v u ∧ Q v H'
def TP (X : Cx) (pins : List (Addr × Obj)) (σ : St) (Q : Bool → Hp → Prop) (b : Bool) (s' : Shared) : Prop := ∃ H', Inv X pins σ H' s' ∧ Q b H'
def AP (X : Cx) (pins : List (Addr × Obj)) (σ : St) (Q : List V → Hp → Prop) (us : List Value) (s' : Shared) : Prop := ∃ vs H', Inv X pins σ H' s' ∧ Vals vs us ∧ Q vs H'
def SP (X : Cx) (pins : List (Addr × Obj)) (D : Ends) (f : Flow) (s' : Shared) : Prop :=
  match f with
  | .next => ∃ σ' H', Inv X pins σ' H' s' ∧ D.nx σ' H'
  | .brk => ∃ σ' H', Inv X pins σ' H' s' ∧ D.bk σ' H'
  | .cont => ∃ σ' H', Inv X pins σ' H' s' ∧ D.ct σ' H'
  | .ret u => ∃ v σ' H', Inv X pins σ' H' s' ∧ RelV v u ∧ D.rt v H'

def PE (X : Cx) (e : Expr) (t : TE) : Prop :=
  ∀ (pins : List (Addr × Obj)) (s : Shared) (σ : St) (H : Hp) (Q : VK), Inv X pins σ H s → t σ H Q → wpAny (model X.prog X.w) X.A (eval e X.env) (EP X pins σ Q) X.xe s
def PT (X : Cx) (e : Expr) (t : TT) : Prop :=
  ∀ (pins : List (Addr × Obj)) (s : Shared) (σ : St) (H : Hp) (Q : Bool → Hp → Prop), Inv X pins σ H s → t σ H Q → wpAny (model X.prog X.w) X.A (isTrue e X.env (eval e X.env)) (TP X pins σ Q) X.xe s
/-- a test whatever its 'whole' is (and, or) -/
def PW (X : Cx) (e : Expr) (t : TT) : Prop :=
  ∀ (whole : Sem Value) (pins : List (Addr × Obj)) (s : Shared) (σ : St) (H : Hp) (Q : Bool → Hp → Prop), Inv X pins σ H s → t σ H Q → wpAny (model X.prog X.w) X.A (isTrue e X.env whole) (TP X pins σ Q) X.xe s
theorem PW.pt {X : Cx} {e : Expr} {t : TT} (h : PW X e t) : PT X e t := h _
/-- an argument list (no star), from the left -/
def PA (X : Cx) (es : List Expr) (t : TA) : Prop :=
  ∀ (pos : Pos) (pins : List (Addr × Obj)) (s : Shared) (σ : St) (H : Hp) (Q : List V → Hp → Prop), Inv X pins σ H s → t σ H Q → wpAny (model X.prog X.w) X.A (spliced (backTo pos (starEach es X.env))) (AP X pins σ Q) X.xe s
def PS (X : Cx) (st : Stmt) (t : TS) : Prop :=
  ∀ (pins : List (Addr × Obj)) (s : Shared) (σ : St) (H : Hp) (D : Ends), Inv X pins σ H s → t D σ H → wpAny (model X.prog X.w) X.A (exec st X.env) (SP X pins D) X.xe s
def PSs (X : Cx) (st : List Stmt) (t : TS) : Prop :=
  ∀ (pins : List (Addr × Obj)) (s : Shared) (σ : St) (H : Hp) (D : Ends), Inv X pins σ H s → t D σ H → wpAny (model X.prog X.w) X.A (execs st X.env) (SP X pins D) X.xe s
/-- weaken the end -/
theorem thn {α : Type} {t : Sem α} {Q Q' : α → Shared → Prop} {M : Model} {A : Around} {E : Value → Shared → Prop} {s : Shared} (h : wpAny M A t Q E s) (hQ : ∀ a s, Q a s → Q' a s) : wpAny M A t Q' E s := wpAny_mono h hQ fun _ _ x => x
end L2

namespace L2
open PySem PySem.Spec PyProof.Rows
section
variable {X : Cx}


/-! ### names and constants -/
def tVar (i : Nat) : TE := fun σ H Q => ∃ v, σ[i]? = some (some v) ∧ Q v H
def tC (v : V) : TE := fun _ H Q => Q v H
theorem pe_var {i : Nat} {x : Str} {pos : Pos} (hN : X.N[i]? = some x) (hv : Vis X.env.scope x) (hd : (x == ("__debug__" : Str)) = false := by decide) (hcd : (x == ("__classdict__" : Str)) = false := by decide) : PE X (.Name x pos) (tVar i) := by
  intro pins s σ H Q I h
  obtain ⟨v, e, h⟩ := h
  obtain ⟨m, hn, hl⟩ := I.loc
  obtain ⟨u, r, l⟩ := hl i x v hN e hv
  have fin : EP X pins σ Q u s := ⟨v, H, I, r, h⟩
  rcases l with ⟨hk, hm⟩ | ⟨hk, c, hc, hcell⟩
  · exact wpAny_Name (wpAny_loadName_local I.ok.kind hk hn hm fin) hd
  · rcases hk with hk | hk
    · exact wpAny_Name (wpAny_loadName_cell I.ok.kind hk hc hcell fin) hd
    · exact wpAny_Name (wpAny_loadName_free I.ok.kind hk hc hcell fin hcd) hd
theorem pe_int {i j pos} : PE X (.Constant (.int i) j pos) (tC (.int i)) := fun _ _ _ H _ I h => wpAny_Constant_int ⟨.int i, H, I.tok _, ⟨_, rfl⟩, h⟩
theorem pe_bl {b j pos} : PE X (.Constant (.bool b) j pos) (tC (.bl b)) := fun _ _ _ H _ I h => Constant_bool ⟨.bl b, H, I, rfl, h⟩
theorem pe_non {j pos} : PE X (.Constant .none j pos) (tC .non) := fun _ _ _ H _ I h => Constant_none ⟨.non, H, I, rfl, h⟩

/-- a global name of the def -/
def Gl (X : Cx) (x : Str) : Prop := X.env.kindOf x = some .globalImplicit
theorem ld_glob {E : Value → Shared → Prop} {pins : List (Addr × Obj)} {s : Shared} {σ : St} {H : Hp} {x : Str} {u : Value} {pos : Pos} {Q : Value → Shared → Prop} (I : Inv X pins σ H s) (hg : Gl X x) (hm : X.mg x = some u) (h : Q u s)
    (hd : (x == ("__debug__" : Str)) = false := by decide) : wpAny (model X.prog X.w) X.A (eval (.Name x pos) X.env) Q E s :=
  Calls.Name_function_global I.ok.kind hg (Calls.loadGlobal_global (by rw [I.ok.glob]; exact I.mod.glob.keeps I.bk) hm h) hd
theorem ld_blt {E : Value → Shared → Prop} {pins : List (Addr × Obj)} {s : Shared} {σ : St} {H : Hp} {x : Str} {u : Value} {pos : Pos} {Q : Value → Shared → Prop} (I : Inv X pins σ H s) (hg : Gl X x) (hm : X.mg x = none) (hv : bootBuiltins x = some u) (h : Q u s)
    (hn : x ≠ "__name__" := by decide) (hd : (x == ("__debug__" : Str)) = false := by decide) : wpAny (model X.prog X.w) X.A (eval (.Name x pos) X.env) Q E s := by
  obtain ⟨mb, h1, h2⟩ := I.mod.blt
  exact Calls.Name_function_global I.ok.kind hg (Calls.loadGlobal_builtin (by rw [I.ok.glob]; exact I.mod.glob.keeps I.bk) hm (by rw [I.ok.blt]; exact h1.keeps I.bk) ((h2 x hn).trans hv) h) hd
/-- a module's constant, a class, a function, as a value -/
theorem pe_glob {x : Str} {v : V} {u : Value} {pos : Pos} (hg : Gl X x) (hm : X.mg x = some u) (r : RelV v u) (hd : (x == ("__debug__" : Str)) = false := by decide) : PE X (.Name x pos) (tC v) :=
  fun _ _ _ H _ I h => ld_glob I hg hm ⟨v, H, I, r, h⟩ hd

/-! ### arithmetic -/
variable {a b : Expr} {ta tb : TE} {pos : Pos}

/-! ### comparisons -/
def PC (X : Cx) (op : CmpOp) (a b : Expr) (t : TE) : Prop :=
  ∀ (pins : List (Addr × Obj)) (s : Shared) (σ : St) (H : Hp) (Q : VK), Inv X pins σ H s → t σ H Q →
    wpAny (model X.prog X.w) X.A (eval a X.env) (fun v s₁ => wpAny (model X.prog X.w) X.A (eval b X.env) (fun u s₂ => wpAny (model X.prog X.w) X.A (compareOp op v u) (EP X pins σ Q) X.xe s₂) X.xe s₁) X.xe s
theorem nobehind (b : Expr) {op : CmpOp} (h : op ≠ .In) (h2 : op ≠ .NotIn) : behindInMarks op b = false := by
  have e1 : (op == CmpOp.In) = false := by cases op <;> first | rfl | exact absurd rfl h
  have e2 : (op == CmpOp.NotIn) = false := by cases op <;> first | rfl | exact absurd rfl h2
  cases b <;> simp [behindInMarks, e1, e2]
/-- is None -/
def tIsN (ta : TE) : TE := fun σ H Q => ta σ H fun x H1 => Q (.bl (decide (x = .non))) H1
def tNotN (ta : TE) : TE := fun σ H Q => ta σ H fun x H1 => Q (.bl (!decide (x = .non))) H1
theorem RelV.none_iff {x : V} {v : Value} (r : RelV x v) : (v == Value.none) = decide (x = .non) := by
  cases x with
  | non => cases r; rfl
  | bl _ => cases r; rfl
  | int _ => obtain ⟨t, rfl⟩ := r; rfl
  | str _ => obtain ⟨t, rfl⟩ := r; rfl
  | byt _ => obtain ⟨t, rfl⟩ := r; rfl
  | flt _ => obtain ⟨t, rfl⟩ := r; rfl
  | ref _ => cases r; rfl
  | ty _ => cases r; rfl
theorem pc_isN {j pos'} (ha : PE X a ta) : PC X .Is a (.Constant .none j pos') (tIsN ta) := by
  intro pins s σ H Q I h
  refine thn (ha pins s σ H _ I h) fun v s1 ⟨x, H1, I1, r1, q1⟩ => ?_
  exact Constant_none (is_none_gen ⟨.bl _, H1, I1, by rw [r1.none_iff]; rfl, q1⟩)
theorem pc_notN {j pos'} (ha : PE X a ta) : PC X .IsNot a (.Constant .none j pos') (tNotN ta) := by
  intro pins s σ H Q I h
  refine thn (ha pins s σ H _ I h) fun v s1 ⟨x, H1, I1, r1, q1⟩ => ?_
  exact Constant_none (isnot_none_gen ⟨.bl _, H1, I1, by rw [r1.none_iff]; rfl, q1⟩)
/-- a comparison as a value, as a test -/
def tB (t : TE) : TT := fun σ H Q => t σ H fun x H1 => ∃ c, x = .bl c ∧ Q c H1
theorem pe_cmp {op : CmpOp} {t : TE} (h : PC X op a b t) (h1 : behindInMarks op b = false := by first | exact nobehind _ (by decide) (by decide) | rfl) : PE X (.Compare a [op] [b] pos) t := fun pins s σ H Q I hw => wpAny_Compare1 (h pins s σ H Q I hw) h1
theorem pt_cmp {op : CmpOp} {t : TE} (h : PC X op a b t) (h1 : behindInMarks op b = false := by first | exact nobehind _ (by decide) (by decide) | rfl) : PT X (.Compare a [op] [b] pos) (tB t) := by
  intro pins s σ H Q I hw
  refine wpAny_isTrue_Compare1 (thn (h pins s σ H _ I hw) fun v s1 h1 => thn h1 fun u s2 h2 => thn h2 fun c s3 ⟨x, H1, I1, r1, q1⟩ => ?_) h1
  obtain ⟨d, rfl, q⟩ := q1
  cases r1
  exact wpAny_truthy_bool ⟨H1, I1, q⟩
/-- an expression whose value is a bool, as a test -/
theorem pt_val {e : Expr} {t : TE} (h : PE X e t) (he : ∀ whole, isTrue e X.env whole = (do let v ← whole; standAt e.pos; holding [v] (truthy v)) := by intro _; rfl) : PT X e (tB t) := by
  intro pins s σ H Q I hw
  refine isTrue_plain (thn (h pins s σ H _ I hw) fun v s1 ⟨x, H1, I1, r1, q1⟩ => ?_) (he _)
  obtain ⟨d, rfl, q⟩ := q1
  cases r1
  exact wpAny_truthy_bool ⟨H1, I1, q⟩

/-! ### and, or, not -/
variable {tA tB' : TT} {rest : List Expr}
def tAnd (t u : TT) : TT := fun σ H Q => t σ H fun c H1 => if c = true then u σ H1 Q else Q false H1
def tOr (t u : TT) : TT := fun σ H Q => t σ H fun c H1 => if c = true then Q true H1 else u σ H1 Q
def tNot (t : TT) : TT := fun σ H Q => t σ H fun c H1 => Q (!c) H1
theorem pw_and1 (ha : PT X a tA) : PW X (.BoolOp .And [a] pos) tA := by
  intro wh pins s σ H Q I h
  refine isTrue_and (thn (ha pins s σ H Q I h) fun c s1 e => ?_)
  cases c with
  | true => exact isTrue_and_nil e
  | false => exact e
theorem pw_or1 (ha : PT X a tA) : PW X (.BoolOp .Or [a] pos) tA := by
  intro wh pins s σ H Q I h
  refine isTrue_or (thn (ha pins s σ H Q I h) fun c s1 e => ?_)
  cases c with
  | false => exact isTrue_or_nil e
  | true => exact e
theorem pw_and (ha : PT X a tA) (hb : PW X (.BoolOp .And (b :: rest) pos) tB') : PW X (.BoolOp .And (a :: b :: rest) pos) (tAnd tA tB') := by
  intro wh pins s σ H Q I h
  refine isTrue_and (thn (ha pins s σ H _ I h) fun c s1 ⟨H1, I1, q1⟩ => ?_)
  cases c with
  | true => exact hb wh pins s1 σ H1 Q I1 q1
  | false => exact ⟨H1, I1, q1⟩
theorem pw_or (ha : PT X a tA) (hb : PW X (.BoolOp .Or (b :: rest) pos) tB') : PW X (.BoolOp .Or (a :: b :: rest) pos) (tOr tA tB') := by
  intro wh pins s σ H Q I h
  refine isTrue_or (thn (ha pins s σ H _ I h) fun c s1 ⟨H1, I1, q1⟩ => ?_)
  cases c with
  | true => exact ⟨H1, I1, q1⟩
  | false => exact hb wh pins s1 σ H1 Q I1 q1
theorem pt_not (ha : PT X a tA) : PT X (.UnaryOp .Not a pos) (tNot tA) := by
  intro pins s σ H Q I h
  exact isTrue_not (ha pins s σ H (fun c H1 => Q (!c) H1) I h)
/-- .. as values (bools) -/
def tAndV (ta tb : TE) : TE := fun σ H Q => ta σ H fun x H1 => ∃ c, x = .bl c ∧ if c = true then tb σ H1 Q else Q (.bl false) H1
def tOrV (ta tb : TE) : TE := fun σ H Q => ta σ H fun x H1 => ∃ c, x = .bl c ∧ if c = true then Q (.bl true) H1 else tb σ H1 Q
def tNotV (ta : TE) : TE := fun σ H Q => ta σ H fun x H1 => ∃ c, x = .bl c ∧ Q (.bl (!c)) H1
theorem pe_one {op} {t : TE} (h : PE X a t) : PE X (.BoolOp op [a] pos) t := fun pins s σ H Q I hw => BoolOp_one (h pins s σ H Q I hw)
theorem pe_and (ha : PE X a ta) (hb : PE X (.BoolOp .And (b :: rest) pos) tb) : PE X (.BoolOp .And (a :: b :: rest) pos) (tAndV ta tb) := by
  intro pins s σ H Q I h
  refine BoolOp_and (thn (ha pins s σ H _ I h) fun v s1 ⟨x, H1, I1, r1, q1⟩ => ?_)
  obtain ⟨c, rfl, q1⟩ := q1
  cases r1
  refine wpAny_truthy_bool ?_
  cases c with
  | true => exact hb pins s1 σ H1 Q I1 q1
  | false => exact ⟨.bl false, H1, I1, rfl, q1⟩
theorem pe_or (ha : PE X a ta) (hb : PE X (.BoolOp .Or (b :: rest) pos) tb) : PE X (.BoolOp .Or (a :: b :: rest) pos) (tOrV ta tb) := by
  intro pins s σ H Q I h
  refine BoolOp_or (thn (ha pins s σ H _ I h) fun v s1 ⟨x, H1, I1, r1, q1⟩ => ?_)
  obtain ⟨c, rfl, q1⟩ := q1
  cases r1
  refine wpAny_truthy_bool ?_
  cases c with
  | false => exact hb pins s1 σ H1 Q I1 q1
  | true => exact ⟨.bl true, H1, I1, rfl, q1⟩
theorem pe_not (ha : PE X a ta) : PE X (.UnaryOp .Not a pos) (tNotV ta) := by
  intro pins s σ H Q I h
  refine UnaryOp_ (thn (ha pins s σ H _ I h) fun v s1 ⟨x, H1, I1, r1, q1⟩ => ?_)
  obtain ⟨c, rfl, q1⟩ := q1
  cases r1
  exact not_of (wpAny_truthy_bool ⟨.bl (!c), H1, I1, rfl, q1⟩)
end
end L2

namespace L2
open PySem PySem.Spec PyProof.Rows

/-! ### a list, a tuple that is read: tracked, frozen, or an object of the module -/
def SqL (K : PySem.W.Frag) (H : Hp) (a : Addr) (xs : List V) : Prop :=
  Rd H a (.lst xs) ∨
    ∃ (o : Obj) (its : Array Value) (n : Nat), K.lookup a = some o ∧ o.cls = .type "list" ∧ o.dict = none ∧ o.data = .seq its n ∧ its.size ≤ sizeLine ∧ Vals xs its.toList
def SqT (K : PySem.W.Frag) (H : Hp) (a : Addr) (xs : List V) : Prop :=
  Rd H a (.tup xs) ∨
    ∃ (o : Obj) (its : Array Value) (n : Nat), K.lookup a = some o ∧ o.cls = .type "tuple" ∧ o.data = .seq its n ∧ its.size ≤ sizeLine ∧ Vals xs its.toList
def absV : Value → Option V
  | .none => some .non
  | .bool b => some (.bl b)
  | .int i _ => some (.int i)
  | .str x _ => some (.str x)
  | .bytes b _ => some (.byt b)
  | .float b _ => some (.flt b)
  | .ref a => some (.ref a)
  | .type n => some (.ty n)
  | _ => none
theorem RelV.abs {x : V} {u : Value} (r : RelV x u) : absV u = some x := by
  cases x with
  | non => cases r; rfl
  | bl _ => cases r; rfl
  | int _ => obtain ⟨t, rfl⟩ := r; rfl
  | str _ => obtain ⟨t, rfl⟩ := r; rfl
  | byt _ => obtain ⟨t, rfl⟩ := r; rfl
  | flt _ => obtain ⟨t, rfl⟩ := r; rfl
  | ref _ => cases r; rfl
  | ty _ => cases r; rfl
theorem RelV.inj {x y : V} {u : Value} (r : RelV x u) (q : RelV y u) : x = y := Option.some.inj (r.abs.symm.trans q.abs)
theorem Vals.inj : ∀ {xs ys : List V} {us : List Value}, Vals xs us → Vals ys us → xs = ys
  | _, _, _, .nil, .nil => rfl
  | _, _, _, .cons r t, .cons r' t' => by rw [r.inj r', Vals.inj t t']
section
variable {X : Cx} {pins : List (Addr × Obj)} {σ : St} {H : Hp} {s : Shared} {a : Addr} {xs ys : List V}
theorem SqL.of {K : PySem.W.Frag} (h : H a = some (.lst xs)) : SqL K H a xs := .inl (.inl h)
theorem SqT.of {K : PySem.W.Frag} (h : H a = some (.tup xs)) : SqT K H a xs := .inl (.inl h)
theorem Inv.list (I : Inv X pins σ H s) (h : SqL X.K H a xs) : ∃ its : List Value, Vals xs its ∧ PlainL s.heap a its.toArray ∧ xs.length ≤ sizeLine := by
  rcases h with h | ⟨o, its, n, hk, hc, hd, hs, hz, r⟩
  · obtain ⟨z, its, n, r, e⟩ := h.ok I.hok
    exact ⟨its, r, ⟨_, n, e, rfl, rfl, rfl⟩, z⟩
  · refine ⟨its.toList, r, ⟨o, n, I.kIn a o hk, hc, hd, by simpa using hs⟩, ?_⟩
    have e := r.length
    simp only [Array.length_toList] at e
    omega
theorem Inv.tuple (I : Inv X pins σ H s) (h : SqT X.K H a xs) : ∃ its : List Value, Vals xs its ∧ IsTup s.heap a its.toArray ∧ xs.length ≤ sizeLine := by
  rcases h with h | ⟨o, its, n, hk, hc, hs, hz, r⟩
  · obtain ⟨z, its, r, p⟩ := h.ok I.hok
    exact ⟨its, r, p, z⟩
  · refine ⟨its.toList, r, ⟨o, I.kIn a o hk, hc, n, by simpa using hs⟩, ?_⟩
    have e := r.length
    simp only [Array.length_toList] at e
    omega
theorem Inv.list_inj (I : Inv X pins σ H s) (h : SqL X.K H a xs) (h' : SqL X.K H a ys) : xs = ys := by
  obtain ⟨its, r, ⟨o, n, e, _, _, d⟩, _⟩ := I.list h
  obtain ⟨its', r', ⟨o', n', e', _, _, d'⟩, _⟩ := I.list h'
  rw [e] at e'; cases e'
  rw [d] at d'
  injection d' with d1 _
  have : its = its' := by simpa using congrArg Array.toList d1
  subst this
  exact r.inj r'
theorem Inv.tuple_inj (I : Inv X pins σ H s) (h : SqT X.K H a xs) (h' : SqT X.K H a ys) : xs = ys := by
  obtain ⟨its, r, ⟨o, e, _, n, d⟩, _⟩ := I.tuple h
  obtain ⟨its', r', ⟨o', e', _, n', d'⟩, _⟩ := I.tuple h'
  rw [e] at e'; cases e'
  rw [d] at d'
  injection d' with d1 _
  have : its = its' := by simpa using congrArg Array.toList d1
  subst this
  exact r.inj r'
end

/-! ### another wish about exceptions -/
abbrev Cx.wish (X : Cx) (E : Value → Shared → Prop) : Cx := { X with xe := E }
/-- no exception leaves -/
abbrev Cx.nox (X : Cx) : Cx := X.wish fun _ _ => False
theorem Cx.Ok.wish {X : Cx} (ok : X.Ok) (E : Value → Shared → Prop) : (X.wish E).Ok :=
  ⟨ok.mod, ok.kind, ok.glob, ok.blt, ok.above, ok.inj, ok.has, ok.cab, ok.hd, ok.frames, ok.stk, ok.exf, ok.bs, ok.bsz, ok.noex, ok.exfs, ok.funs, ok.frf⟩
theorem Cx.Ok.unwish {X : Cx} {E : Value → Shared → Prop} (ok : (X.wish E).Ok) : X.Ok :=
  ⟨ok.mod, ok.kind, ok.glob, ok.blt, ok.above, ok.inj, ok.has, ok.cab, ok.hd, ok.frames, ok.stk, ok.exf, ok.bs, ok.bsz, ok.noex, ok.exfs, ok.funs, ok.frf⟩
section
variable {X : Cx} {pins : List (Addr × Obj)} {σ : St} {H : Hp} {s : Shared} {E : Value → Shared → Prop}
theorem Inv.wish (I : Inv X pins σ H s) (E : Value → Shared → Prop) : Inv (X.wish E) pins σ H s := ⟨I.ok.wish E, I.os, I.bare, I.base, I.loc, I.cell, I.free, I.freeC, I.pin, I.hok, I.len⟩
theorem Inv.unwish (I : Inv (X.wish E) pins σ H s) : Inv X pins σ H s := ⟨I.ok.unwish, I.os, I.bare, I.base, I.loc, I.cell, I.free, I.freeC, I.pin, I.hok, I.len⟩
theorem SP.unwish {D : Ends} {f : Flow} {s' : Shared} (h : SP (X.wish E) pins D f s') : SP X pins D f s' := by
  cases f with
  | next => obtain ⟨σ', H', I, q⟩ := h; exact ⟨σ', H', I.unwish, q⟩
  | brk => obtain ⟨σ', H', I, q⟩ := h; exact ⟨σ', H', I.unwish, q⟩
  | cont => obtain ⟨σ', H', I, q⟩ := h; exact ⟨σ', H', I.unwish, q⟩
  | ret u => obtain ⟨v, σ', H', I, r, q⟩ := h; exact ⟨v, σ', H', I.unwish, r, q⟩
theorem PSs.nox {st : List Stmt} {t : TS} (h : PSs X.nox st t) : PSs X st t := fun pins s σ H D I hw =>
  wpAny_mono (h pins s σ H D (I.wish _) hw) (fun _ _ q => q.unwish) fun _ _ z => False.elim z
end

/-! ### blocks and small statements -/
section
variable {X : Cx} {st : Stmt} {rest : List Stmt} {t u : TS} {e : Expr} {te : TE} {pos : Pos}
def tNext : TS := fun D σ H => D.nx σ H
def tSeq (t u : TS) : TS := fun D σ H => t { D with nx := u D } σ H
theorem pss_nil : PSs X [] tNext := fun _ _ σ H _ I h => wpAny_execs_nil ⟨σ, H, I, h⟩
theorem pss_cons (h1 : PS X st t) (h2 : PSs X rest u) : PSs X (st :: rest) (tSeq t u) := by
  intro pins s σ H D I h
  refine wpAny_execs_cons (thn (h1 pins s σ H { D with nx := u D } I h) fun f s1 q => ?_)
  cases f with
  | next =>
    obtain ⟨σ', H', I', q⟩ := q
    exact h2 pins s1 σ' H' D I' q
  | ret v => exact q
  | brk => exact q
  | cont => exact q
theorem pss_one (h1 : PS X st t) : PSs X [st] t := by
  intro pins s σ H D I h
  refine wpAny_execs_cons (thn (h1 pins s σ H D I h) fun f s1 q => ?_)
  cases f with
  | next => exact wpAny_execs_nil q
  | ret v => exact q
  | brk => exact q
  | cont => exact q
/-- in a def's body nothing is shown -/
theorem Inv.quiet {pins : List (Addr × Obj)} {σ : St} {H : Hp} {s : Shared} (I : Inv X pins σ H s) : interactive X.env = false := by simp [interactive, I.ok.kind]
/-- an expression whose value is dropped -/
def tDrop (te : TE) : TS := fun D σ H => te σ H fun _ H1 => D.nx σ H1
theorem ps_expr (he : PE X e te) (hs : swapsWith e none pos.line X.env = pure false := by rfl) : PS X (.Expr e pos) (tDrop te) := by
  intro pins s σ H D I h
  exact wpAny_Expr_any (thn (he pins s σ H _ I h) fun v s1 ⟨x, H1, I1, r1, q1⟩ => ⟨σ, H1, I1, q1⟩) I.quiet hs
def tRet (te : TE) : TS := fun D σ H => te σ H D.rt
theorem ps_ret (he : PE X e te) : PS X (.Return (some e) pos) (tRet te) := by
  intro pins s σ H D I h
  exact wpAny_Return_some (thn (he pins s σ H _ I h) fun v s1 ⟨x, H1, I1, r1, q1⟩ => ⟨x, σ, H1, I1, r1, q1⟩)
def tIfS (c : TT) (t u : TS) : TS := fun D σ H => c σ H fun b H1 => if b = true then t D σ H1 else u D σ H1
theorem ps_if {c : Expr} {a b : List Stmt} {tc : TT} (hc : PT X c tc) (ha : PSs X a t) (hb : PSs X b u) : PS X (.If c a b pos) (tIfS tc t u) := by
  intro pins s σ H D I h
  refine wpAny_If (thn (hc pins s σ H _ I h) fun d s1 ⟨H1, I1, q1⟩ => ?_)
  cases d with
  | true => exact ha pins s1 σ H1 D I1 q1
  | false => exact hb pins s1 σ H1 D I1 q1
end

/-! ### targets -/
abbrev TG := V → St → Hp → (St → Hp → Prop) → Prop
abbrev TGs := List V → St → Hp → (St → Hp → Prop) → Prop
def PG (X : Cx) (target : Expr) (t : TG) : Prop :=
  ∀ (pins : List (Addr × Obj)) (s : Shared) (σ : St) (H : Hp) (v : V) (u : Value) (Q : St → Hp → Prop), Inv X pins σ H s → RelV v u → t v σ H Q →
    wpAny (model X.prog X.w) X.A (assign target X.env u) (fun _ s' => ∃ σ' H', Inv X pins σ' H' s' ∧ Q σ' H') X.xe s
/-- several targets, one after another -/
def PGs (X : Cx) (ts : List Expr) (t : TGs) : Prop :=
  ∀ (pins : List (Addr × Obj)) (s : Shared) (σ : St) (H : Hp) (vs : List V) (us : List Value) (Q : St → Hp → Prop), Inv X pins σ H s → Vals vs us → t vs σ H Q →
    wpAny (model X.prog X.w) X.A (assignInOrder ((assignEach ts X.env).map (·.2)) us) (fun _ s' => ∃ σ' H', Inv X pins σ' H' s' ∧ Q σ' H') X.xe s
/-- o[i] = v, by values -/
abbrev TSet := V → V → V → Hp → (Hp → Prop) → Prop
def PSet (X : Cx) (t : TSet) : Prop :=
  ∀ (pins : List (Addr × Obj)) (s : Shared) (σ : St) (H : Hp) (o i v : V) (ov iv u : Value) (Q : Hp → Prop), Inv X pins σ H s → RelV o ov → RelV i iv → RelV v u → t o i v H Q →
    wpAny (model X.prog X.w) X.A (setItem ov iv u) (fun _ s' => ∃ H', Inv X pins σ H' s' ∧ Q H') X.xe s
/-- a op= b, by values -/
abbrev TIp := V → V → Hp → VK → Prop
def PIp (X : Cx) (op : Operator) (t : TIp) : Prop :=
  ∀ (pins : List (Addr × Obj)) (s : Shared) (σ : St) (H : Hp) (x y : V) (v u : Value) (Q : VK), Inv X pins σ H s → RelV x v → RelV y u → t x y H Q →
    wpAny (model X.prog X.w) X.A (inplaceOp op v u) (EP X pins σ Q) X.xe s
section
variable {X : Cx} {pos : Pos}
def gName (i : Nat) : TG := fun v σ H Q => Q (σ.set i (some v)) H
theorem pg_name {i : Nat} {x : Str} (hN : X.N.Nodup) (hi : X.N[i]? = some x) (hx : Loc X.env.scope x) (hf : X.fn x = true ∨ X.env.scope.names.lookup x = some .local := by first | exact .inl rfl | exact .inr rfl | assumption) : PG X (.Name x pos) (gName i) := by
  intro pins s σ H v u Q I r h
  exact wpAny_assign_Name (store_ok I hN hi hx r (fun s' I' => ⟨_, H, I', h⟩) hf)
def gNil : TGs := fun vs σ H Q => vs = [] ∧ Q σ H
def gCons (t : TG) (u : TGs) : TGs := fun vs σ H Q => ∃ v r, vs = v :: r ∧ t v σ H fun σ' H' => u r σ' H' Q
theorem pgs_nil : PGs X [] gNil := by
  intro pins s σ H vs us Q I r h
  obtain ⟨e, h⟩ := h
  subst e
  cases r
  exact assignInOrder_nil ⟨σ, H, I, h⟩
theorem pgs_cons {e : Expr} {es : List Expr} {t : TG} {u : TGs} (h1 : PG X e t) (h2 : PGs X es u)
    (hs : (assignEach (e :: es) X.env).map (·.2) = assign e X.env :: (assignEach es X.env).map (·.2) := by rfl) : PGs X (e :: es) (gCons t u) := by
  intro pins s σ H vs us Q I r h
  obtain ⟨v, vr, e1, h⟩ := h
  subst e1
  cases r with
  | cons r rr =>
    rw [hs]
    refine assignInOrder_cons (thn (h1 pins s σ H _ _ _ I r h) fun _ s1 ⟨σ1, H1, I1, q1⟩ => ?_)
    exact h2 pins s1 σ1 H1 _ _ Q I1 rr q1
/-- (a, b, ..) = a tuple of that length -/
def gTup (K : PySem.W.Frag) (n : Nat) (t : TGs) : TG := fun v σ H Q => ∃ a xs, v = .ref a ∧ SqT K H a xs ∧ xs.length = n ∧ t xs σ H Q
theorem pg_tup {es : List Expr} {k : Nat} {t : TGs} {n : Nat} (hc : X.calm = true) (h : PGs X es t)
    (hn : (assignEach es X.env).length = n := by rfl) (hst : (assignEach es X.env).findIdx? (·.1) = none := by rfl) : PG X (.Tuple es k pos) (gTup X.K n t) := by
  intro pins s σ H v u Q I r hw
  obtain ⟨a, xs, e1, hq, hl, hw⟩ := hw
  subst e1
  cases r
  obtain ⟨its, rv, ht, hz⟩ := I.tuple hq
  refine assign_Tuple_tuple (I.ok.hd hc) ht (by simp [hn, ← hl, rv.length]) hst fun h' hx => ?_
  have I1 : Inv X pins σ H { s with heap := h' } := I.kept (t' := s.toks) fun b o e => hx b o (Nat.ne_of_lt (Heap.lt_size e)) e
  exact h pins _ σ H xs _ Q I1 (by simpa using rv) hw
/-- o[i] = .. -/
def gSub (to ti : TE) (t : TSet) : TG := fun v σ H Q => to σ H fun o H1 => ti σ H1 fun i H2 => t o i v H2 fun H3 => Q σ H3
theorem pg_sub {o i : Expr} {to ti : TE} {t : TSet} (ho : PE X o to) (hi : PE X i ti) (hs : PSet X t)
    (ha : ∀ v, assign (.Subscript o i pos) X.env v = (do
      let ov ← holding [v] (eval o X.env)
      let iv ← holding [v, ov] (eval i X.env)
      standAt pos
      holding [v, ov, iv] (setItem ov iv v)
      release [v, ov, iv] []) := by intro _; rfl) : PG X (.Subscript o i pos) (gSub to ti t) := by
  intro pins s σ H v u Q I r h
  rw [ha]
  refine wpAny_bind (wpAny_holding (thn (ho pins s σ H _ I h) fun ov s1 ⟨x, H1, I1, r1, q1⟩ => ?_))
  refine wpAny_bind (wpAny_holding (thn (hi pins s1 σ H1 _ I1 q1) fun iv s2 ⟨y, H2, I2, r2, q2⟩ => ?_))
  refine wpAny_bind (wpAny_standAt (wpAny_bind (wpAny_holding (thn (hs pins s2 σ H2 x y v ov iv u _ I2 r1 r2 r q2) fun _ s3 ⟨H3, I3, q3⟩ => ?_))))
  exact wpAny_release ⟨σ, H3, I3, q3⟩
/-- target = value -/
def tAsg (te : TE) (g : TG) : TS := fun D σ H => te σ H fun x H1 => g x σ H1 D.nx
theorem ps_asg {tg e : Expr} {te : TE} {g : TG} (he : PE X e te) (hg : PG X tg g) (hs : swapsWithSole [tg] e pos.line X.env = pure false := by rfl) (hw : swappedStores [tg] e X.env = pure none := by rfl)
    (h1 : (assignEach [tg] X.env).map (·.2) = [assign tg X.env] := by rfl) : PS X (.Assign [tg] e pos) (tAsg te g) := by
  intro pins s σ H D I h
  refine wpAny_Assign_stores (thn (he pins s σ H _ I h) fun v s1 ⟨x, H1, I1, r1, q1⟩ => ?_) hs hw
  rw [h1]
  exact thn (hg pins s1 σ H1 x v _ I1 r1 q1) fun _ s2 q => q
/-- name = value -/
theorem ps_set {i : Nat} {x : Str} {e : Expr} {te : TE} {pos' : Pos} (hN : X.N.Nodup) (hi : X.N[i]? = some x) (hx : Loc X.env.scope x) (he : PE X e te) (hs : swapsWith e (some (.Name x pos')) pos.line X.env = pure false := by rfl) (hf : X.fn x = true ∨ X.env.scope.names.lookup x = some .local := by first | exact .inl rfl | exact .inr rfl | assumption) :
    PS X (.Assign [.Name x pos'] e pos) (tAsg te (gName i)) := by
  intro pins s σ H D I h
  refine wpAny_Assign_Name (thn (he pins s σ H _ I h) fun v s1 ⟨y, H1, I1, r1, q1⟩ => ?_) hs
  exact store_ok I1 hN hi hx r1 (fun s2 I2 => ⟨_, H1, I2, q1⟩) hf
/-- o[i] op= e -/
def tAugS (to ti te : TE) (tget : V → V → Hp → VK → Prop) (tip : TIp) (tset : TSet) : TS := fun D σ H => to σ H fun o H1 => ti σ H1 fun i H2 => tget o i H2 fun x H3 => te σ H3 fun y H4 => tip x y H4 fun z H5 => tset o i z H5 fun H6 => D.nx σ H6
/-- o[i], by values -/
def PGet (X : Cx) (t : V → V → Hp → VK → Prop) : Prop :=
  ∀ (pins : List (Addr × Obj)) (s : Shared) (σ : St) (H : Hp) (o i : V) (ov iv : Value) (Q : VK), Inv X pins σ H s → RelV o ov → RelV i iv → t o i H Q →
    wpAny (model X.prog X.w) X.A (getItem ov iv) (EP X pins σ Q) X.xe s
theorem ps_augS {o i e : Expr} {to ti te : TE} {tget : V → V → Hp → VK → Prop} {tip : TIp} {tset : TSet} {op : Operator} {tpos : Pos} (ho : PE X o to) (hi : PE X i ti) (hg : PGet X tget) (he : PE X e te) (hp : PIp X op tip) (hs : PSet X tset)
    (ha : ∀ ov iv new, augStore i ov iv new = (do holding [new, ov, iv] (setItem ov iv new); release [new, ov, iv] []; pure .next) := by intros; rfl) : PS X (.AugAssign (.Subscript o i tpos) op e pos) (tAugS to ti te tget tip tset) := by
  intro pins s σ H D I h
  refine wpAny_AugAssign_SubscriptAny (thn (ho pins s σ H _ I h) fun ov s1 ⟨x1, H1, I1, r1, q1⟩ => ?_) ha
  refine thn (hi pins s1 σ H1 _ I1 q1) fun iv s2 ⟨x2, H2, I2, r2, q2⟩ => ?_
  refine thn (hg pins s2 σ H2 x1 x2 ov iv _ I2 r1 r2 q2) fun old s3 ⟨x3, H3, I3, r3, q3⟩ => ?_
  refine thn (he pins s3 σ H3 _ I3 q3) fun v s4 ⟨x4, H4, I4, r4, q4⟩ => ?_
  refine thn (hp pins s4 σ H4 x3 x4 old v _ I4 r3 r4 q4) fun new s5 ⟨x5, H5, I5, r5, q5⟩ => ?_
  exact thn (hs pins s5 σ H5 x1 x2 x5 ov iv new _ I5 r1 r2 r5 q5) fun _ s6 ⟨H6, I6, q6⟩ => ⟨σ, H6, I6, q6⟩
/-- ints -/
def ipI (f : Int → Int → Int) : TIp := fun x y H Q => ∃ i j, x = .int i ∧ y = .int j ∧ Q (.int (f i j)) H
theorem ip_add : PIp X .Add (ipI fun i j => i + j) := by
  intro pins s σ H x y v u Q I r1 r2 h
  obtain ⟨i, j, e1, e2, q⟩ := h
  subst e1; subst e2
  obtain ⟨t, rfl⟩ := r1
  obtain ⟨t', rfl⟩ := r2
  exact iadd_int ⟨.int _, H, I.tok _, ⟨_, rfl⟩, q⟩
theorem ip_sub : PIp X .Sub (ipI fun i j => i - j) := by
  intro pins s σ H x y v u Q I r1 r2 h
  obtain ⟨i, j, e1, e2, q⟩ := h
  subst e1; subst e2
  obtain ⟨t, rfl⟩ := r1
  obtain ⟨t', rfl⟩ := r2
  exact isub_int ⟨.int _, H, I.tok _, ⟨_, rfl⟩, q⟩
end

/-! ### while -/
section
variable {X : Cx} {pos : Pos}
/-- the invariant W with its measure -/
def tWhile (c : TT) (tb : TS) : TS := fun D σ H => ∃ W : Nat → St → Hp → Prop, (∃ m, W m σ H) ∧ ∀ m σ H, W m σ H →
  c σ H fun b H1 => if b = true then ∃ N : St → Hp → Prop, (∀ σ' H', N σ' H' → ∃ m', m' < m ∧ W m' σ' H') ∧ tb { D with nx := N, ct := N, bk := D.nx } σ H1 else D.nx σ H1
theorem ps_while {c : Expr} {body : List Stmt} {tc : TT} {tb : TS} (hp : PassesOwn (model X.prog X.w) X.A X.env X.xe) (hc : PT X c tc) (hb : PSs X body tb) : PS X (.While c body [] pos) (tWhile tc tb) := by
  intro pins s σ H D I h
  obtain ⟨W, ⟨m0, w0⟩, turn⟩ := h
  refine wpAny_While (codeAny_whileLoop (fun n s' => ∃ σ' H', Inv X pins σ' H' s' ∧ W n σ' H') ?_ m0 ⟨σ, H, I, w0⟩)
  rintro n s1 ⟨σ1, H1, I1, w1⟩
  refine wpAny_passesOwn hp (thn (hc pins s1 σ1 H1 _ I1 (turn n σ1 H1 w1)) fun b s2 ⟨H2, I2, q2⟩ => ?_)
  cases b with
  | true =>
    obtain ⟨N, hN, q2⟩ := q2
    rw [if_pos rfl]
    refine wpAny_passesOwn hp (thn (hb pins s2 σ1 H2 _ I2 q2) fun f s3 q3 => ?_)
    cases f with
    | next =>
      obtain ⟨σ3, H3, I3, n3⟩ := q3
      obtain ⟨m', hm, w3⟩ := hN σ3 H3 n3
      exact ⟨m', hm, σ3, H3, I3, w3⟩
    | cont =>
      obtain ⟨σ3, H3, I3, n3⟩ := q3
      obtain ⟨m', hm, w3⟩ := hN σ3 H3 n3
      exact ⟨m', hm, σ3, H3, I3, w3⟩
    | brk => exact q3
    | ret v => exact q3
  | false =>
    rw [if_neg Bool.false_ne_true]
    exact wpAny_execs_nil ⟨σ1, H2, I2, q2⟩
end

/-! ### what a loop or a comprehension walks -/
/-- at turn i: it yields x (the heap may grow), or it stops -/
structure It where
  go : Nat → Hp → Prop
  yld : Nat → Hp → V → Hp → Prop
  stop : Nat → Hp → Prop
/-- the iterator's own objects may turn: they are not the frame's, not pinned, younger than the entry (or a comprehension's own) -/
def FpOk (X : Cx) (pins : List (Addr × Obj)) (H : Hp) (b : Addr) : Prop :=
  H b = none ∧ b ≠ X.env.locals ∧ b ∉ X.fs ∧ (b ∈ X.ex ∨ X.s_0.heap.objs.size ≤ b) ∧ (∀ x c, X.env.cells.lookup x = some c → c ≠ b) ∧ ∀ p ∈ X.pn ++ pins, p.1 ≠ b
theorem Inv.fpOk {X : Cx} {pins : List (Addr × Obj)} {σ : St} {H H' : Hp} {s : Shared} {b : Addr} (I : Inv X pins σ H s) (hb : s.heap.objs.size ≤ b) (hn : H' b = none) : FpOk X pins H' b := by
  refine ⟨hn, Nat.ne_of_gt (Nat.lt_of_lt_of_le I.lt hb), I.nofs hb, .inr (Nat.le_trans I.sz hb), fun x c e z => ?_, fun p hp z => ?_⟩
  · obtain ⟨v, q⟩ := I.cell x c e
    exact absurd (Nat.lt_of_lt_of_le q.lt (by rw [z]; exact hb)) (Nat.lt_irrefl _)
  · exact absurd (Nat.lt_of_lt_of_le (Heap.lt_size (I.pin p hp).1) (by rw [z]; exact hb)) (Nat.lt_irrefl _)
structure Turn (P : Program) (w : World) (K : PySem.W.Frag) (tg : Expr) (J : It) (fp : List Addr) (it : Addr) (tn : Nat → Heap → Prop) : Prop where
  mem : it ∈ fp
  obj : ∀ i h, tn i h → ∀ b ∈ fp, ∃ o, h.get? b = some o ∧ ∀ v, o.data ≠ .cell v
  keep : ∀ i h h', tn i h → (∀ b ∈ fp, ∀ o, h.get? b = some o → h'.get? b = some o) → tn i h'
  item : ∀ (X : Cx), X.prog = P → X.w = w → X.K = K → X.calm = true → ∀ (i : Nat) (pins : List (Addr × Obj)) (s : Shared) (σ : St) (H : Hp) (E : Value → Shared → Prop), Inv X pins σ H s → (∀ b ∈ fp, FpOk X pins H b) → tn i s.heap → J.go i H →
    wpAny (model P w) X.A (pyNext (.ref it)) (fun r s1 => ∃ u, r = some u ∧
      wpAny (model P w) X.A (letOwnedTupleGo tg (.ref it) u) (fun _ s2 => ∃ x H', Inv X pins σ H' s2 ∧ RelV x u ∧ J.yld i H x H' ∧ tn (i + 1) s2.heap ∧ ∀ b ∈ fp, H' b = none) E s1) E s
  done : ∀ (X : Cx), X.prog = P → X.w = w → X.K = K → X.calm = true → ∀ (i : Nat) (pins : List (Addr × Obj)) (s : Shared) (σ : St) (H : Hp) (E : Value → Shared → Prop), Inv X pins σ H s → (∀ b ∈ fp, FpOk X pins H b) → tn i s.heap → J.stop i H →
    wpAny (model P w) X.A (pyNext (.ref it)) (fun r s1 => r = none ∧ Inv X pins σ H s1) E s
  self : ∀ (A : Around) (i : Nat) (s : Shared) (Q : Value → Shared → Prop) (E : Value → Shared → Prop), tn i s.heap → Q (.ref it) s → wpAny (model P w) A (pyIter (.ref it)) Q E s
abbrev TI := St → Hp → (It → Hp → Prop) → Prop
/-- an iterator has come -/
def PIE (X : Cx) (pins : List (Addr × Obj)) (σ : St) (tg : Expr) (R : It → Hp → Prop) (itv : Value) (s2 : Shared) : Prop :=
  ∃ (it : Addr) (fp : List Addr) (tn : Nat → Heap → Prop) (J : It) (H' : Hp), itv = .ref it ∧ Inv X pins σ H' s2 ∧ Turn X.prog X.w X.K tg J fp it tn ∧ tn 0 s2.heap ∧ (∀ b ∈ fp, FpOk X pins H' b) ∧ R J H'
def PI (X : Cx) (tg iter : Expr) (wi : TI) : Prop :=
  ∀ (pins : List (Addr × Obj)) (s : Shared) (σ : St) (H : Hp) (R : It → Hp → Prop), Inv X pins σ H s → wi σ H R →
    wpAny (model X.prog X.w) X.A (eval iter X.env) (fun v s1 => wpAny (model X.prog X.w) X.A (pyIter v) (PIE X pins σ tg R) X.xe s1) X.xe s

/-- the step ahead of the store is nothing for an iterator that keeps no tuple -/
theorem go_of {M : Model} {A : Around} {E : Value → Shared → Prop} {s : Shared} {tg : Expr} {it : Addr} {u : Value} {o : Obj} {n : String} {vs : Array Value} {Q : Unit → Shared → Prop} (ho : s.heap.get? it = some o) (hc : o.cls = .type n) (hd : o.data = .fields vs)
    (hn : ["enumerate", "zip", "dict_itemiterator", "dict_reverseitemiterator", "odict_iterator", "itertools.zip_longest", "itertools.pairwise"].contains n = false) (hQ : Q () s) : wpAny M A (letOwnedTupleGo tg (.ref it) u) Q E s := by
  unfold letOwnedTupleGo
  cases tg <;> first
    | exact wpAny_pure hQ
    | (cases u <;> first
        | exact wpAny_pure hQ
        | (refine wpAny_bind (wpAny_load ho ?_)
           rw [hc, hd]
           show wpAny M A (if (["enumerate", "zip", "dict_itemiterator", "dict_reverseitemiterator", "odict_iterator", "itertools.zip_longest", "itertools.pairwise"].contains n && vs[0]? == some (rawInt _)) = true then _ else _) Q E s
           rw [if_neg (by intro h; rw [hn, Bool.false_and] at h; cases h)]
           exact wpAny_pure hQ))

/-- the list at a, as it stands at each turn (a loop may append to it) -/
def Itl (K : PySem.W.Frag) (a : Addr) : It :=
  ⟨fun i H => ∃ xs x, SqL K H a xs ∧ xs[i]? = some x, fun i H x H' => H' = H ∧ ∀ xs, SqL K H a xs → xs[i]? = some x, fun i H => ∃ xs, SqL K H a xs ∧ xs.length ≤ i⟩
/-- lo, lo + 1, .. (n of them) -/
def Itr (lo : Int) (n : Nat) : It := ⟨fun i _ => i < n, fun i H x H' => H' = H ∧ x = .int (lo + i), fun i _ => n ≤ i⟩
theorem turn_list {P : Program} {w : World} {K : PySem.W.Frag} {tg : Expr} (a it : Addr) : Turn P w K tg (Itl K a) [it] it (fun i h => h.IsListIter it a i) where
  mem := by simp
  obj := fun i h st b hb => by
    have e : b = it := by simpa using hb
    subst e
    obtain ⟨o, e, c, d⟩ := st
    exact ⟨o, e, fun v z => by rw [d] at z; cases z⟩
  keep := fun i h h' st k => st.at fun o e => k it (by simp) o e
  item := by
    intro X hP hw hK hc i pins s σ H E I hf st hg
    subst hP hw hK
    obtain ⟨xs, x, hq, hx⟩ := hg
    obtain ⟨its, rv, p, hz⟩ := I.list hq
    obtain ⟨u, hu, ru⟩ := rv.get hx
    obtain ⟨f0, f1, f2, f3, f4, f5⟩ := hf it (by simp)
    refine wpAny_pyNext_list_item st p.isList (x := u) (by simpa using hu) fun h' st' sb => ?_
    have I1 : Inv X pins σ H { s with heap := h' } := I.turned (t' := s.toks) (fun b o hb e => (sb.2 b hb).trans e) f0 f1 f3 f4 f5
    obtain ⟨o, e, c, d⟩ := id st'
    exact ⟨u, rfl, go_of (s := { s with heap := h' }) e c d (by decide) ⟨x, H, I1, ru, ⟨rfl, fun ys hy => by rw [I.list_inj hy hq]; exact hx⟩, st', fun b hb => (hf b hb).1⟩⟩
  done := by
    intro X hP hw hK hc i pins s σ H E I hf st hg
    subst hP hw hK
    obtain ⟨xs, hq, hx⟩ := hg
    obtain ⟨its, rv, p, hz⟩ := I.list hq
    obtain ⟨f0, f1, f2, f3, f4, f5⟩ := hf it (by simp)
    have hl := rv.length
    exact wpAny_pyNext_list_end (I.ok.hd hc) st p.isList (by simp; omega) fun h' eb => ⟨rfl, I.turned (t' := s.toks) (fun b o hb e => eb b o hb e) f0 f1 f3 f4 f5⟩
  self := fun _ _ _ _ _ st h => wpAny_pyIter_listiter st h
theorem turn_range {P : Program} {w : World} {K : PySem.W.Frag} {tg : Expr} (it : Addr) (lo : Int) (n : Nat) : Turn P w K tg (Itr lo n) [it] it (fun i h => IsRangeIter h it (lo + (i : Nat) * 1) ((n : Int) - (i : Nat)) 1) where
  mem := by simp
  obj := fun i h st b hb => by
    have e : b = it := by simpa using hb
    subst e
    exact ⟨_, st, fun v z => by
      have z' : Data.fields _ = Data.cell v := z
      cases z'⟩
  keep := fun i h h' st k => k it (by simp) _ st
  item := by
    intro X hP hw hK hc i pins s σ H E I hf st hg
    subst hP hw hK
    obtain ⟨f0, f1, f2, f3, f4, f5⟩ := hf it (by simp)
    have W := Walks.range (prog := X.prog) (w := X.w) (I.ok.hd hc) it lo 1 n
    refine W.item i s _ _ hg st fun v h' tk hv st' kk => ?_
    obtain ⟨t, rfl⟩ := hv
    have I1 : Inv X pins σ H { s with heap := h', toks := tk } := I.turned (fun b o hb e => kk b o (by simpa using hb) e) f0 f1 f3 f4 f5
    refine ⟨_, rfl, go_of (s := { s with heap := h', toks := tk }) (n := "range_iterator") st' rfl rfl (by decide) ⟨.int (lo + i), H, I1, ⟨t, ?_⟩, ⟨rfl, rfl⟩, st', fun b hb => (hf b hb).1⟩⟩
    rw [Int.mul_one]
  done := by
    intro X hP hw hK hc i pins s σ H E I hf st hg
    subst hP hw hK
    obtain ⟨f0, f1, f2, f3, f4, f5⟩ := hf it (by simp)
    exact wpAny_pyNext_range_end (I.ok.hd hc) st (by have : n ≤ i := hg; omega) fun h' eb => ⟨rfl, I.turned (t' := s.toks) (fun b o hb e => eb b o hb e) f0 f1 f3 f4 f5⟩
  self := fun _ _ _ _ _ st h => wpAny_pyIter_rangeiter st h
end L2

namespace L2
open PySem PySem.Spec PyProof.Rows
section
variable {X : Cx} {tg : Expr}
def iList (K : PySem.W.Frag) (tl : TE) : TI := fun σ H R => tl σ H fun x H1 => ∃ a, x = .ref a ∧ (∃ xs, SqL K H1 a xs) ∧ R (Itl K a) H1
theorem pi_list {l : Expr} {tl : TE} (hl : PE X l tl) : PI X tg l (iList X.K tl) := by
  intro pins s σ H R I h
  refine thn (hl pins s σ H _ I h) fun v s1 ⟨x, H1, I1, r1, q1⟩ => ?_
  obtain ⟨a, e, ⟨xs, hq⟩, q⟩ := q1
  subst e
  cases r1
  obtain ⟨its, rv, p, hz⟩ := I1.list hq
  refine wpAny_pyIter_list p.isList ?_
  refine ⟨s1.heap.objs.size, [s1.heap.objs.size], _, _, H1, rfl, I1.kept (t' := s1.toks) fun b o e => Heap.get?_push_of_some _ e, turn_list a _, ⟨_, Heap.get?_push_size _ rfl, rfl, rfl⟩, fun b hb => ?_, q⟩
  have e : b = s1.heap.objs.size := by simpa using hb
  subst e
  exact I1.fpOk (Nat.le_refl _) (I1.hok.fresh (Nat.le_refl _))
/-- a range object just made, walked -/
theorem range_it {pins : List (Addr × Obj)} {σ : St} {H : Hp} {s : Shared} {R : It → Hp → Prop} {E : Value → Shared → Prop} {lo hi : Int} {t u v : Tok} {tk : Nat} (I : Inv X pins σ H s) (h1 : -(2 ^ 62) ≤ lo) (h2 : lo < 2 ^ 62) (h3 : -(2 ^ 62) ≤ hi) (h4 : hi < 2 ^ 62)
    (q : R (Itr lo (hi - lo).toNat) H) : wpAny (model X.prog X.w) X.A (pyIter (.ref s.heap.objs.size)) (PIE X pins σ tg R) E { s with heap := s.heap.push { cls := .type "range", data := .fields #[.int lo t, .int hi u, .int 1 v] }, toks := tk } := by
  refine wpAny_pyIter_range (IsRange.new ..) (small_one h1 h2 h3 h4) ?_
  have I1 : Inv X pins σ H { s with heap := s.heap.push { cls := .type "range", data := .fields #[.int lo t, .int hi u, .int 1 v] }, toks := tk } := I.kept fun b o e => Heap.get?_push_of_some _ e
  refine ⟨(s.heap.push { cls := .type "range", data := .fields #[.int lo t, .int hi u, .int 1 v] }).objs.size, [(s.heap.push { cls := .type "range", data := .fields #[.int lo t, .int hi u, .int 1 v] }).objs.size], _, _, H, rfl,
    I1.kept (t' := tk) fun b o e => Heap.get?_push_of_some _ e, turn_range _ lo (hi - lo).toNat, ?_, fun b hb => ?_, q⟩
  · have e1 : lo + ((0 : Nat) : Int) * 1 = lo := by simp
    have e2 : (((hi - lo).toNat : Nat) : Int) - ((0 : Nat) : Int) = Builtin.Range.rangeSize lo hi 1 := by rw [rangeSize_one]; split <;> omega
    show IsRangeIter _ _ (lo + ((0 : Nat) : Int) * 1) ((((hi - lo).toNat : Nat) : Int) - ((0 : Nat) : Int)) 1
    rw [e1, e2]
    exact Heap.get?_push_size _ rfl
  · have e : b = (s.heap.push { cls := .type "range", data := .fields #[.int lo t, .int hi u, .int 1 v] }).objs.size := by simpa using hb
    subst e
    exact I1.fpOk (Nat.le_refl _) (I1.hok.fresh (Nat.le_refl _))
def iRng1 (ta : TA) : TI := fun σ H R => ta σ H fun vs H1 => ∃ j : Int, vs = [.int j] ∧ -(2 ^ 62) ≤ j ∧ j < 2 ^ 62 ∧ R (Itr 0 j.toNat) H1
def iRng2 (ta : TA) : TI := fun σ H R => ta σ H fun vs H1 => ∃ i j : Int, vs = [.int i, .int j] ∧ (-(2 ^ 62) ≤ i ∧ i < 2 ^ 62 ∧ -(2 ^ 62) ≤ j ∧ j < 2 ^ 62) ∧ R (Itr i (j - i).toNat) H1
theorem pi_range1 {a : Expr} {ta : TA} {p pos : Pos} (hg : Gl X "range") (hm : X.mg "range" = none) (ha : PA X [a] ta) (hs : starEach [a] X.env = [(false, eval a X.env)] := by rfl) : PI X tg (.Call (.Name "range" p) [a] [] pos) (iRng1 ta) := by
  intro pins s σ H R I h
  refine Call_ (ld_blt I hg hm boot_range (PyProof.Rows.callWith_type1 (thn (ha pos pins s σ H _ I h) fun us s1 ⟨vs, H1, I1, r1, q1⟩ => ?_) hs rfl))
  obtain ⟨j, e, q1, q2, q⟩ := q1
  subst e
  cases r1 with
  | cons r rr =>
    cases rr
    obtain ⟨t, rfl⟩ := r
    exact call_range_1 (range_it I1 (by omega) (by omega) q1 q2 (by simpa using q))
theorem pi_range2 {a b : Expr} {ta : TA} {p pos : Pos} (hg : Gl X "range") (hm : X.mg "range" = none) (ha : PA X [a, b] ta) (hs : starEach [a, b] X.env = [(false, eval a X.env), (false, eval b X.env)] := by rfl) (hs2 : starEach [b] X.env = [(false, eval b X.env)] := by rfl) :
    PI X tg (.Call (.Name "range" p) [a, b] [] pos) (iRng2 ta) := by
  intro pins s σ H R I h
  refine Call_ (ld_blt I hg hm boot_range (PyProof.Rows.callWith_type1 (thn (ha pos pins s σ H _ I h) fun us s1 ⟨vs, H1, I1, r1, q1⟩ => ?_) (by rw [hs, hs2]) (by rw [hs2]; rfl)))
  obtain ⟨i, j, e, ⟨q1, q2, q3, q4⟩, q⟩ := q1
  subst e
  cases r1 with
  | cons r rr =>
    cases rr with
    | cons r' rr =>
      cases rr
      obtain ⟨t, rfl⟩ := r
      obtain ⟨t', rfl⟩ := r'
      exact call_range_2 (range_it I1 q1 q2 q3 q4 q)

/-! ### for -/
/-- W: the invariant by the turn and a measure; N: what the body is to reach -/
def tFor (wi : TI) (g : TG) (tb : TS) : TS := fun D σ H => wi σ H fun J H1 => ∃ W : Nat → Nat → St → Hp → Prop, (∃ m, W 0 m σ H1) ∧ ∀ i m σ H, W i m σ H →
  (J.stop i H ∧ D.nx σ H) ∨ (J.go i H ∧ ∃ N : St → Hp → Prop, (∀ σ' H', N σ' H' → ∃ m', m' < m ∧ W (i + 1) m' σ' H') ∧ ∀ x H', J.yld i H x H' → g x σ H' fun σ2 H2 => tb { D with nx := N, ct := N, bk := D.nx } σ2 H2)
/-- the records at fp as they stand -/
def pinsAt (fp : List Addr) (h : Heap) : List (Addr × Obj) := fp.filterMap fun b => (h.get? b).map fun o => (b, o)
theorem mem_pinsAt {fp : List Addr} {h : Heap} {b : Addr} {o : Obj} (hb : b ∈ fp) (e : h.get? b = some o) : (b, o) ∈ pinsAt fp h := List.mem_filterMap.mpr ⟨b, hb, by rw [e]; rfl⟩
theorem of_pinsAt {fp : List Addr} {h : Heap} {p : Addr × Obj} (hp : p ∈ pinsAt fp h) : p.1 ∈ fp ∧ h.get? p.1 = some p.2 := by
  obtain ⟨b, hb, e⟩ := List.mem_filterMap.mp hp
  cases q : h.get? b with
  | none => rw [q] at e; cases e
  | some o =>
    rw [q] at e
    have e' : (b, o) = p := Option.some.inj e
    subst e'
    exact ⟨hb, q⟩
theorem Inv.pinned {pins : List (Addr × Obj)} {σ : St} {H : Hp} {s : Shared} {fp : List Addr} (I : Inv X pins σ H s) (hf : ∀ b ∈ fp, FpOk X pins H b) (ho : ∀ b ∈ fp, ∃ o, s.heap.get? b = some o ∧ ∀ v, o.data ≠ .cell v) : Inv X (pins ++ pinsAt fp s.heap) σ H s :=
  I.pins_of fun p hp => (List.mem_append.mp hp).elim (fun z => I.pin p (List.mem_append_right _ z)) fun z => by
    obtain ⟨hb, e⟩ := of_pinsAt z
    obtain ⟨f0, f1, f2, _⟩ := hf p.1 hb
    obtain ⟨o, e', d⟩ := ho p.1 hb
    rw [e] at e'; cases e'
    exact ⟨e, f0, f1, f2, d⟩
theorem Inv.unpinned {pins pl : List (Addr × Obj)} {σ : St} {H : Hp} {s : Shared} (I : Inv X (pins ++ pl) σ H s) : Inv X pins σ H s := I.pins_of fun p hp => I.pin p (List.mem_append_right _ (List.mem_append_left _ hp))
theorem ps_for {iter : Expr} {body : List Stmt} {wi : TI} {g : TG} {tb : TS} {pos : Pos} (hp : PassesOwn (model X.prog X.w) X.A X.env X.xe) (hc : X.calm = true) (hi : PI X tg iter wi) (hg : PG X tg g) (hb : PSs X body tb)
    (hs : ∀ x, foldedSetIterable iter X.env x = pure x := by intro _; rfl) : PS X (.For tg iter body [] pos) (tFor wi g tb) := by
  intro pins s σ H D I h
  refine wpAny_For (thn (hi pins s σ H _ I h) fun v s1 h1 => thn h1 fun itv s2 h2 => ?_) hs
  obtain ⟨it, fp, tn, J, H2, e, I2, T, st2, f2, W, ⟨m0, w0⟩, turn⟩ := h2
  subst e
  -- what stays true of the iterator's objects through the loop
  have stat : ∀ {H' : Hp}, (∀ b ∈ fp, H' b = none) → ∀ b ∈ fp, FpOk X pins H' b := fun hn b hb => ⟨hn b hb, (f2 b hb).2⟩
  refine codeAny_forLoop_any (fun n s' => ∃ i σ' H', Inv X pins σ' H' s' ∧ tn i s'.heap ∧ (∀ b ∈ fp, H' b = none) ∧ W i n σ' H') ?_ m0 ⟨0, σ, H2, I2, st2, fun b hb => (f2 b hb).1, w0⟩
  rintro n s3 ⟨i, σ3, H3, I3, st3, fr3, w3⟩
  rcases turn i n σ3 H3 w3 with ⟨stop, qn⟩ | ⟨go, N, hN, step⟩
  · refine wpAny_passesOwn hp (thn (T.done X rfl rfl rfl hc i pins s3 σ3 H3 X.xe I3 (stat fr3) st3 stop) fun r s4 ⟨hr, I4⟩ => ?_)
    subst hr
    exact wpAny_execs_nil ⟨σ3, H3, I4, qn⟩
  · refine wpAny_passesOwn hp (thn (T.item X rfl rfl rfl hc i pins s3 σ3 H3 X.xe I3 (stat fr3) st3 go) fun r s4 ⟨u, hr, h4⟩ => ?_)
    subst hr
    refine wpAny_passesOwn hp (thn h4 fun _ s5 ⟨x, H5, I5, r5, y5, st5, fr5⟩ => ?_)
    have I5' := I5.pinned (stat fr5) (T.obj _ _ st5)
    refine wpAny_passesOwn hp (thn (hg _ s5 σ3 H5 x u _ I5' r5 (step x H5 y5)) fun _ s6 ⟨σ6, H6, I6, q6⟩ => ?_)
    refine wpAny_passesOwn hp (thn (hb _ s6 σ6 H6 _ I6 q6) fun f s7 q7 => ?_)
    have again : ∀ {σ7 : St} {H7 : Hp}, Inv X (pins ++ pinsAt fp s5.heap) σ7 H7 s7 → N σ7 H7 → ∃ m, m < n ∧ ∃ i σ' H', Inv X pins σ' H' s7 ∧ tn i s7.heap ∧ (∀ b ∈ fp, H' b = none) ∧ W i m σ' H' := fun {σ7 H7} I7 n7 => by
      obtain ⟨m', hm, w7⟩ := hN σ7 H7 n7
      refine ⟨m', hm, i + 1, σ7, H7, I7.unpinned, T.keep _ _ _ st5 fun b hb o e => (I7.pin (b, o) (List.mem_append_right _ (List.mem_append_right _ (mem_pinsAt hb e)))).1, fun b hb => ?_, w7⟩
      obtain ⟨o, e, d⟩ := T.obj _ _ st5 b hb
      exact (I7.pin (b, o) (List.mem_append_right _ (List.mem_append_right _ (mem_pinsAt hb e)))).2.1
    cases f with
    | next => obtain ⟨σ7, H7, I7, n7⟩ := q7; exact again I7 n7
    | cont => obtain ⟨σ7, H7, I7, n7⟩ := q7; exact again I7 n7
    | brk => obtain ⟨σ7, H7, I7, q7⟩ := q7; exact ⟨σ7, H7, I7.unpinned, q7⟩
    | ret v => obtain ⟨x7, σ7, H7, I7, r7, q7⟩ := q7; exact ⟨x7, σ7, H7, I7.unpinned, r7, q7⟩
end

/-! ### the forms one uses -/
end L2

namespace L2
open PySem PySem.Spec PyProof.Rows

abbrev R2 := V → V → Hp → VK → Prop
/-- a two-place operation on values: f is binaryOp op, inplaceOp op or compareOp op -/
def OpR (X : Cx) (f : Value → Value → Sem Value) (r : R2) : Prop :=
  ∀ (pins : List (Addr × Obj)) (s : Shared) (σ : St) (H : Hp) (x y : V) (v u : Value) (Q : VK), Inv X pins σ H s → RelV x v → RelV y u → r x y H Q →
    wpAny (model X.prog X.w) X.A (f v u) (EP X pins σ Q) X.xe s
/-- a one-place operation -/
def UnR (X : Cx) (f : Value → Sem Value) (r : V → Hp → VK → Prop) : Prop :=
  ∀ (pins : List (Addr × Obj)) (s : Shared) (σ : St) (H : Hp) (x : V) (v : Value) (Q : VK), Inv X pins σ H s → RelV x v → r x H Q →
    wpAny (model X.prog X.w) X.A (f v) (EP X pins σ Q) X.xe s
/-- a call of a value that is known (a builtin, a type) with values -/
def CallR (X : Cx) (f : Value) (r : List V → Hp → VK → Prop) : Prop :=
  ∀ (pins : List (Addr × Obj)) (s : Shared) (σ : St) (H : Hp) (xs : List V) (us : List Value) (Q : VK), Inv X pins σ H s → Vals xs us → r xs H Q →
    wpAny (model X.prog X.w) X.A (call f us) (EP X pins σ Q) X.xe s
/-- a value's truth -/
def TruR (X : Cx) (r : V → Hp → (Bool → Hp → Prop) → Prop) : Prop :=
  ∀ (pins : List (Addr × Obj)) (s : Shared) (σ : St) (H : Hp) (x : V) (v : Value) (Q : Bool → Hp → Prop), Inv X pins σ H s → RelV x v → r x H Q →
    wpAny (model X.prog X.w) X.A (truthy v) (TP X pins σ Q) X.xe s

def tOp (r : R2) (ta tb : TE) : TE := fun σ H Q => ta σ H fun x H1 => tb σ H1 fun y H2 => r x y H2 Q
def tUn (r : V → Hp → VK → Prop) (ta : TE) : TE := fun σ H Q => ta σ H fun x H1 => r x H1 Q
/-- ints in, under C, and a value out -/
def rI (C : Int → Int → Prop) (g : Int → Int → V) : R2 := fun x y H Q => ∃ i j, x = .int i ∧ y = .int j ∧ C i j ∧ Q (g i j) H
def rI0 (g : Int → Int → V) : R2 := fun x y H Q => ∃ i j, x = .int i ∧ y = .int j ∧ Q (g i j) H
def rU (g : Int → V) : V → Hp → VK → Prop := fun x H Q => ∃ i, x = .int i ∧ Q (g i) H

section
variable {X : Cx} {a b c : Expr} {ta tb tc : TE} {pos : Pos}

theorem binT (ha : PE X a ta) (hb : PE X b tb) {pins : List (Addr × Obj)} {s : Shared} {σ : St} {H : Hp} {R : V → V → Hp → Prop} (I : Inv X pins σ H s)
    (h : ta σ H fun x H1 => tb σ H1 fun y H2 => R x y H2) {Q : Value → Shared → Prop} {f : Value → Value → Sem Value}
    (hf : ∀ v u s2 x y H2, Inv X pins σ H2 s2 → RelV x v → RelV y u → R x y H2 → wpAny (model X.prog X.w) X.A (f v u) Q X.xe s2) :
    wpAny (model X.prog X.w) X.A (eval a X.env) (fun v s₁ => wpAny (model X.prog X.w) X.A (eval b X.env) (fun u s₂ => wpAny (model X.prog X.w) X.A (f v u) Q X.xe s₂) X.xe s₁) X.xe s := by
  refine thn (ha pins s σ H _ I h) fun v s1 ⟨x, H1, I1, r1, q1⟩ => ?_
  refine thn (hb pins s1 σ H1 _ I1 q1) fun u s2 ⟨y, H2, I2, r2, q2⟩ => ?_
  exact hf v u s2 x y H2 I2 r1 r2 q2

theorem pe_op {op : Operator} {r : R2} (ho : OpR X (binaryOp op) r) (ha : PE X a ta) (hb : PE X b tb) : PE X (.BinOp a op b pos) (tOp r ta tb) := by
  intro pins s σ H Q I h
  exact wpAny_BinOp (binT ha hb I h fun v u s2 x y H2 I2 rx ry q => ho pins s2 σ H2 x y v u Q I2 rx ry q)
theorem pe_un {op : UnaryOp} {r : V → Hp → VK → Prop} (ho : UnR X (unaryOp op) r) (ha : PE X a ta) : PE X (.UnaryOp op a pos) (tUn r ta) := by
  intro pins s σ H Q I h
  exact UnaryOp_ (thn (ha pins s σ H _ I h) fun v s1 ⟨x, H1, I1, r1, q1⟩ => ho pins s1 σ H1 x v Q I1 r1 q1)

/-! ### ints -/
theorem opI {f : Value → Value → Sem Value} {C : Int → Int → Prop} {g : Int → Int → Int}
    (rule : ∀ (i j : Int) (t u : Tok) (s : Shared) (Q : Value → Shared → Prop) (E : Value → Shared → Prop), C i j → Q (.int (g i j) s.toks) { s with toks := s.toks + 1 } → wpAny (model X.prog X.w) X.A (f (.int i t) (.int j u)) Q E s) :
    OpR X f (rI C fun i j => .int (g i j)) := by
  intro pins s σ H x y v u Q I rx ry h
  obtain ⟨i, j, rfl, rfl, hc, q⟩ := h
  obtain ⟨t, rfl⟩ := rx
  obtain ⟨t', rfl⟩ := ry
  exact rule i j t t' s _ _ hc ⟨.int (g i j), H, I.tok _, ⟨_, rfl⟩, q⟩
theorem opI0 {f : Value → Value → Sem Value} {g : Int → Int → Int}
    (rule : ∀ (i j : Int) (t u : Tok) (s : Shared) (Q : Value → Shared → Prop) (E : Value → Shared → Prop), Q (.int (g i j) s.toks) { s with toks := s.toks + 1 } → wpAny (model X.prog X.w) X.A (f (.int i t) (.int j u)) Q E s) :
    OpR X f (rI0 fun i j => .int (g i j)) := by
  intro pins s σ H x y v u Q I rx ry h
  obtain ⟨i, j, rfl, rfl, q⟩ := h
  obtain ⟨t, rfl⟩ := rx
  obtain ⟨t', rfl⟩ := ry
  exact rule i j t t' s _ _ ⟨.int (g i j), H, I.tok _, ⟨_, rfl⟩, q⟩
theorem opB0 {f : Value → Value → Sem Value} {g : Int → Int → Bool}
    (rule : ∀ (i j : Int) (t u : Tok) (s : Shared) (Q : Value → Shared → Prop) (E : Value → Shared → Prop), Q (.bool (g i j)) s → wpAny (model X.prog X.w) X.A (f (.int i t) (.int j u)) Q E s) :
    OpR X f (rI0 fun i j => .bl (g i j)) := by
  intro pins s σ H x y v u Q I rx ry h
  obtain ⟨i, j, rfl, rfl, q⟩ := h
  obtain ⟨t, rfl⟩ := rx
  obtain ⟨t', rfl⟩ := ry
  exact rule i j t t' s _ _ ⟨.bl (g i j), H, I, rfl, q⟩

def CMul (i j : Int) : Prop := (-(2 ^ 64) < i ∧ i < 2 ^ 64) ∨ (-(2 ^ 64) < j ∧ j < 2 ^ 64)
theorem CMul.ok {i j : Int} (h : CMul i j) : IntMulOk i j := by
  rcases h with ⟨h1, h2⟩ | ⟨h1, h2⟩
  · exact .of_left (intBits_le_64 h1 h2)
  · exact .of_right (intBits_le_64 h1 h2)

theorem op_add : OpR X (binaryOp .Add) (rI0 fun i j => .int (i + j)) := opI0 fun _ _ _ _ _ _ _ q => add_int q
theorem op_sub : OpR X (binaryOp .Sub) (rI0 fun i j => .int (i - j)) := opI0 fun _ _ _ _ _ _ _ q => sub_int q
theorem op_mul : OpR X (binaryOp .Mult) (rI CMul fun i j => .int (i * j)) := opI fun _ _ _ _ _ _ _ hc q => mul_int q hc.ok


theorem unI {f : Value → Sem Value} {g : Int → Int}
    (rule : ∀ (i : Int) (t : Tok) (s : Shared) (Q : Value → Shared → Prop) (E : Value → Shared → Prop), Q (.int (g i) s.toks) { s with toks := s.toks + 1 } → wpAny (model X.prog X.w) X.A (f (.int i t)) Q E s) :
    UnR X f (rU fun i => .int (g i)) := by
  intro pins s σ H x v Q I rx h
  obtain ⟨i, rfl, q⟩ := h
  obtain ⟨t, rfl⟩ := rx
  exact rule i t s _ _ ⟨.int (g i), H, I.tok _, ⟨_, rfl⟩, q⟩
theorem un_neg : UnR X (unaryOp .USub) (rU fun i => .int (-i)) := unI fun _ _ _ _ _ q => neg_int q

/-! ### bools among ints: n += (a < b) -/
end

/-! ### comparisons -/
/-- the scalars that == tells apart as data does -/
def scal : V → V → Bool
  | .non, .non => true | .non, .int _ => true | .int _, .non => true | .non, .bl _ => true | .bl _, .non => true | .non, .str _ => true | .str _, .non => true
  | .int _, .int _ => true | .bl _, .bl _ => true | .str _, .str _ => true | .byt _, .byt _ => true
  | .int _, .str _ => true | .str _, .int _ => true | .bl _, .str _ => true | .str _, .bl _ => true
  | _, _ => false
def rEq : R2 := fun x y H Q => scal x y = true ∧ Q (.bl (decide (x = y))) H
def rNe : R2 := fun x y H Q => scal x y = true ∧ Q (.bl (!decide (x = y))) H

theorem dec_int {i j : Int} : decide (V.int i = V.int j) = (i == j) := by
  rw [Bool.eq_iff_iff]
  simp
theorem dec_bl {i j : Bool} : decide (V.bl i = V.bl j) = (i == j) := by
  rw [Bool.eq_iff_iff]
  simp
theorem dec_str {i j : Str} : decide (V.str i = V.str j) = (i == j) := by
  rw [Bool.eq_iff_iff]
  simp
theorem dec_byt {i j : Array UInt8} : decide (V.byt i = V.byt j) = (i.toList == j.toList) := by
  rw [Bool.eq_iff_iff]
  cases i
  cases j
  simp

section
variable {X : Cx} {a b c : Expr} {ta tb tc : TE} {pos : Pos}
theorem fin_bl {pins : List (Addr × Obj)} {σ : St} {H : Hp} {s : Shared} {Q : VK} {k k' : Bool} (I : Inv X pins σ H s) (q : Q (.bl k) H) (e : k = k') : EP X pins σ Q (.bool k') s := by
  subst e
  exact ⟨.bl k, H, I, rfl, q⟩
theorem op_eq : OpR X (compareOp .Eq) rEq := by
  intro pins s σ H x y v u Q I rx ry h
  obtain ⟨hs, q⟩ := h
  cases x with
  | non =>
    cases rx
    cases y with
    | non => cases ry; exact PySem.EqNone.eq_none_none (fin_bl I q (by simp))
    | bl j => cases ry; exact PySem.EqNone.eq_none_bool (fin_bl I q (by simp))
    | int j => obtain ⟨t', rfl⟩ := ry; exact PySem.EqNone.eq_none_int (fin_bl I q (by simp))
    | str j => obtain ⟨t', rfl⟩ := ry; exact PySem.EqNone.eq_none_str (fin_bl I q (by simp))
    | _ => exact absurd (show false = true from hs) Bool.false_ne_true
  | bl i =>
    cases rx
    cases y with
    | non => cases ry; exact PySem.EqNone.eq_bool_none (fin_bl I q (by simp))
    | bl j => cases ry; exact eq_bool (fin_bl I q dec_bl)
    | str j => obtain ⟨t', rfl⟩ := ry; exact PySem.EqMixed.eq_bool_str (fin_bl I q (by simp))
    | _ => exact absurd (show false = true from hs) Bool.false_ne_true
  | int i =>
    obtain ⟨t, rfl⟩ := rx
    cases y with
    | non => cases ry; exact PySem.EqNone.eq_int_none (fin_bl I q (by simp))
    | int j => obtain ⟨t', rfl⟩ := ry; exact eq_int (fin_bl I q dec_int)
    | str j => obtain ⟨t', rfl⟩ := ry; exact PySem.EqMixed.eq_int_str (fin_bl I q (by simp))
    | _ => exact absurd (show false = true from hs) Bool.false_ne_true
  | str i =>
    obtain ⟨t, rfl⟩ := rx
    cases y with
    | non => cases ry; exact PySem.EqNone.eq_str_none (fin_bl I q (by simp))
    | bl j => cases ry; exact PySem.EqMixed.eq_str_bool (fin_bl I q (by simp))
    | int j => obtain ⟨t', rfl⟩ := ry; exact PySem.EqMixed.eq_str_int (fin_bl I q (by simp))
    | str j => obtain ⟨t', rfl⟩ := ry; exact eq_str (fin_bl I q dec_str)
    | _ => exact absurd (show false = true from hs) Bool.false_ne_true
  | byt i =>
    obtain ⟨t, rfl⟩ := rx
    cases y with
    | byt j => obtain ⟨t', rfl⟩ := ry; exact PySem.W.eq_bytes (fin_bl I q dec_byt)
    | _ => exact absurd (show false = true from hs) Bool.false_ne_true
  | _ => cases y <;> exact absurd (show false = true from hs) Bool.false_ne_true
theorem op_ne : OpR X (compareOp .NotEq) rNe := by
  intro pins s σ H x y v u Q I rx ry h
  obtain ⟨hs, q⟩ := h
  cases x with
  | non =>
    cases rx
    cases y with
    | non => cases ry; exact PySem.EqNone.ne_none_none (fin_bl I q (by simp))
    | bl j => cases ry; exact PySem.EqNone.ne_none_bool (fin_bl I q (by simp))
    | int j => obtain ⟨t', rfl⟩ := ry; exact PySem.EqNone.ne_none_int (fin_bl I q (by simp))
    | str j => obtain ⟨t', rfl⟩ := ry; exact PySem.EqNone.ne_none_str (fin_bl I q (by simp))
    | _ => exact absurd (show false = true from hs) Bool.false_ne_true
  | bl i =>
    cases rx
    cases y with
    | non => cases ry; exact PySem.EqNone.ne_bool_none (fin_bl I q (by simp))
    | bl j => cases ry; exact ne_bool (fin_bl I q (congrArg not dec_bl))
    | str j => obtain ⟨t', rfl⟩ := ry; exact PySem.EqMixed.ne_bool_str (fin_bl I q (by simp))
    | _ => exact absurd (show false = true from hs) Bool.false_ne_true
  | int i =>
    obtain ⟨t, rfl⟩ := rx
    cases y with
    | non => cases ry; exact PySem.EqNone.ne_int_none (fin_bl I q (by simp))
    | int j => obtain ⟨t', rfl⟩ := ry; exact ne_int (fin_bl I q (congrArg not dec_int))
    | str j => obtain ⟨t', rfl⟩ := ry; exact PySem.EqMixed.ne_int_str (fin_bl I q (by simp))
    | _ => exact absurd (show false = true from hs) Bool.false_ne_true
  | str i =>
    obtain ⟨t, rfl⟩ := rx
    cases y with
    | non => cases ry; exact PySem.EqNone.ne_str_none (fin_bl I q (by simp))
    | bl j => cases ry; exact PySem.EqMixed.ne_str_bool (fin_bl I q (by simp))
    | int j => obtain ⟨t', rfl⟩ := ry; exact PySem.EqMixed.ne_str_int (fin_bl I q (by simp))
    | str j => obtain ⟨t', rfl⟩ := ry; exact ne_str (fin_bl I q (congrArg not dec_str))
    | _ => exact absurd (show false = true from hs) Bool.false_ne_true
  | byt i =>
    obtain ⟨t, rfl⟩ := rx
    cases y with
    | byt j => obtain ⟨t', rfl⟩ := ry; exact PySem.W.ne_bytes (fin_bl I q (congrArg not dec_byt))
    | _ => exact absurd (show false = true from hs) Bool.false_ne_true
  | _ => cases y <;> exact absurd (show false = true from hs) Bool.false_ne_true

theorem op_lt : OpR X (compareOp .Lt) (rI0 fun i j => .bl (decide (i < j))) := opB0 fun _ _ _ _ _ _ _ q => lt_int q
theorem op_le : OpR X (compareOp .LtE) (rI0 fun i j => .bl (decide (i ≤ j))) := opB0 fun _ _ _ _ _ _ _ q => le_int q
theorem op_gt : OpR X (compareOp .Gt) (rI0 fun i j => .bl (decide (j < i))) := opB0 fun _ _ _ _ _ _ _ q => gt_int q
theorem op_ge : OpR X (compareOp .GtE) (rI0 fun i j => .bl (decide (j ≤ i))) := opB0 fun _ _ _ _ _ _ _ q => ge_int q




theorem nomark (b : Expr) {op : CmpOp} (h : op ≠ .In := by decide) (h2 : op ≠ .NotIn := by decide) : behindInMarks op b = false := by
  have e1 : (op == CmpOp.In) = false := by cases op <;> first | rfl | exact absurd rfl h
  have e2 : (op == CmpOp.NotIn) = false := by cases op <;> first | rfl | exact absurd rfl h2
  cases b <;> simp [behindInMarks, e1, e2]
/-- a comparison as a value; hm: nomark b, or (for in, not in) by with_unfolding_all rfl -/
theorem pe_cmpR {op : CmpOp} {r : R2} (ho : OpR X (compareOp op) r) (ha : PE X a ta) (hb : PE X b tb) (hm : behindInMarks op b = false) : PE X (.Compare a [op] [b] pos) (tOp r ta tb) := by
  intro pins s σ H Q I h
  exact wpAny_Compare1 (binT ha hb I h fun v u s2 x y H2 I2 rx ry q => ho pins s2 σ H2 x y v u Q I2 rx ry q) hm
/-- a reading of a value as a test -/
def tTest (t : TE) : TT := fun σ H Q => t σ H fun x H' => ∃ k, x = .bl k ∧ Q k H'
theorem pt_cmpR {op : CmpOp} {r : R2} (ho : OpR X (compareOp op) r) (ha : PE X a ta) (hb : PE X b tb) (hm : behindInMarks op b = false) : PT X (.Compare a [op] [b] pos) (tTest (tOp r ta tb)) := by
  intro pins s σ H Q I h
  refine wpAny_isTrue_Compare1 (thn (ha pins s σ H _ I h) fun v s1 ⟨x, H1, I1, r1, q1⟩ => thn (hb pins s1 σ H1 _ I1 q1) fun u s2 ⟨y, H2, I2, r2, q2⟩ =>
    thn (ho pins s2 σ H2 x y v u _ I2 r1 r2 q2) fun c s3 ⟨z, H3, I3, r3, k, e, q3⟩ => ?_) hm
  subst e
  cases r3
  exact wpAny_truthy_bool ⟨H3, I3, q3⟩

/-! ### truth -/
/-- a value's truth by the abstract heap -/
def TruV (K : PySem.W.Frag) (x : V) (H : Hp) (k : Bool) : Prop :=
  match x with
  | .non => k = false
  | .bl b => k = b
  | .int i => k = (i != 0)
  | .str y => y.length ≤ sizeLine ∧ k = ((y.length : Int) != 0)
  | .byt y => y.size ≤ sizeLine ∧ k = ((y.size : Int) != 0)
  | .ref p => (∃ xs, SqL K H p xs ∧ k = !xs.isEmpty) ∨ (∃ xs, SqT K H p xs ∧ k = !xs.isEmpty) ∨ ∃ kvs, H p = some (.dK kvs) ∧ k = !kvs.isEmpty
  | _ => False
theorem isEmpty_kv {κ : Type} {kvs : List (κ × V)} {vs : List (κ × Value)} (r : KV kvs vs) : (!vs.isEmpty) = !kvs.isEmpty := by
  cases r <;> rfl
theorem isEmpty_of {xs : List V} {its : List Value} (r : Vals xs its) : (!its.toArray.isEmpty) = !xs.isEmpty := by
  cases r <;> simp
theorem line63 : (sizeLine : Nat) < 2 ^ 63 := by rw [sizeLine_eq]; decide
theorem tru_ok : TruR X (fun x H Q => ∃ k, TruV X.K x H k ∧ Q k H) := by
  intro pins s σ H x v Q I rx h
  obtain ⟨k, e, q⟩ := h
  have hl := line63
  have hs : sizeLine = 16777216 := sizeLine_eq
  cases x with
  | non =>
    cases rx
    have e' : k = false := e
    subst e'
    exact truthy_none ⟨H, I, q⟩
  | bl b =>
    cases rx
    have e' : k = b := e
    subst e'
    exact wpAny_truthy_bool ⟨H, I, q⟩
  | int i =>
    obtain ⟨t, rfl⟩ := rx
    have e' : k = (i != 0) := e
    subst e'
    exact PySem.P.truthy_int ⟨H, I, q⟩
  | str y =>
    obtain ⟨t, rfl⟩ := rx
    obtain ⟨hy, e'⟩ : y.length ≤ sizeLine ∧ k = ((y.length : Int) != 0) := e
    subst e'
    exact PySem.P.truthy_str (by omega) ⟨H, I.tok _, q⟩
  | byt y =>
    obtain ⟨t, rfl⟩ := rx
    obtain ⟨hy, e'⟩ : y.size ≤ sizeLine ∧ k = ((y.size : Int) != 0) := e
    subst e'
    exact PySem.W.truthy_bytes (by omega) ⟨H, I.tok _, q⟩
  | ref p =>
    cases rx
    have e' : (∃ xs, SqL X.K H p xs ∧ k = !xs.isEmpty) ∨ (∃ xs, SqT X.K H p xs ∧ k = !xs.isEmpty) ∨ ∃ kvs, H p = some (.dK kvs) ∧ k = !kvs.isEmpty := e
    rcases e' with ⟨xs, hx, e'⟩ | ⟨xs, hx, e'⟩ | ⟨kvs, hx, e'⟩
    · subst e'
      obtain ⟨its, r, pl, hz⟩ := I.list hx
      have hlen := r.length
      exact wpAny_truthy_list pl.isList (by simp only [List.size_toArray]; omega) ⟨H, I.tok _, by rw [isEmpty_of r]; exact q⟩
    · subst e'
      obtain ⟨its, r, pl, hz⟩ := I.tuple hx
      have hlen := r.length
      exact truthy_tuple pl (by simp only [List.size_toArray]; omega) ⟨H, I.tok _, by rw [isEmpty_of r]; exact q⟩
    · subst e'
      obtain ⟨hz, hS, vs, r, m⟩ : kvs.length ≤ sizeLine ∧ (p == sysModules) = false ∧ ∃ vs, KV kvs vs ∧ s.heap.DictOf (mixKind X.prog X.w) p vs := I.hok p _ hx
      have hlen : kvs.length = vs.length := Paired.length r
      exact wpAny_truthy_dict hS m (by omega) ⟨H, I.tok _, by rw [isEmpty_kv r]; exact q⟩
  | _ => exact (show False from e).elim
/-- any expression whose test is its value's truth (a name, a call, a subscript, a field ..: he by fun _ => rfl) -/
theorem pt_truth (ha : PE X a ta) (he : ∀ whole, isTrue a X.env whole = (do let v ← whole; standAt a.pos; holding [v] (truthy v))) :
    PT X a (fun σ H Q => ta σ H fun x H' => ∃ k, TruV X.K x H' k ∧ Q k H') := by
  intro pins s σ H Q I h
  exact isTrue_plain (thn (ha pins s σ H _ I h) fun v s1 ⟨x, H1, I1, r1, q1⟩ => tru_ok pins s1 σ H1 x v Q I1 r1 q1) (he _)

/-! ### strs and bytes -/


/-! ### scalar builtins, by CallR -/
theorem vals1 {x : V} {us : List Value} (r : Vals [x] us) : ∃ u, us = [u] ∧ RelV x u := by
  cases r with
  | cons r1 r2 => cases r2; exact ⟨_, rfl, r1⟩
theorem vals2 {x y : V} {us : List Value} (r : Vals [x, y] us) : ∃ u w', us = [u, w'] ∧ RelV x u ∧ RelV y w' := by
  cases r with
  | cons r1 r2 =>
    cases r2 with
    | cons r3 r4 => cases r4; exact ⟨_, _, rfl, r1, r3⟩
theorem call_abs : CallR X (.builtin "abs") (fun xs H Q => ∃ i, xs = [.int i] ∧ Q (.int (if i < 0 then -i else i)) H) := by
  intro pins s σ H xs us Q I r h
  obtain ⟨i, rfl, q⟩ := h
  obtain ⟨u, rfl, t, rfl⟩ := vals1 r
  exact call_abs_int fun u tk => ⟨.int (if i < 0 then -i else i), H, I.tok _, ⟨_, rfl⟩, q⟩
theorem call_min2 (hc : X.calm = true) : CallR X (.builtin "min") (fun xs H Q => ∃ i j, xs = [.int i, .int j] ∧ Q (.int (if j < i then j else i)) H) := by
  intro pins s σ H xs us Q I r h
  obtain ⟨i, j, rfl, q⟩ := h
  obtain ⟨u, w', rfl, ⟨t, rfl⟩, ⟨t', rfl⟩⟩ := vals2 r
  refine min_two_ints (I.ok.hd hc) fun h' tk k => ⟨_, H, I.kept k, ?_, q⟩
  by_cases hj : j < i
  · rw [if_pos hj, if_pos hj]; exact ⟨_, rfl⟩
  · rw [if_neg hj, if_neg hj]; exact ⟨_, rfl⟩
end
end L2

namespace L2
open PySem PySem.Spec PyProof.Rows

/-! ### an instance, its attributes a map -/
structure ObjM (h : Heap) (x dx C : Addr) (mA : Str → Option Value) : Prop where
  obj : h.get? x = some (PySem.W.instObj C dx)
  ns : h.Ns1 dx mA
  ne : dx ≠ x

theorem lookIn_ns {h : Heap} {dx : Addr} {mA : Str → Option Value} (n : h.Ns1 dx mA) : ∃ od, h.get? dx = some od ∧ ∀ name, PySem.W.lookIn name od = some (mA name) := by
  obtain ⟨o, es, ep, ho, hd, hk, _, hm⟩ := n
  refine ⟨o, ho, fun name => ?_⟩
  have e := hm name
  unfold nsFind findBy at e
  rw [← Array.find?_toList] at e
  unfold PySem.W.lookIn
  rw [hd]
  dsimp only
  split
  · rename_i y q
    rw [q] at e
    exact congrArg some e
  · rename_i q
    rw [q] at e
    have a : es.toList.any (·.refKey) = false := by
      rw [List.any_eq_false]
      intro y hy
      obtain ⟨z, t, hkey⟩ := hk y (Array.mem_toList_iff.mp hy)
      simp [DictEntry.refKey, hkey]
    have a' : ¬ es.toList.any (·.refKey) = true := by rw [a]; exact Bool.false_ne_true
    rw [if_neg a']
    exact congrArg some e

theorem ObjM.look {h : Heap} {x dx C : Addr} {mA : Str → Option Value} (I : ObjM h x dx C mA) : ∃ od, PySem.W.InstAt h x (PySem.W.instObj C dx) C (some od) ∧ ∀ name, PySem.W.lookIn name od = some (mA name) :=
  let ⟨od, ho, hl⟩ := lookIn_ns I.ns
  ⟨od, ⟨I.obj, rfl, rfl, ho⟩, hl⟩

section
variable {prog : Program} {w : World} {A : Around} {E : Value → Shared → Prop} {s : Shared} {K : PySem.W.Frag} {x dx C f : Addr} {mA : Str → Option Value} {name : Str} {v : Value}

theorem get_map {expr : Bool} {Q : Value → Shared → Prop} (X : K.In s.heap) (I : ObjM s.heap x dx C mA) (hg : PySem.W.plainGet K C name = true) (hh : PySem.W.hasDictIn K C = true)
    (ha : PySem.W.findIn K (.ref C) name = some none) (hv : mA name = some v) (hv' : PySem.W.handedIn v = true) (h : Q v { s with toks := s.toks + 1 }) :
    wpAny (model prog w) A (getAttr (.ref x) name expr) Q E s := by
  obtain ⟨od, J, hl⟩ := I.look
  exact PySem.W.get_value X J (PySem.W.plainGet_of hg).1 (PySem.W.findObj_own hh ha rfl (by rw [hl, hv])) hv' h


theorem get_meth {pl : Sem Bool} {Q : Value × List Value → Shared → Prop} (X : K.In s.heap) (I : ObjM s.heap x dx C mA) (hg : PySem.W.plainGet K C name = true)
    (hf : PySem.W.findIn K (.ref C) name = some (some (.ref f))) (ht : PySem.W.isFn K (.ref f) = true) (hv : mA name = none) (h : Q (.ref f, [.ref x]) s) :
    wpAny (model prog w) A (getMethod (.ref x) name pl) Q E s := by
  obtain ⟨od, J, hl⟩ := I.look
  exact PySem.W.method_fn X J (PySem.W.plainGet_of hg).1 (PySem.W.plainGet_of hg).2 hf (beq_iff_eq.mp ht) (by show (PySem.W.lookIn name od).map (·.isSome) = some false; rw [hl, hv]; rfl) h

theorem set_map {ns : List Str} {Q : Unit → Shared → Prop} (X : K.In s.heap) (I : ObjM s.heap x dx C mA)
    (hs : PySem.W.findIn K (.ref C) "__setattr__" = some (some (.builtin "object.__setattr__"))) (hp : PySem.W.plainOver K C = true) (ht : PySem.W.takerIn K C name = some none) (hh : PySem.W.hasDictIn K C = true)
    (hw : PySem.Within mA ns) (hsz : ns.length ≤ sizeLine)
    (h : ∀ h', ObjM h' x dx C (fun y => if y = name then some v else mA y) → Heap.SameBut dx s.heap h' → Q () { s with heap := h', toks := s.toks + 2 }) :
    wpAny (model prog w) A (setAttr (.ref x) name v) Q E s := by
  obtain ⟨od, J, hl⟩ := I.look
  refine PySem.W.set_plain X J hs (PySem.W.osa_open (s := { s with toks := s.toks + 1 }) (r := none) X J hp ht fun b => ?_)
  obtain ⟨cd, hc, hd'⟩ := PySem.W.any_some hh
  have hx : s.heap.get? x = some ⟨.ref C, some dx, .plain, #[]⟩ := I.obj
  refine wpAny_bind (wpAny_pure (wpAny_bind (wpAny_bind (wpAny_loadPart hx (wpAny_bind (PySem.W.Looks.here (s := { s with toks := s.toks + 1 }) (PySem.W.looks_clsIn X hc) ?_))))))
  rw [hd']
  refine wpAny_pure (a := some dx) (wpAny_bind (wpAny_pure (wpAny_bind ?_)))
  refine wpAny_nsSet1 (s := { s with toks := s.toks + 1 }) I.ns fun h' hn2 hs2 => ?_
  obtain ⟨oD, esD, epD, hoD, hdD, hcD⟩ := hn2.count (PySem.Within.cons name v hw)
  refine wpAny_bind (wpAny_lookBehind hoD (by rw [hdD]; exact pastItsLine_dict (Nat.le_trans hcD (by rw [List.length_cons]; omega))) ?_)
  exact wpAny_pure (h _ ⟨(hs2.2 _ (Ne.symm I.ne)).trans I.obj, hn2, I.ne⟩ hs2)

/-- C(..): the dict at the heap's end, the instance behind it; then its __init__ -/
theorem make_map {R : Result → Shared → Prop} {vs : List Value} {kw : List (Str × Value)} (X : K.In s.heap) (hm : PySem.W.makesIn K C = true)
    (hi : PySem.W.findIn K (.ref C) "__init__" = some (some (.ref f))) (hf : PySem.W.typeIn K (.ref f) = some (.type "function"))
    (h : codeAny (model prog w) (A.under (.builtin "type.__call__" ⟨.ref C :: vs, kw⟩)) (.call (.ref f) ⟨.ref (s.heap.objs.size + 1) :: vs, kw⟩) (PySem.W.InitBack (s.heap.objs.size + 1) R)
      { s with heap := (s.heap.push PySem.W.emptyDict).push (PySem.W.instObj C s.heap.objs.size) }) :
    codeAny (model prog w) A (.call (.ref C) ⟨vs, kw⟩) R s := by
  obtain ⟨hh, g, d, t, os⟩ := s
  exact PySem.W.make_core (PySem.W.makes_of X hm) (PySem.W.looks_findIn X hi) (fun self => PySem.W.bind_fn X self hf) (.inl rfl) h
end

/-! ### the attributes as a list of pairs -/
def putF (f : Str) (v : V) : List (Str × V) → List (Str × V)
  | [] => [(f, v)]
  | (g, x) :: r => if g = f then (g, v) :: r else (g, x) :: putF f v r
theorem lookup_putF (f g : Str) (v : V) : ∀ fs : List (Str × V), (putF f v fs).lookup g = if g = f then some v else fs.lookup g
  | [] => by
    show List.lookup g [(f, v)] = _
    by_cases h : g = f
    · have hb : (g == f) = true := beq_iff_eq.mpr h
      simp only [List.lookup, hb, if_pos h]
    · have hb : (g == f) = false := beq_eq_false_iff_ne.mpr h
      simp only [List.lookup, hb, if_neg h]
  | (k, x) :: r => by
    have ih := lookup_putF f g v r
    rw [show putF f v ((k, x) :: r) = (if k = f then (k, v) :: r else (k, x) :: putF f v r) from rfl]
    by_cases hk : k = f
    · rw [if_pos hk]
      by_cases h : g = k
      · have hb : (g == k) = true := beq_iff_eq.mpr h
        simp only [List.lookup, hb, if_pos (h.trans hk)]
      · have hb : (g == k) = false := beq_eq_false_iff_ne.mpr h
        simp only [List.lookup, hb, if_neg (fun e : g = f => h (e.trans hk.symm))]
    · rw [if_neg hk]
      by_cases h : g = k
      · have hb : (g == k) = true := beq_iff_eq.mpr h
        simp only [List.lookup, hb, if_neg (fun e : g = f => hk (h.symm.trans e))]
      · have hb : (g == k) = false := beq_eq_false_iff_ne.mpr h
        simp only [List.lookup, hb]
        exact ih
theorem keys_putF (f : Str) (v : V) : ∀ fs : List (Str × V), f ∈ (putF f v fs).map (·.1) ∧ ∀ g, g ∈ fs.map (·.1) → g ∈ (putF f v fs).map (·.1)
  | [] => ⟨by simp [putF], fun g h => by simp at h⟩
  | (k, x) :: r => by
    obtain ⟨i1, i2⟩ := keys_putF f v r
    rw [show putF f v ((k, x) :: r) = (if k = f then (k, v) :: r else (k, x) :: putF f v r) from rfl]
    by_cases hk : k = f
    · rw [if_pos hk]
      subst hk
      exact ⟨by simp, fun g h => by simpa using h⟩
    · rw [if_neg hk]
      refine ⟨?_, fun g h => ?_⟩
      · rw [List.map_cons]
        exact List.mem_cons_of_mem _ i1
      · rw [List.map_cons] at h ⊢
        rcases List.mem_cons.mp h with e | e
        · exact List.mem_cons.mpr (.inl e)
        · exact List.mem_cons_of_mem _ (i2 g e)
theorem length_putF (f : Str) (v : V) : ∀ fs : List (Str × V), (putF f v fs).length ≤ fs.length + 1
  | [] => by simp [putF]
  | (k, x) :: r => by
    have ih := length_putF f v r
    rw [show putF f v ((k, x) :: r) = (if k = f then (k, v) :: r else (k, x) :: putF f v r) from rfl]
    by_cases hk : k = f
    · rw [if_pos hk, List.length_cons, List.length_cons]; omega
    · rw [if_neg hk, List.length_cons, List.length_cons]; omega

theorem RelO.some_of {v : V} {o : Option Value} (r : RelO (some v) o) : ∃ u, o = some u ∧ RelV v u := by
  cases o with
  | none => exact (show False from r).elim
  | some u => exact ⟨u, rfl, r⟩
theorem RelO.none_of {o : Option Value} (r : RelO none o) : o = none := by
  cases o with
  | none => rfl
  | some u => exact (show False from r).elim
theorem handed_of {v : V} {u : Value} (r : RelV v u) : PySem.W.handedIn u = true := by
  cases v with
  | non => cases (show u = Value.none from r); rfl
  | bl b => cases (show u = Value.bool b from r); rfl
  | int i => obtain ⟨t, e⟩ := (show ∃ t, u = Value.int i t from r); cases e; rfl
  | str x => obtain ⟨t, e⟩ := (show ∃ t, u = Value.str x t from r); cases e; rfl
  | byt b => obtain ⟨t, e⟩ := (show ∃ t, u = Value.bytes b t from r); cases e; rfl
  | flt b => obtain ⟨t, e⟩ := (show ∃ t, u = Value.float b t from r); cases e; rfl
  | ref a => cases (show u = Value.ref a from r); rfl
  | ty n => cases (show u = Value.type n from r); rfl

section
variable {P : Program} {w : World} {H H' : Hp} {h h' : Heap} {a C dx : Addr} {fs fs' : List (Str × V)}
theorem ins_get (hok : HOk P w H h) (e : H a = some (.ins C dx fs)) : ∃ mA, ObjM h a dx C mA ∧ (∀ f, RelO (fs.lookup f) (mA f)) ∧ PySem.Within mA (fs.map (·.1)) ∧ fs.length ≤ 1000 ∧ H dx = some (.own a) := by
  obtain ⟨d, z, ne, ob, mA, n, r, q⟩ := (show ObjOk P w H h a (.ins C dx fs) from hok a _ e)
  exact ⟨mA, ⟨ob, n, ne⟩, r, q, z, d⟩
end

/-! ### what of the text a class must have -/
structure Cls (K : PySem.W.Frag) (C : Addr) : Prop where
  pg : PySem.W.plainGet K C Str.empty = true
  hd : PySem.W.hasDictIn K C = true
  po : PySem.W.plainOver K C = true
  sa : PySem.W.findIn K (.ref C) "__setattr__" = some (some (.builtin "object.__setattr__"))
theorem Cls.get {K : PySem.W.Frag} {C : Addr} (c : Cls K C) (f : Str) : PySem.W.plainGet K C f = true := c.pg
/-- no class of it has the name -/
def NoAttr (K : PySem.W.Frag) (C : Addr) (f : Str) : Prop := PySem.W.findIn K (.ref C) f = some none
theorem NoAttr.taker {K : PySem.W.Frag} {C : Addr} {f : Str} (n : NoAttr K C f) : PySem.W.takerIn K C f = some none := by
  unfold PySem.W.takerIn
  rw [show PySem.W.findIn K (.ref C) f = some none from n]
  rfl
/-- a method: a plain def of the class or of one above it -/
structure Meth (K : PySem.W.Frag) (C : Addr) (m : Str) (f : Addr) : Prop where
  at_ : PySem.W.findIn K (.ref C) m = some (some (.ref f))
  fn : PySem.W.isFn K (.ref f) = true
  kp : PySem.W.keepIn K (.ref f) = true

section
variable {X : Cx} {pins : List (Addr × Obj)} {σ : St} {H : Hp} {s : Shared} {a C dx : Addr} {fs : List (Str × V)} {f : Str} {v : V} {A : Around} {E : Value → Shared → Prop}

theorem getattr_ok {b : Bool} {Q : Value → Shared → Prop} (I : Inv X pins σ H s) (e : H a = some (.ins C dx fs)) (c : Cls X.K C) (n : NoAttr X.K C f) (l : fs.lookup f = some v)
    (h : ∀ u s', Inv X pins σ H s' → RelV v u → Q u s') : wpAny (model X.prog X.w) A (getAttr (.ref a) f b) Q E s := by
  obtain ⟨mA, O, r, _, _, _⟩ := ins_get I.hok e
  obtain ⟨u, hu, ru⟩ := RelO.some_of (v := v) (o := mA f) (by rw [← l]; exact r f)
  exact get_map I.kIn O (c.get f) c.hd n hu (handed_of ru) (h u _ (I.tok _) ru)


theorem getmeth_ok {m : Str} {g : Addr} {pl : Sem Bool} {Q : Value × List Value → Shared → Prop} (I : Inv X pins σ H s) (e : H a = some (.ins C dx fs)) (c : Cls X.K C) (k : Meth X.K C m g) (l : fs.lookup m = none)
    (h : Q (.ref g, [.ref a]) s) : wpAny (model X.prog X.w) A (getMethod (.ref a) m pl) Q E s := by
  obtain ⟨mA, O, r, _, _, _⟩ := ins_get I.hok e
  have hn : mA m = none := RelO.none_of (by rw [← l]; exact r m)
  exact get_meth I.kIn O (c.get m) k.at_ k.fn hn h

theorem setattr_ok {y : V} {u : Value} {Q : Unit → Shared → Prop} (I : Inv X pins σ H s) (e : H a = some (.ins C dx fs)) (c : Cls X.K C) (n : NoAttr X.K C f) (hl : fs.length < 1000) (ry : RelV y u)
    (h : ∀ s', Inv X pins σ (upd H a (.ins C dx (putF f y fs))) s' → Q () s') : wpAny (model X.prog X.w) A (setAttr (.ref a) f u) Q E s := by
  obtain ⟨mA, O, r, wi, _, ho⟩ := ins_get I.hok e
  have hz : (fs.map (·.1)).length ≤ sizeLine := by rw [List.length_map, sizeLine_eq]; omega
  refine set_map I.kIn O c.sa c.po n.taker c.hd wi hz fun h' O' sb => h _ ?_
  have hd : ∃ o, h'.get? dx = some o := let ⟨o, _, _, e', _⟩ := O'.ns; ⟨o, e'⟩
  refine I.write (x := a) (e := dx) (by rw [e]; exact True.intro) (.inr ho) (fun b q hb z => (sb.2 b hb).trans z) hd ?_
  refine ⟨by rw [upd_ne O.ne]; exact ho, ?_, O.ne, O'.obj, _, O'.ns, fun g => ?_, fun g hg => ?_⟩
  · have := length_putF f y fs; omega
  · show RelO ((putF f y fs).lookup g) (if g = f then some u else mA g)
    rw [lookup_putF]
    by_cases q : g = f
    · rw [if_pos q, if_pos q]; exact ry
    · rw [if_neg q, if_neg q]; exact r g
  · by_cases q : g = f
    · rw [q]; exact (keys_putF f y fs).1
    · refine (keys_putF f y fs).2 g (wi g fun z => hg ?_)
      show (if g = f then some u else mA g) = none
      rw [if_neg q]; exact z

/-- a new instance, tracked, without attributes -/
theorem Inv.made (I : Inv X pins σ H s) : Inv X pins σ (upd (upd H s.heap.objs.size (.own (s.heap.objs.size + 1))) (s.heap.objs.size + 1) (.ins C s.heap.objs.size []))
    { s with heap := (s.heap.push PySem.W.emptyDict).push (PySem.W.instObj C s.heap.objs.size) } := by
  have e1 : (s.heap.push PySem.W.emptyDict).get? s.heap.objs.size = some PySem.W.emptyDict := Heap.get?_push_size s.heap rfl
  have e2 : ((s.heap.push PySem.W.emptyDict).push (PySem.W.instObj C s.heap.objs.size)).get? (s.heap.objs.size + 1) = some (PySem.W.instObj C s.heap.objs.size) := by
    have := Heap.get?_push_size (s.heap.push PySem.W.emptyDict) (o := PySem.W.instObj C s.heap.objs.size) rfl
    rwa [Heap.size_push] at this
  have e3 : (s.heap.push PySem.W.emptyDict).Ns s.heap.objs.size (fun _ => none) := ⟨PySem.W.emptyDict, #[], _, e1, rfl, (fun e he => absurd he (by simp)), fun _ => rfl⟩
  have I1 := I.laid (a := s.heap.objs.size) (o := .own (s.heap.objs.size + 1)) (h' := s.heap.push PySem.W.emptyDict) (t' := s.toks) (fun b u q => Heap.get?_push_of_some _ q) (Nat.le_refl _) ⟨_, e1⟩
  refine I1.laid (a := s.heap.objs.size + 1) (o := .ins C s.heap.objs.size []) (t' := s.toks) (fun b u q => Heap.get?_push_of_some _ q) (Nat.le_of_eq (Heap.size_push _ _)) ?_
  have ne : s.heap.objs.size ≠ s.heap.objs.size + 1 := Nat.ne_of_lt (Nat.lt_succ_self _)
  refine ⟨by rw [upd_ne ne, upd_same], Nat.zero_le _, ne, e2, fun _ => none, (Heap.Ns1.of_empty e3).at fun o q => Heap.get?_push_of_some _ q, fun _ => True.intro, fun y hy => absurd rfl hy⟩

/-- e.f where nothing but the object is asked: through attributeBase (super) and the last hold -/
theorem attr_of {prog : Program} {w : World} {env : Env} {e : Expr} {f : Str} {pos : Pos} {s : Shared} {Q : Value → Shared → Prop} (hb : attributeBase e f env (eval e env) = eval e env)
    (h : wpAny (model prog w) A (eval e env) (fun o s₁ => wpAny (model prog w) A (getAttr o f true) Q E s₁) E s) : wpAny (model prog w) A (eval (.Attribute e f pos) env) Q E s :=
  Attribute_any_ h (by rw [arm_eval_Attribute, hb])
end

/-! ### readings and rules -/
/-- e.f, an attribute of the instance -/
def tFld (K : PySem.W.Frag) (ta : TE) (f : Str) : TE := fun σ H Q => ta σ H fun x H1 => ∃ a C dx fs v, x = .ref a ∧ H1 a = some (.ins C dx fs) ∧ Cls K C ∧ NoAttr K C f ∧ fs.lookup f = some v ∧ Q v H1
/-- e.f = value -/
def sFld (K : PySem.W.Frag) (ta tv : TE) (f : Str) : TS := fun D σ H => tv σ H fun y H1 => ta σ H1 fun x H2 => ∃ a C dx fs, x = .ref a ∧ H2 a = some (.ins C dx fs) ∧ Cls K C ∧ NoAttr K C f ∧ fs.length < 1000 ∧
  D.nx σ (upd H2 a (.ins C dx (putF f y fs)))

section
variable {X : Cx} {o e value : Expr} {f : Str} {pos pos' tpos : Pos} {ta tv : TE}
theorem pe_fld (he : PE X e ta) (hb : attributeBase e f X.env (eval e X.env) = eval e X.env) : PE X (.Attribute e f pos) (tFld X.K ta f) := by
  intro pins s σ H Q I h
  refine attr_of hb (thn (he pins s σ H _ I h) fun u s1 ⟨x, H1, I1, rx, a, C, dx, fs, v, ex, ea, c, n, l, q⟩ => ?_)
  subst ex
  obtain rfl : u = Value.ref a := rx
  exact getattr_ok I1 ea c n l fun u' s2 I2 ru => ⟨v, H1, I2, ru, q⟩
theorem ps_fld (ha : PE X o ta) (hv : PE X value tv) (hs : swapsWith value (some (.Attribute o f pos')) pos.line X.env = pure false) : PS X (.Assign [.Attribute o f pos'] value pos) (sFld X.K ta tv f) := by
  intro pins s σ H D I h
  refine plainObj_wpAny_Assign_Attribute (thn (hv pins s σ H _ I h) fun u s1 ⟨y, H1, I1, ry, q⟩ => thn (ha pins s1 σ H1 _ I1 q) fun ov s2 ⟨x, H2, I2, rx, a, C, dx, fs, ex, ea, c, n, l, q2⟩ => ?_) hs
  subst ex
  obtain rfl : ov = Value.ref a := rx
  exact setattr_ok I2 ea c n l ry fun s3 I3 => ⟨σ, _, I3, q2⟩

end

/-! ### isinstance -/
section
variable {X : Cx} {pins : List (Addr × Obj)} {σ : St} {H : Hp} {s : Shared} {A : Around} {E : Value → Shared → Prop} {Q : Value → Shared → Prop} {c : Value} {b : Bool}
end
end L2

namespace L2
open PySem PySem.Spec PyProof.Rows

/-! ### room -/
structure Room (k : Nat) (A : Around) : Prop where
  hd : A.handled = none
  dp : A.depth + 3 * k + 5 < recursionLimit
  un : A.units + 16 * k + 200 < cLine
theorem Room.mono {j k : Nat} {A : Around} (r : Room k A) (h : j ≤ k) : Room j A := ⟨r.hd, by have := r.dp; omega, by have := r.un; omega⟩
theorem Room.deeper {k : Nat} {A : Around} (r : Room (k + 1) A) (env : Env) : Room k (A.deeper env) :=
  ⟨r.hd, by have := r.dp; show A.depth + 1 + 3 * k + 5 < _; omega, by have := r.un; show A.units + 3 + 16 * k + 200 < _; omega⟩
theorem make_depth {A : Around} {C : Addr} {us : List Value} {kw : List (Str × Value)} : (A.under (.builtin "type.__call__" ⟨.ref C :: us, kw⟩)).depth = A.depth + 1 := by
  first | rfl | simp [Around.under, Code.weight, Code.isCreation, Code.isGuard, Code.isCaller, Code.frames, Code.isFrame, guardIds]
theorem make_units {A : Around} {C : Addr} {us : List Value} {kw : List (Str × Value)} : (A.under (.builtin "type.__call__" ⟨.ref C :: us, kw⟩)).units = A.units + 1 := by
  first | rfl | simp [Around.under, Code.cUnits, Code.frames, Code.isFrame]
theorem Room.make {k : Nat} {A : Around} (r : Room (k + 1) A) (C : Addr) (us : List Value) (kw : List (Str × Value)) : Room k (A.under (.builtin "type.__call__" ⟨.ref C :: us, kw⟩)) :=
  ⟨r.hd, by have := r.dp; rw [make_depth]; omega, by have := r.un; rw [make_units]; omega⟩
theorem Room.depth {k : Nat} {A : Around} (r : Room k A) : A.depth < recursionLimit := by have := r.dp; omega
theorem Room.units {k : Nat} {A : Around} (r : Room k A) : A.units + 64 < cLine := by have := r.un; omega

/-! ### argument lists and displays -/
def tNil : TA := fun _ H Q => Q [] H
def tCons (ta : TE) (tr : TA) : TA := fun σ H Q => ta σ H fun x H1 => tr σ H1 fun xs H2 => Q (x :: xs) H2
section
variable {X : Cx} {e : Expr} {es : List Expr} {te : TE} {t : TA} {pos : Pos}
theorem pa_nil : PA X [] tNil := fun _ _ _ _ H Q I h => Calls.spliced_nil ⟨[], H, I, .nil, h⟩
theorem pa_cons (ha : PE X e te) (hr : PA X es t) (hs : starEach (e :: es) X.env = (false, eval e X.env) :: starEach es X.env := by rfl) : PA X (e :: es) (tCons te t) := by
  intro pos pins s σ H Q I h
  rw [hs]
  show wpAny _ _ (spliced ((false, eval e X.env) :: backTo pos (starEach es X.env))) _ _ s
  refine Calls.spliced_cons (thn (ha pins s σ H _ I h) fun u s1 ⟨x, H1, I1, r1, q1⟩ => ?_)
  exact thn (hr pos pins s1 σ H1 _ I1 q1) fun us s2 ⟨xs, H2, I2, r2, q2⟩ => ⟨x :: xs, H2, I2, .cons r1 r2, q2⟩

/-- a tuple, a list of written items -/
def tTup (t : TA) : TE := fun σ H Q => t σ H fun xs H1 => xs.length ≤ sizeLine ∧ ∀ p, H1 p = none → Q (.ref p) (upd H1 p (.tup xs))
def tLst (t : TA) : TE := fun σ H Q => t σ H fun xs H1 => xs.length ≤ sizeLine ∧ ∀ p, H1 p = none → Q (.ref p) (upd H1 p (.lst xs))
theorem pe_tup {x1} (h : PA X es t) : PE X (.Tuple es x1 pos) (tTup t) := by
  intro pins s σ H Q I hq
  refine wpAny_Tuple_spliced (thn (h pos pins s σ H _ I hq) fun us s1 ⟨xs, H1, I1, r, z, q⟩ => ⟨by rw [← r.length]; exact z, ?_⟩)
  have hf : H1 s1.heap.objs.size = none := I1.hok.fresh (Nat.le_refl _)
  refine ⟨.ref s1.heap.objs.size, upd H1 s1.heap.objs.size (.tup xs), I1.laid (t' := s1.toks) (fun b u e => Heap.get?_push_of_some _ e) (Nat.le_refl _) ?_, rfl, q _ hf⟩
  exact ⟨z, us, r, ⟨_, Heap.get?_push_size _ rfl, rfl, _, rfl⟩⟩
theorem pe_lst (h : PA X es t) : PE X (.List es pos) (tLst t) := by
  intro pins s σ H Q I hq
  refine wpAny_List_spliced (thn (h pos pins s σ H _ I hq) fun us s1 ⟨xs, H1, I1, r, z, q⟩ => ⟨by rw [← r.length]; exact z, ?_⟩)
  have hf : H1 s1.heap.objs.size = none := I1.hok.fresh (Nat.le_refl _)
  refine ⟨.ref s1.heap.objs.size, upd H1 s1.heap.objs.size (.lst xs), I1.laid (t' := s1.toks) (fun b u e => Heap.get?_push_of_some _ e) (Nat.le_refl _) ?_, rfl, q _ hf⟩
  exact ⟨z, us, 0, r, Heap.get?_push_size _ rfl⟩
end

/-! ### what a def promises -/
/-- a def's promise: the bound arguments in the parameters' order, the heap, the wanted end, the wanted exception -/
abbrev Sp := List V → Hp → VK → XK → Prop
/-- how an exception lies behind a call (file 08 gives it): the callers' frames, abstract heap and state ahead of the call, the wish, the exception, the state -/
abbrev CXT := List Env → Hp → Shared → XK → Value → Shared → Prop

/-- the state at a call -/
structure Env0 (P : Program) (w : World) (K : PySem.W.Frag) (mg : Str → Option Value) (base : Heap) (A : Around) (outer : List Env) (s : Shared) (H : Hp) : Prop where
  frames : A.frames = some outer
  mod : Mod K mg base
  bs : ∀ b o, base.get? b = some o → s.heap.get? b = some o ∧ H b = none
  bsz : base.objs.size ≤ s.heap.objs.size
  funs : s.heap.FunFrames base outer
  frf : ∀ b ∈ frs outer, H b = none
  hok : HOk P w H s.heap
  bare : AllBare s.gens
/-- a call's end -/
def CE (outer : List Env) (P : Program) (w : World) (H : Hp) (s : Shared) (Q : VK) (u : Value) (s' : Shared) : Prop :=
  ∃ v H', s'.os = s.os ∧ AllBare s'.gens ∧ Un (frs outer) [] H H' s.heap s'.heap ∧ HOk P w H' s'.heap ∧ RelV v u ∧ Q v H'
def CR (CX : CXT) (outer : List Env) (P : Program) (w : World) (H : Hp) (s : Shared) (Q : VK) (E : XK) (r : Result) (s' : Shared) : Prop :=
  match r with
  | .ok (.ret u) => CE outer P w H s Q u s'
  | .ok _ => False
  | .error e => CX outer H s E e s'
structure FnOk (P : Program) (w : World) (K : PySem.W.Frag) (mg : Str → Option Value) (base : Heap) (CX : CXT) (k : Nat) (f : Addr) (fd : FuncData) (ps : List Str) (sp : Sp) : Prop where
  len : ∀ vs H Q E, sp vs H Q E → vs.length = ps.length
  run : ∀ (A : Around) (outer : List Env) (s : Shared) (H : Hp) (args : Args) (us : List Value) (vs : List V) (Q : VK) (E : XK), Room k A → Env0 P w K mg base A outer s H → BindsTo s fd args (ps.zip us) → Vals vs us → sp vs H Q E →
    codeAny (model P w) A (.call (.ref f) args) (CR CX outer P w H s Q E) s

theorem Env0.make {P : Program} {w : World} {K : PySem.W.Frag} {mg : Str → Option Value} {base : Heap} {A : Around} {outer : List Env} {s : Shared} {H : Hp} (e : Env0 P w K mg base A outer s H) (C : Addr) (us : List Value) (kw : List (Str × Value)) :
    Env0 P w K mg base (A.under (.builtin "type.__call__" ⟨.ref C :: us, kw⟩)) outer s H := ⟨by first | exact e.frames | (simpa [Around.under, Code.envs, Code.isFrame, pushEnvs] using e.frames), e.mod, e.bs, e.bsz, e.funs, e.frf, e.hok, e.bare⟩

section
variable {X : Cx} {pins : List (Addr × Obj)} {σ : St} {H : Hp} {s s' : Shared}
/-- from a body: what a callee wants -/
theorem Inv.env0 (I : Inv X pins σ H s) : Env0 X.prog X.w X.K X.mg X.base X.A X.stack s H :=
  ⟨I.ok.frames, I.ok.mod, I.bs, Nat.le_trans I.ok.bsz I.sz, I.stack, I.stkFree, I.hok, I.bare⟩
/-- behind a call -/
theorem Inv.after {Q : VK} {u : Value} (I : Inv X pins σ H s) (h : CE X.stack X.prog X.w H s Q u s') : EP X pins σ Q u s' := by
  obtain ⟨v, H', os, bare, un, hok, r, q⟩ := h
  obtain ⟨hh, g, d, t, os'⟩ := s'
  obtain rfl : os' = s.os := os
  exact ⟨v, H', I.call (h' := hh) (g' := g) (d' := d) (t' := t) (ch := []) un hok bare (fun b z => absurd z (by simp)), r, q⟩
end

/-! ### calls -/
/-- f(..): the written arguments, then the defaults dvs; E: what is wanted of an exception -/
def tCall (sp : Sp) (dvs : List V) (E : XK) (t : TA) : TE := fun σ H Q => t σ H fun vs H1 => sp (vs ++ dvs) H1 Q E
/-- o.m(..) of an instance of the class at C -/
def tMeth (C : Addr) (m : Str) (sp : Sp) (dvs : List V) (E : XK) (ta : TE) (t : TA) : TE := fun σ H Q => ta σ H fun x H1 => ∃ a dx fs, x = .ref a ∧ H1 a = some (.ins C dx fs) ∧ fs.lookup m = none ∧
  t σ H1 fun vs H2 => sp (x :: (vs ++ dvs)) H2 Q E
/-- C(..): a new instance and its dict, then __init__ -/
def tMake (C : Addr) (sp : Sp) (dvs : List V) (E : XK) (t : TA) : TE := fun σ H Q => t σ H fun vs H1 => ∀ x dx, H1 x = none → H1 dx = none → dx ≠ x →
  sp (.ref x :: (vs ++ dvs)) (upd (upd H1 dx (.own x)) x (.ins C dx [])) (fun v H2 => v = .non ∧ Q (.ref x) H2) E

/-- how the parameters are bound: us the positional arguments, kw the keywords' values by name, ds the defaults that fill up -/
def Binds (K : PySem.W.Frag) (fd : FuncData) (ps : List Str) (ds : List Value) : Prop :=
  ∀ (s : Shared) (us : List Value), K.In s.heap → (us ++ ds).length = ps.length → BindsTo s fd ⟨us, []⟩ (ps.zip (us ++ ds))
/-- every parameter is given -/
theorem Binds.all {K : PySem.W.Frag} {fd : FuncData} {ps : List Str} (h : ∀ us : List Value, us.length = ps.length → bindArgs fd ⟨us, []⟩ = pure (ps.zip us)) : Binds K fd ps [] := fun s us _ hl => by
  rw [List.append_nil] at hl ⊢
  exact .of_eq (h us hl)

/-- an exception of a callee reaches what this body wants of exceptions -/
def Passes (CX : CXT) (X : Cx) (E : XK) : Prop := ∀ (pins : List (Addr × Obj)) (σ : St) (H : Hp) (s : Shared) (e : Value) (s' : Shared), Inv X pins σ H s → CX X.stack H s E e s' → X.xe e s'

section
variable {X : Cx} {CX : CXT} {k : Nat} {f C : Addr} {fd : FuncData} {ps : List Str} {sp : Sp} {dvs : List V} {ds : List Value} {E : XK} {x m : Str} {p pos apos : Pos} {e o : Expr} {es : List Expr} {ta : TE} {t : TA}

/-- the callee runs -/
theorem run_fn {pins : List (Addr × Obj)} {σ : St} {H : Hp} {s : Shared} {Q : VK} {us : List Value} {vs : List V} (F : FnOk X.prog X.w X.K X.mg X.base CX k f fd ps sp) (hr : Room k X.A) (hb : Binds X.K fd ps ds) (hd : Vals dvs ds) (hx : Passes CX X E)
    (I : Inv X pins σ H s) (r : Vals vs us) (h : sp (vs ++ dvs) H Q E) : wpAny (model X.prog X.w) X.A (call (.ref f) us) (EP X pins σ Q) X.xe s := by
  have r2 : Vals (vs ++ dvs) (us ++ ds) := r.append hd
  have hl : (us ++ ds).length = ps.length := by rw [← r2.length]; exact F.len _ _ _ _ h
  refine wpAny_call (codeAny_mono (F.run X.A X.stack s H ⟨us, []⟩ (us ++ ds) (vs ++ dvs) Q E hr I.env0 (hb s us I.kIn hl) r2 h) fun r s' hq => ?_)
  cases r with
  | error e => exact hx pins σ H s e s' I hq
  | ok fl =>
    cases fl with
    | ret u => exact I.after hq
    | next => exact False.elim hq
    | brk => exact False.elim hq
    | cont => exact False.elim hq

theorem pe_call (F : FnOk X.prog X.w X.K X.mg X.base CX k f fd ps sp) (hr : Room k X.A) (hg : Gl X x) (hm : X.mg x = some (.ref f)) (hk : PySem.W.keepIn X.K (.ref f) = true) (hb : Binds X.K fd ps ds) (hd : Vals dvs ds) (hx : Passes CX X E)
    (ha : PA X (e :: es) t) (hdb : (x == ("__debug__" : Str)) = false := by decide) (he : starEach (e :: es) X.env = (false, eval e X.env) :: starEach es X.env := by rfl) (hpl : (backTo pos (starEach es X.env)).any (·.1) = false := by rfl) :
    PE X (.Call (.Name x p) (e :: es) [] pos) (tCall sp dvs E t) := by
  intro pins s σ H Q I h
  refine wpAny_Call_Name_kw (ld_glob I hg hm ?_ hdb)
  refine PySem.W.callWith_K (h₀ := X.base) I.ok.mod.kin hk (thn (ha pos pins s σ H _ I h) fun us s1 ⟨vs, H1, I1, r, q⟩ => ⟨I1.kIn, ?_⟩) he hpl
  exact run_fn F hr hb hd hx I1 r q
theorem pe_call0 (F : FnOk X.prog X.w X.K X.mg X.base CX k f fd ps sp) (hr : Room k X.A) (hg : Gl X x) (hm : X.mg x = some (.ref f)) (hk : PySem.W.keepIn X.K (.ref f) = true) (hb : Binds X.K fd ps ds) (hd : Vals dvs ds) (hx : Passes CX X E)
    (hdb : (x == ("__debug__" : Str)) = false := by decide) : PE X (.Call (.Name x p) [] [] pos) (tCall sp dvs E tNil) := by
  intro pins s σ H Q I h
  refine wpAny_Call_Name_kw (ld_glob I hg hm ?_ hdb)
  exact PySem.W.callWith_K0 I.kIn hk (run_fn (us := []) F hr hb hd hx I .nil h)

/-- o.m(e, ..) -/
theorem pe_meth {pl : Sem Bool} (he : PE X o ta) (c : Cls X.K C) (hm : Meth X.K C m f) (F : FnOk X.prog X.w X.K X.mg X.base CX k f fd ps sp) (hr : Room k X.A) (hb : Binds X.K fd ps ds) (hd : Vals dvs ds) (hx : Passes CX X E) (ha : PA X (e :: es) t)
    (hst : starEach (e :: es) X.env = (false, eval e X.env) :: starEach es X.env := by rfl) (hpl : (backTo pos (starEach es X.env)).any (·.1) = false := by rfl)
    (ht : eval (.Call (.Attribute o m apos) (e :: es) [] pos) X.env = (do
      let ov ← eval o X.env
      standAt apos.atName
      let (f, first) ← holding [ov] (getMethod ov m pl)
      callWith pos f first (backTo pos (starEach (e :: es) X.env)) (backToKw pos (keywordEach [] X.env))) := by rfl) :
    PE X (.Call (.Attribute o m apos) (e :: es) [] pos) (tMeth C m sp dvs E ta t) := by
  intro pins s σ H Q I h
  refine PySem.W.methodCall_KW (pl := pl) (thn (he pins s σ H _ I h) fun u s1 ⟨x, H1, I1, rx, a, dx, fs, ex, ea, l, q⟩ => ?_) ht
  subst ex
  obtain rfl : u = Value.ref a := rx
  refine getmeth_ok I1 ea c hm l ?_
  refine PySem.W.callWith_K (first := [.ref a]) (h₀ := X.base) I.ok.mod.kin hm.kp (thn (ha pos pins s1 σ H1 _ I1 q) fun us s2 ⟨vs, H2, I2, r, q2⟩ => ⟨I2.kIn, ?_⟩) hst hpl
  exact run_fn (us := .ref a :: us) (vs := .ref a :: vs) F hr hb hd hx I2 (.cons rfl r) q2

/-- what a class must have to be made -/
structure Mk (K : PySem.W.Frag) (C f : Addr) : Prop where
  makes : PySem.W.makesIn K C = true
  init : PySem.W.findIn K (.ref C) "__init__" = some (some (.ref f))
  fn : PySem.W.isFn K (.ref f) = true
  kp : PySem.W.keepIn K (.ref C) = true

theorem run_make {pins : List (Addr × Obj)} {σ : St} {H : Hp} {s : Shared} {Q : VK} {us : List Value} {vs : List V} (M : Mk X.K C f) (F : FnOk X.prog X.w X.K X.mg X.base CX k f fd ps sp) (hr : Room (k + 1) X.A) (hb : Binds X.K fd ps ds) (hd : Vals dvs ds)
    (hx : Passes CX X E) (I : Inv X pins σ H s) (r : Vals vs us)
    (h : ∀ x dx, H x = none → H dx = none → dx ≠ x → sp (.ref x :: (vs ++ dvs)) (upd (upd H dx (.own x)) x (.ins C dx [])) (fun v H2 => v = .non ∧ Q (.ref x) H2) E) :
    wpAny (model X.prog X.w) X.A (call (.ref C) us) (EP X pins σ Q) X.xe s := by
  have hq := h (s.heap.objs.size + 1) s.heap.objs.size (I.hok.fresh (Nat.le_succ _)) (I.hok.fresh (Nat.le_refl _)) (Nat.ne_of_lt (Nat.lt_succ_self _))
  have I2 := Inv.made (C := C) I
  have r2 : Vals (V.ref (s.heap.objs.size + 1) :: (vs ++ dvs)) (Value.ref (s.heap.objs.size + 1) :: (us ++ ds)) := .cons rfl (r.append hd)
  have hl : (Value.ref (s.heap.objs.size + 1) :: us ++ ds).length = ps.length := by
    have e := r2.length
    rw [F.len _ _ _ _ hq] at e
    exact e.symm
  refine wpAny_call (make_map (f := f) I.kIn M.makes M.init (beq_iff_eq.mp M.fn) (codeAny_mono (F.run _ X.stack _ _ ⟨Value.ref (s.heap.objs.size + 1) :: us, []⟩ (Value.ref (s.heap.objs.size + 1) :: (us ++ ds)) _ _ E (hr.make C us [])
    (I2.env0.make C us []) (hb _ (Value.ref (s.heap.objs.size + 1) :: us) I2.kIn hl) r2 hq) fun r s' hq' => ?_))
  cases r with
  | error e => exact hx pins σ _ _ e s' I2 hq'
  | ok fl =>
    cases fl with
    | ret u =>
      obtain ⟨v, H', I3, rv, ev, q3⟩ := I2.after hq'
      subst ev
      exact ⟨rv, ⟨V.ref (s.heap.objs.size + 1), H', I3, rfl, q3⟩⟩
    | next => exact False.elim hq'
    | brk => exact False.elim hq'
    | cont => exact False.elim hq'
theorem pe_make0 (M : Mk X.K C f) (F : FnOk X.prog X.w X.K X.mg X.base CX k f fd ps sp) (hr : Room (k + 1) X.A) (hg : Gl X x) (hm : X.mg x = some (.ref C)) (hb : Binds X.K fd ps ds) (hd : Vals dvs ds) (hx : Passes CX X E)
    (hdb : (x == ("__debug__" : Str)) = false := by decide) : PE X (.Call (.Name x p) [] [] pos) (tMake C sp dvs E tNil) := by
  intro pins s σ H Q I h
  refine wpAny_Call_Name_kw (ld_glob I hg hm ?_ hdb)
  exact PySem.W.callWith_K0 I.kIn M.kp (run_make (us := []) M F hr hb hd hx I .nil h)
end

/-! ### keywords -/
section
variable {X : Cx} {CX : CXT} {k : Nat} {f C : Addr} {fd : FuncData} {ps ks : List Str} {sp : Sp} {E : XK} {x m : Str} {p pos apos kpos : Pos} {e o : Expr} {es : List Expr} {kws : List Keyword} {te ta : TE} {t tk : TA} {nm : Option Str}

variable {g : List Value → List Value → List Value} {gV : List V → List V → List V}
end

/-! ### a def's body keeps its promise -/
/-- names: the parameters first -/
structure FnScope (N P : List Str) (sc : Scope) : Prop where
  kind : sc.kind = .function
  co : sc.isCoroutine = false
  gen : sc.isGenerator = false
  nd : N.Nodup
  pre : N.take P.length = P
  par : ∀ x ∈ P, sc.names.lookup x = some .local ∨ sc.names.lookup x = some .cell
  nofree : ∀ y ∈ sc.names, y.2 ≠ .free

theorem bindL_out {kindOf : Str → Option NameKind} {x : Str} : ∀ {binds : List (Str × Value)} {m : Str → Option Value}, (∀ v, (x, v) ∉ binds) → bindL kindOf binds m x = m x
  | [], _, _ => rfl
  | (n, v) :: r, m, h => by
    unfold bindL
    rw [bindL_out fun w hw => h w (List.mem_cons_of_mem _ hw)]
    split
    · have : x ≠ n := by rintro rfl; exact h v List.mem_cons_self
      simp [this]
    · rfl
theorem bindC_out {kindOf : Str → Option NameKind} {x : Str} : ∀ {binds : List (Str × Value)} {m : Str → Option Value}, (∀ v, (x, v) ∉ binds) → bindC kindOf binds m x = m x
  | [], _, _ => rfl
  | (n, v) :: r, m, h => by
    unfold bindC
    rw [bindC_out fun w hw => h w (List.mem_cons_of_mem _ hw)]
    split
    · rfl
    · have : x ≠ n := by rintro rfl; exact h v List.mem_cons_self
      simp [this]
theorem bindL_get {kindOf : Str → Option NameKind} {x : Str} {v : Value} : ∀ {P : List Str} {vs : List Value} {i : Nat} {m : Str → Option Value}, P.Nodup → P[i]? = some x → vs[i]? = some v → kindOf x = some .local →
    bindL kindOf (P.zip vs) m x = some v
  | [], _, _, _, _, h, _, _ => by simp at h
  | _ :: _, [], _, _, _, _, h, _ => by simp at h
  | p :: P, w :: vs, 0, m, nd, h1, h2, hk => by
    simp at h1 h2; subst h1; subst h2
    show bindL kindOf ((p, w) :: P.zip vs) m p = _
    unfold bindL
    rw [bindL_out fun v hv => (List.nodup_cons.mp nd).1 (List.of_mem_zip hv).1, if_pos hk]
    simp
  | p :: P, w :: vs, i + 1, m, nd, h1, h2, hk => by
    show bindL kindOf ((p, w) :: P.zip vs) m x = _
    unfold bindL
    exact bindL_get (i := i) (List.nodup_cons.mp nd).2 (by simpa using h1) (by simpa using h2) hk
theorem bindC_get {kindOf : Str → Option NameKind} {x : Str} {v : Value} : ∀ {P : List Str} {vs : List Value} {i : Nat} {m : Str → Option Value}, P.Nodup → P[i]? = some x → vs[i]? = some v → kindOf x ≠ some .local →
    bindC kindOf (P.zip vs) m x = some v
  | [], _, _, _, _, h, _, _ => by simp at h
  | _ :: _, [], _, _, _, _, h, _ => by simp at h
  | p :: P, w :: vs, 0, m, nd, h1, h2, hk => by
    simp at h1 h2; subst h1; subst h2
    show bindC kindOf ((p, w) :: P.zip vs) m p = _
    unfold bindC
    rw [bindC_out fun v hv => (List.nodup_cons.mp nd).1 (List.of_mem_zip hv).1, if_neg hk]
    simp
  | p :: P, w :: vs, i + 1, m, nd, h1, h2, hk => by
    show bindC kindOf ((p, w) :: P.zip vs) m x = _
    unfold bindC
    exact bindC_get (i := i) (List.nodup_cons.mp nd).2 (by simpa using h1) (by simpa using h2) hk

/-- the names' values at the entry -/
def start (N : List Str) (vs : List V) : St := vs.map some ++ List.replicate (N.length - vs.length) none

/-- the context of a def's body, at its entry; an exception leaves the frame, then lies as CX says -/
def cxOf (CX : CXT) (P : Program) (w : World) (K : PySem.W.Frag) (mg : Str → Option Value) (base : Heap) (N : List Str) (qual : Str) (scope : Scope) (f : Addr) (cd : Value) (A : Around) (outer : List Env) (s : Shared) (H : Hp) (E : XK) : Cx where
  prog := P
  w := w
  K := K
  mg := mg
  base := base
  A := A.deeper (envOfC qual scope s.heap.objs.size f cd)
  N := N
  s_0 := s
  H_0 := H
  env := envOfC qual scope s.heap.objs.size f cd
  outer := outer
  stack := envOfC qual scope s.heap.objs.size f cd :: outer
  ex := []
  calm := true
  fn := fun _ => true
  pn := []
  xe := fun e s' => wpAny (model P w) (A.deeper (envOfC qual scope s.heap.objs.size f cd)) (leaving (envOfC qual scope s.heap.objs.size f cd) e) (fun _ s'' => CX outer H s E e s'') (fun e' s'' => CX outer H s E e' s'') s'

theorem cell_has {sc : Scope} {n : Nat} {x : Str} (h : sc.names.lookup x = some .cell) : ∃ c, (cellsFrom n sc.names []).lookup x = some c := by
  have q := PySem.W.cellsFrom_some sc.names n [] (.inl h)
  exact Option.isSome_iff_exists.mp q

theorem inv_start {CX : CXT} {P : Program} {w : World} {K : PySem.W.Frag} {mg : Str → Option Value} {base : Heap} {N ps : List Str} {qual : Str} {scope : Scope} {f : Addr} {cd : Value} {A : Around} {outer : List Env} {s s1 : Shared} {H : Hp} {E : XK} {us : List Value} {vs : List V}
    (S : FnScope N ps scope) (hd : A.handled = none) (e0 : Env0 P w K mg base A outer s H) (hl : vs.length = ps.length) (r : Vals vs us)
    (x : InCallC s s.heap.objs.size (bindL (envOfC qual scope s.heap.objs.size f cd).kindOf (ps.zip us) fun _ => none) (cellsFrom (s.heap.objs.size + 1) scope.names []) (bindC (envOfC qual scope s.heap.objs.size f cd).kindOf (ps.zip us) fun _ => none) s1) :
    Inv (cxOf CX P w K mg base N qual scope f cd A outer s H E) [] (start N vs) H s1 := by
  have hpl : ps.length ≤ N.length := by have := congrArg List.length S.pre; rw [List.length_take] at this; omega
  obtain ⟨h1, tk, rfl, hk⟩ := x.done
  have noA : ∀ b : Addr, b ∉ (cxOf CX P w K mg base N qual scope f cd A outer s H E).ex := fun b z => absurd (show b ∈ ([] : List Addr) from z) (by simp)
  refine ⟨⟨e0.mod, S.kind, rfl, rfl, Nat.le_refl _, fun y z c h1 h2 => ?_, fun y hy => ?_, fun y c _ h => ?_, fun _ => hd, Around.frames_deeper e0.frames, .inr ⟨rfl, rfl⟩, fun b z => absurd z (noA b), e0.bs, e0.bsz, fun b _ _ => noA b, fun b z => absurd z (noA b), e0.funs, e0.frf⟩,
    rfl, e0.bare, Un.kept hk, ⟨_, x.toInCall.ns, fun i y v h1 h2 h3 => ?_⟩, fun y c h => ⟨_, x.cell y c h⟩, e0.hok.fresh (Nat.le_refl _), fun y c h => ?_, fun p hp => absurd (show p ∈ ([] : List (Addr × Obj)) from hp) (by simp), e0.hok.kept hk, ?_⟩
  · exact name_of_addr x.apart (PySem.mem_of_lookup h1) (PySem.mem_of_lookup h2)
  · have hy : scope.names.lookup y = some .cell ∨ scope.names.lookup y = some .free := hy
    rcases hy with hy | hy
    · exact cell_has hy
    · exact absurd rfl (S.nofree _ (PySem.mem_of_lookup hy))
  · exact Nat.le_of_lt (x.above y c (PySem.mem_of_lookup h))
  · have hi : i < vs.length := by
      unfold start at h2
      by_cases hi : i < vs.length
      · exact hi
      · rw [List.getElem?_append_right (by simpa using hi)] at h2
        rw [List.getElem?_replicate] at h2
        split at h2 <;> cases h2
    have ha : vs[i]? = some v := by
      unfold start at h2
      rw [List.getElem?_append_left (by simpa using hi), List.getElem?_map] at h2
      cases e : vs[i]? with
      | none => rw [e] at h2; cases h2
      | some a => rw [e] at h2; cases h2; rfl
    obtain ⟨u, hu, rv⟩ := r.get ha
    have hp : ps[i]? = some y := by
      rw [← S.pre, List.getElem?_take_of_lt (by omega)]; exact h1
    have ndP : ps.Nodup := by rw [← S.pre]; exact S.nd.sublist (List.take_sublist _ _)
    refine ⟨u, rv, ?_⟩
    rcases S.par y (List.mem_of_getElem? hp) with k | k
    · exact .inl ⟨k, bindL_get ndP hp hu k⟩
    · obtain ⟨c, e⟩ := cell_has (n := s.heap.objs.size + 1) k
      refine .inr ⟨.inl k, c, e, ?_⟩
      have q := x.cell y c e
      rw [bindC_get ndP hp hu (by show scope.names.lookup y ≠ _; rw [k]; decide)] at q
      exact q
  · exact e0.hok.fresh (Nat.le_of_lt (x.above y c (PySem.mem_of_lookup h)))
  · unfold start
    show _ = N.length
    rw [List.length_append, List.length_map, List.length_replicate]
    omega

/-- THE RULE: a def (or a method) of the text, by its body. The body's reading t is chosen for each entry; it is run at the parameters' values -/
theorem fn_of {CX : CXT} {P : Program} {w : World} {K : PySem.W.Frag} {mg : Str → Option Value} {base : Heap} {k : Nat} {f : Addr} {name qual : Str} {params : Arguments} {body : List Stmt} {scope : Scope} {dV kV doc pm cdv ct oc : Value} {an od : Option Addr}
    {osl : Array (Option Value)} {N ps : List Str} {sp : Sp} (lk : K.lookup f = some ⟨oc, od, .func (PySem.W.fnOf name qual params body scope dV kV doc pm an cdv ct), osl⟩) (hcd : PySem.W.codeIn K cdv qual = true) (S : FnScope N ps scope)
    (len : ∀ vs H Q E, sp vs H Q E → vs.length = ps.length)
    (hbody : ∀ (A : Around) (outer : List Env) (s : Shared) (H : Hp) (vs : List V) (Q : VK) (E : XK), Room k (A.deeper (envOfC qual scope s.heap.objs.size f cdv)) → sp vs H Q E →
      ∃ t, PSs (cxOf CX P w K mg base N qual scope f cdv A outer s H E) body t ∧ t { nx := fun _ H' => Q .non H', rt := Q } (start N vs) H) :
    FnOk P w K mg base CX (k + 1) f (PySem.W.fnOf name qual params body scope dV kV doc pm an cdv ct) ps sp := by
  refine ⟨len, fun A outer s H args us vs Q E hr e0 hb r hsp => ?_⟩
  have hl := len _ _ _ _ hsp
  have KX : K.In s.heap := e0.mod.kin.keeps fun b o e => (e0.bs b o e).1
  have lim : s.heap.NoLimit := e0.mod.nolimit.keeps fun b o e => (e0.bs b o e).1
  have hkind : ∀ y ∈ ps.zip us, scope.names.lookup y.1 = some .local ∨ (scope.names.lookup y.1 = some .cell ∧ ((cellsFrom (s.heap.objs.size + 1) scope.names []).lookup y.1).isSome = true) := fun ⟨n, v⟩ hy => by
    rcases S.par n (List.of_mem_zip hy).1 with q | q
    · exact .inl q
    · exact .inr ⟨q, PySem.W.cellsFrom_some _ _ _ (.inl q)⟩
  refine codeAny_call_function hr.depth (KX _ _ lk) rfl S.co S.gen rfl (PySem.W.codeRec_of KX hcd) (hb _ _ _ _ ?_)
  refine wpAny_newFunctionEnv_cells S.kind hkind fun env he s1 x => ?_
  subst he
  refine ⟨lim.keeps x.toInCall.keep, codeAny_func ?_⟩
  obtain ⟨t, ht, hq⟩ := hbody A outer s H vs Q E (hr.deeper _) hsp
  have I : Inv (cxOf CX P w K mg base N qual scope f cdv A outer s H E) [] (start N vs) H s1 := inv_start S hr.hd e0 hl r x
  refine wpAny_mono (ht [] s1 (start N vs) H _ I hq) (fun fl s' hs => ?_) fun e s' hs => hs
  have fin : ∀ {σ' : St} {H' : Hp} {v : V} {u : Value}, Inv (cxOf CX P w K mg base N qual scope f cdv A outer s H E) [] σ' H' s' → RelV v u → Q v H' → CE outer P w H s Q u s' :=
    fun {σ' H' v u} J rv q => ⟨v, H', J.os, J.bare, J.base, J.hok, rv, q⟩
  cases fl with
  | ret u =>
    obtain ⟨v, σ', H', J, rv, q⟩ := hs
    exact fin J rv q
  | next =>
    obtain ⟨σ', H', J, q⟩ := hs
    exact fin (v := V.non) (u := Value.none) J rfl q
  | brk =>
    obtain ⟨_, _, _, q⟩ := hs
    exact False.elim q
  | cont =>
    obtain ⟨_, _, _, q⟩ := hs
    exact False.elim q
end L2

namespace L2
open PySem PySem.Spec PyProof.Rows
section
variable {X : Cx} {x : Str} {p pos : Pos} {e : Expr} {es : List Expr} {t : TA} {id T : String} {r : List V → Hp → VK → Prop}

def tCB (r : List V → Hp → VK → Prop) (t : TA) : TE := fun σ H Q => t σ H fun vs H1 => r vs H1 Q
/-- f(e, ..), f a built-in function -/
theorem pe_callB (hc : CallR X (.builtin id) r) (hg : Gl X x) (hm : X.mg x = none) (hv : bootBuiltins x = some (.builtin id)) (ha : PA X (e :: es) t) (hn : x ≠ "__name__" := by decide) (hdb : (x == ("__debug__" : Str)) = false := by decide)
    (he : starEach (e :: es) X.env = (false, eval e X.env) :: starEach es X.env := by rfl) (hpl : (backTo pos (starEach es X.env)).any (·.1) = false := by rfl) : PE X (.Call (.Name x p) (e :: es) [] pos) (tCB r t) := by
  intro pins s σ H Q I h
  refine wpAny_Call_Name_kw (ld_blt I hg hm hv ?_ hn hdb)
  exact PyProof.Rows.callWith_builtin1 (thn (ha pos pins s σ H _ I h) fun us s1 ⟨vs, H1, I1, r1, q1⟩ => hc pins s1 σ H1 vs us Q I1 r1 q1) he hpl
/-- T(e, ..), T a built-in type -/
theorem pe_callTy (hc : CallR X (.type T) r) (hg : Gl X x) (hm : X.mg x = none) (hv : bootBuiltins x = some (.type T)) (ha : PA X (e :: es) t) (hn : x ≠ "__name__" := by decide) (hdb : (x == ("__debug__" : Str)) = false := by decide)
    (he : starEach (e :: es) X.env = (false, eval e X.env) :: starEach es X.env := by rfl) (hpl : (backTo pos (starEach es X.env)).any (·.1) = false := by rfl) : PE X (.Call (.Name x p) (e :: es) [] pos) (tCB r t) := by
  intro pins s σ H Q I h
  refine wpAny_Call_Name_kw (ld_blt I hg hm hv ?_ hn hdb)
  exact PyProof.Rows.callWith_type1 (thn (ha pos pins s σ H _ I h) fun us s1 ⟨vs, H1, I1, r1, q1⟩ => hc pins s1 σ H1 vs us Q I1 r1 q1) he hpl
end
end L2

namespace HT
open PySem PyProof.Rows

/-- t < u of tuples of ints -/
def lexLt : List Int → List Int → Bool
  | [], [] => false
  | [], _ :: _ => true
  | _ :: _, [] => false
  | x :: xs, y :: ys => if x = y then lexLt xs ys else decide (x < y)
theorem lexLt_cons (x y : Int) (xs ys : List Int) : lexLt (x :: xs) (y :: ys) = if x = y then lexLt xs ys else decide (x < y) := rfl

theorem rcLt_int (A : Around) (s : Shared) (a : Int) (t : Tok) (c : Int) (u : Tok) (prog : Program) (w : World) (E : Value → Shared → Prop) (Q : Value → Shared → Prop) (h : Q (.bool (decide (a < c))) s) :
    wpAny (model prog w) A (richCompare .Lt (.int a t) (.int c u)) Q E s :=
  (PyProof.Rows.lt_int h : wpAny (model prog w) A (compareOp .Lt (.int a t) (.int c u)) Q E s)

section
open PySem.SeqAt
open PySem.AutoSeq1 (wpAny_loadPart')
open PySem.MeetsSeq PySem.MeetsSeq2 PySem.MeetsSeq3

end

section
variable {prog : Program} {w : World} {A : Around} {E : Value → Shared → Prop} {s : Shared}


/-- t + u, t not empty -/
theorem cat_tup {t b : Addr} {vs ws : List Value} {Q : Value → Shared → Prop} (ht : IsTup s.heap t vs.toArray) (hb : IsTup s.heap b ws.toArray) (hv : vs ≠ [])
    (h1 : ws = [] → Q (.ref t) s) (h2 : ws ≠ [] → Q (.ref s.heap.objs.size) { s with heap := s.heap.push { cls := .type "tuple", data := .seq (vs ++ ws).toArray } })
    (hsz : vs.length + ws.length ≤ sizeLine) : wpAny (model prog w) A (binaryOp .Add (.ref t) (.ref b)) Q E s := by
  obtain ⟨⟨cls, dd, data, sl⟩, ho, hc, n, hd⟩ := id ht
  obtain ⟨⟨cls2, dd2, data2, sl2⟩, ho2, hc2, n2, hd2⟩ := id hb
  simp only at hc hd hc2 hd2
  subst hc hd hc2 hd2
  have e : vs.toArray ++ ws.toArray = (vs ++ ws).toArray := by simp
  by_cases hw : ws = []
  · exact concat_meets ⟨_, ho, rfl⟩ ⟨_, ho2, rfl⟩ noFill_tuple_add seq_tuple_add PySem.F.slot_tuple_add PySem.F.entry_tuple_add (PySem.F.args_tuple_add_2 _ _)
      (tuple_addW1 t b vs.toArray ws.toArray n n2 dd dd2 sl sl2 (by simpa using hv) (by simp [hw])) ⟨ho, ho2, h1 hw⟩
  · refine concat_meets ⟨_, ho, rfl⟩ ⟨_, ho2, rfl⟩ noFill_tuple_add seq_tuple_add PySem.F.slot_tuple_add PySem.F.entry_tuple_add (PySem.F.args_tuple_add_2 _ _)
      (tuple_addW2 t b vs.toArray ws.toArray n n2 dd dd2 sl sl2 (by simpa using hv) (by simpa using hw) (by rw [List.size_toArray, List.size_toArray]; exact hsz)) ⟨ho, ho2, ?_⟩
    rw [e]
    exact h2 hw

/-! ### t[a:b], not the whole -/
/-- a slice's bound as a place among n (d where it is left out) -/
def sIx (n d : Nat) : Option Int → Nat
  | none => d
  | some v => if v < 0 then (v + (n : Int)).toNat else min v.toNat n
theorem sIx_none (n d : Nat) : sIx n d none = d := rfl
theorem sIx_nat (n d k : Nat) : sIx n d (some (k : Int)) = min k n := by
  show (if (k : Int) < 0 then ((k : Int) + (n : Int)).toNat else min (k : Int).toNat n) = min k n
  rw [if_neg (by omega), Int.toNat_natCast]

end
end HT

namespace L2
open PySem PySem.Spec PyProof.Rows

/-! ### the parts of a slice -/
abbrev TO := St → Hp → (Option Int → Hp → Prop) → Prop
/-- a slice's part (left out, or an int) -/
def PO (X : Cx) (e : Option Expr) (t : TO) : Prop :=
  ∀ (pins : List (Addr × Obj)) (s : Shared) (σ : St) (H : Hp) (Q : Option Int → Hp → Prop), Inv X pins σ H s → t σ H Q →
    wpAny (model X.prog X.w) X.A (evalPart e X.env) (fun u s' => ∃ o H', Inv X pins σ H' s' ∧ IsPart u o ∧ Q o H') X.xe s
def tNoPart : TO := fun _ H Q => Q none H
def tPart (t : TE) : TO := fun σ H Q => t σ H fun x H1 => ∃ i, x = .int i ∧ Q (some i) H1


section
variable {X : Cx} {e : Expr} {te : TE} {lo hi : Option Expr} {tl th : TO} {pos p2 : Pos}

theorem po_none : PO X none tNoPart := by
  intro pins s σ H Q I h
  rw [evalPart_none]
  exact wpAny_pure ⟨none, H, I, .none, h⟩
theorem po_some (h : PE X e te) : PO X (some e) (tPart te) := by
  intro pins s σ H Q I hw
  rw [evalPart_some]
  refine thn (h pins s σ H _ I hw) fun u s1 ⟨x, H1, I1, r1, q1⟩ => ?_
  obtain ⟨i, rfl, q⟩ := q1
  obtain ⟨t, rfl⟩ := r1
  exact ⟨some i, H1, I1, .int i t, q⟩

/-- what a slice of a value is, by values: the slice object stands at sl -/
def SlR (X : Cx) (r : V → Option Int → Option Int → Hp → VK → Prop) : Prop :=
  ∀ (pins : List (Addr × Obj)) (s : Shared) (σ : St) (H : Hp) (x : V) (v vl vu : Value) (lo hi : Option Int) (sl : Addr) (Q : VK), Inv X pins σ H s → RelV x v → s.heap.IsSliceOf sl vl vu .none → IsPart vl lo → IsPart vu hi → r x lo hi H Q →
    ∃ T id, typeLookup (.type T) "__getitem__" = pure (some (.builtin id)) ∧ s.TypeIs v T ∧ wpAny (model X.prog X.w) X.A (getItem v (.ref sl)) (EP X pins σ Q) X.xe s
def tSl (r : V → Option Int → Option Int → Hp → VK → Prop) (te : TE) (tl th : TO) : TE := fun σ H Q => te σ H fun x H1 => tl σ H1 fun l H2 => th σ H2 fun u H3 => r x l u H3 Q
/-- a[lo:hi], any a -/
theorem pe_slice {r : V → Option Int → Option Int → Hp → VK → Prop} (hr : SlR X r) (he : PE X e te) (hl : PO X lo tl) (hu : PO X hi th) : PE X (.Subscript e (.Slice lo hi none p2) pos) (tSl r te tl th) := by
  intro pins s σ H Q I h
  refine Subscript_ (thn (he pins s σ H _ I h) fun v s1 ⟨x, H1, I1, r1, q1⟩ => ?_)
  refine wpAny_Slice (thn (hl pins s1 σ H1 _ I1 q1) fun vl s2 ⟨l, H2, I2, pl, q2⟩ => thn (hu pins s2 σ H2 _ I2 q2) fun vu s3 ⟨u, H3, I3, pu, q3⟩ => ?_)
  rw [evalPart_none]
  refine wpAny_pure ?_
  have I4 : Inv X pins σ H3 { s3 with heap := s3.heap.push { cls := .type "slice", data := .fields #[vl, vu, .none] } } := I3.kept (t' := s3.toks) fun b ob q => Heap.get?_push_of_some _ q
  obtain ⟨T, id, hT, ht, hg⟩ := hr pins { s3 with heap := s3.heap.push { cls := .type "slice", data := .fields #[vl, vu, .none] } } σ H3 x v vl vu l u s3.heap.objs.size Q I4 r1 (Heap.IsSliceOf.new ..) pl pu q3
  show wpAny (model X.prog X.w) X.A (subscriptTail e (.Slice lo hi none p2) v (.ref s3.heap.objs.size)) (EP X pins σ Q) X.xe { s3 with heap := s3.heap.push { cls := .type "slice", data := .fields #[vl, vu, .none] } }
  exact tail_any (ops := [.ref s3.heap.objs.size, v]) ht hT hg (by with_unfolding_all rfl)

/-- the items of xs[lo:hi] -/
def cutV (xs : List V) (lo hi : Option Int) : List V := (xs.drop (HT.sIx xs.length 0 lo)).take (HT.sIx xs.length xs.length hi - HT.sIx xs.length 0 lo)
theorem cutV_length (xs : List V) (lo hi : Option Int) : (cutV xs lo hi).length ≤ xs.length := by
  unfold cutV
  rw [List.length_take, List.length_drop]
  omega

/-! ### t < u, t + u -/
/-- t + u, t not empty: u empty gives t itself -/
def rCatT (K : PySem.W.Frag) : R2 := fun x y H Q => ∃ a b xs ys, x = .ref a ∧ y = .ref b ∧ SqT K H a xs ∧ SqT K H b ys ∧ xs ≠ [] ∧ xs.length + ys.length ≤ sizeLine ∧
  (ys = [] → Q (.ref a) H) ∧ (ys ≠ [] → ∀ p, H p = none → Q (.ref p) (upd H p (.tup (xs ++ ys))))
theorem Vals.nil_iff {xs : List V} {us : List Value} (r : Vals xs us) : us = [] ↔ xs = [] := by
  cases r with
  | nil => simp
  | cons _ _ => simp
theorem op_catT : OpR X (binaryOp .Add) (rCatT X.K) := by
  intro pins s σ H x y v u Q I rx ry h
  obtain ⟨a, b, xs, ys, rfl, rfl, ha, hb, hx, hz, q1, q2⟩ := h
  cases rx
  cases ry
  obtain ⟨its, r1, p1, _⟩ := I.tuple ha
  obtain ⟨its2, r2, p2, _⟩ := I.tuple hb
  refine HT.cat_tup p1 p2 (fun z => hx (r1.nil_iff.mp z)) (fun z => ⟨.ref a, H, I, rfl, q1 (r2.nil_iff.mp z)⟩) (fun z => ?_) (by rw [← r1.length, ← r2.length]; exact hz)
  refine ⟨.ref s.heap.objs.size, _, I.laid (t' := s.toks) (o := .tup (xs ++ ys)) (fun b ob q => Heap.get?_push_of_some _ q) (Nat.le_refl _) ?_, rfl, q2 (fun w => z (r2.nil_iff.mpr w)) _ (I.hok.fresh (Nat.le_refl _))⟩
  exact ⟨by rw [List.length_append]; exact hz, _, r1.append r2, IsTup.new _ _⟩
end
end L2

namespace L2
open PySem PySem.Spec PyProof.Rows

/-! ### places -/
/-- the place that an index of any sign means -/
def ixN (n : Nat) (i : Int) : Option Nat := if 0 ≤ i then (if i < n then some i.toNat else none) else if -(n : Int) ≤ i then some (i + n).toNat else none
def atI {α : Type} (xs : List α) (i : Int) : Option α := (ixN xs.length i).bind fun j => xs[j]?
theorem ixN_seq {n : Nat} {i : Int} {j : Nat} (h : ixN n i = some j) : seqIndex? i n = some j ∧ j < n ∧ -(n : Int) ≤ i ∧ i < n := by
  unfold ixN at h
  by_cases h0 : 0 ≤ i
  · rw [if_pos h0] at h
    by_cases h1 : i < n
    · rw [if_pos h1] at h
      have e : i.toNat = j := Option.some.inj h
      exact ⟨by rw [seqIndex_of h0 h1, e], by omega, by omega, h1⟩
    · rw [if_neg h1] at h; cases h
  · rw [if_neg h0] at h
    by_cases h1 : -(n : Int) ≤ i
    · rw [if_pos h1] at h
      have e : (i + n).toNat = j := Option.some.inj h
      exact ⟨by rw [seqIndex_neg (by omega) h1, e], by omega, h1, by omega⟩
    · rw [if_neg h1] at h; cases h
theorem atI_get {α : Type} {xs : List α} {i : Int} {v : α} (h : atI xs i = some v) : ∃ j, seqIndex? i xs.length = some j ∧ xs[j]? = some v ∧ j < xs.length ∧ -(xs.length : Int) ≤ i ∧ i < xs.length := by
  unfold atI at h
  cases e : ixN xs.length i with
  | none => rw [e] at h; cases h
  | some j =>
    rw [e] at h
    obtain ⟨h1, h2, h3, h4⟩ := ixN_seq e
    exact ⟨j, h1, h, h2, h3, h4⟩
theorem atI_nat {α : Type} {xs : List α} {j : Nat} {v : α} (h : xs[j]? = some v) : atI xs (j : Int) = some v := by
  have hj : j < xs.length := (List.getElem?_eq_some_iff.mp h).1
  have e : ixN xs.length (j : Int) = some j := by
    unfold ixN
    rw [if_pos (by omega), if_pos (by omega)]; simp
  unfold atI; rw [e]; exact h
theorem atI_last {α : Type} (xs : List α) (v : α) : atI (xs ++ [v]) (-1) = some v := by
  have hl : (xs ++ [v]).length = xs.length + 1 := by simp
  have e : ixN (xs ++ [v]).length (-1) = some xs.length := by
    unfold ixN
    rw [hl, if_neg (by decide), if_pos (by omega)]
    congr 1
    omega
  unfold atI
  rw [e]
  show (xs ++ [v])[xs.length]? = some v
  simp

/-! ### what may be subscripted -/
/-- what stands as an index of a plain subscript -/
def PlainIx (b : Expr) : Prop := ∀ o i, subscripted b false o i = operate [o, i] (getItem o i)
/-- a subscript by values -/
def IxR (X : Cx) (r : R2) : Prop :=
  ∀ (value slice : Expr) (pins : List (Addr × Obj)) (s : Shared) (σ : St) (H : Hp) (x y : V) (v u : Value) (Q : VK), Inv X pins σ H s → RelV x v → RelV y u → r x y H Q →
    subscripted slice false v u = operate [v, u] (getItem v u) → wpAny (model X.prog X.w) X.A (subscriptTail value slice v u) (EP X pins σ Q) X.xe s
/-- a call of a builtin's method by values: the receiver, the arguments -/
def MtR (X : Cx) (id : String) (r : V → List V → Hp → VK → Prop) : Prop :=
  ∀ (pins : List (Addr × Obj)) (s : Shared) (σ : St) (H : Hp) (x : V) (xs : List V) (v : Value) (us : List Value) (Q : VK), Inv X pins σ H s → RelV x v → Vals xs us → r x xs H Q →
    wpAny (model X.prog X.w) X.A (call (.builtin id) (v :: us)) (EP X pins σ Q) X.xe s
section
variable {X : Cx} {a b : Expr} {ta tb : TE} {pos : Pos}
/-- a[b] -/
theorem pe_ix {r : R2} (hr : IxR X r) (ha : PE X a ta) (hb : PE X b tb) (hs : PlainIx b) : PE X (.Subscript a b pos) (tOp r ta tb) := by
  intro pins s σ H Q I h
  exact Subscript_ (binT ha hb I h fun v u s2 x y H2 I2 rx ry q => hr a b pins s2 σ H2 x y v u Q I2 rx ry q (hs _ _))

def rIxL (K : PySem.W.Frag) : R2 := fun x y H Q => ∃ p xs i v, x = .ref p ∧ y = .int i ∧ SqL K H p xs ∧ atI xs i = some v ∧ Q v H
def rIxT (K : PySem.W.Frag) : R2 := fun x y H Q => ∃ p xs i v, x = .ref p ∧ y = .int i ∧ SqT K H p xs ∧ atI xs i = some v ∧ Q v H
theorem ix_list : IxR X (rIxL X.K) := by
  intro value slice pins s σ H x y v u Q I rx ry h hs
  obtain ⟨p, xs, i, z, rfl, rfl, hq, he, q⟩ := h
  cases rx
  obtain ⟨t, rfl⟩ := ry
  obtain ⟨its, r, pl, hz⟩ := I.list hq
  obtain ⟨j, h1, h2, h3, h4, h5⟩ := atI_get he
  obtain ⟨w, ew, rw'⟩ := r.get h2
  have hl := r.length
  have hn := line63
  have fin : EP X pins σ Q w s := ⟨z, H, I, rw', q⟩
  by_cases h0 : 0 ≤ i
  · have hj : i.toNat = j := by
      rw [seqIndex_of h0 h5] at h1
      exact Option.some.inj h1
    exact item_listR pl.isList h0 (by omega) (by rw [hj]; simpa using ew) fin hs
  · have hj : (i + (its.toArray.size : Int)).toNat = j := by
      rw [seqIndex_neg (by omega) h4] at h1
      rw [List.size_toArray, ← hl]
      exact Option.some.inj h1
    exact subscriptTail_builtinR (x := w) pl.isList.typeIs slot_list_getitem.lookup
      (wpAny_getItem_list_neg (Q := fun r s' => r = w ∧ EP X pins σ Q r s') pl.isList (by omega) (by rw [List.size_toArray] <;> omega) (by omega) (by rw [hj]; simpa using ew) ⟨rfl, fin⟩) hs
theorem ix_tup : IxR X (rIxT X.K) := by
  intro value slice pins s σ H x y v u Q I rx ry h hs
  obtain ⟨p, xs, i, z, rfl, rfl, hq, he, q⟩ := h
  cases rx
  obtain ⟨t, rfl⟩ := ry
  obtain ⟨its, r, pl, hz⟩ := I.tuple hq
  obtain ⟨j, h1, h2, h3, h4, h5⟩ := atI_get he
  obtain ⟨w, ew, rw'⟩ := r.get h2
  have hl := r.length
  have hn := line63
  have fin : EP X pins σ Q w s := ⟨z, H, I, rw', q⟩
  exact subscriptTail_builtinR (x := w) pl.typeIs slot_tuple_getitem.lookup
    (getItem_tuple (j := j) (Q := fun r s' => r = w ∧ EP X pins σ Q r s') pl (by omega) (by omega) (by rw [List.size_toArray, ← hl]; exact h1) (by simpa using ew) ⟨rfl, fin⟩) hs

/-! ### xs[i] = v, any sign -/
/-- the list's object behind a store -/
theorem mapSeq_set (its : List Value) (n j : Nat) (u : Value) : Obj.mapSeq (·.setIfInBounds j u) { cls := .type "list", data := .seq its.toArray n } = { cls := .type "list", data := .seq (its.set j u).toArray n } := by
  simp [Obj.mapSeq]
theorem Inv.lst {pins : List (Addr × Obj)} {σ : St} {H : Hp} {s : Shared} {p : Addr} {xs : List V} (I : Inv X pins σ H s) (h : H p = some (.lst xs)) :
    ∃ (its : List Value) (n : Nat), Vals xs its ∧ s.heap.get? p = some { cls := .type "list", data := .seq its.toArray n } ∧ xs.length ≤ sizeLine := by
  obtain ⟨z, its, n, r, e⟩ := I.hok p _ h
  exact ⟨its, n, r, e, z⟩
/-- the list at p is written by an update of its object -/
theorem Inv.lstUpd {pins : List (Addr × Obj)} {σ : St} {H : Hp} {s : Shared} {p : Addr} {xs ys : List V} {its its' : List Value} {n n' : Nat} {f : Obj → Obj} (I : Inv X pins σ H s) (h : H p = some (.lst xs))
    (ho : s.heap.get? p = some { cls := .type "list", data := .seq its.toArray n }) (hf : f { cls := .type "list", data := .seq its.toArray n } = { cls := .type "list", data := .seq its'.toArray n' }) (r : Vals ys its') (hz : ys.length ≤ sizeLine) (t : Nat) :
    Inv X pins σ (upd H p (.lst ys)) { s with heap := s.heap.update p f, toks := t } := by
  have e : (s.heap.update p f).get? p = some { cls := .type "list", data := .seq its'.toArray n' } := by
    rw [Heap.get?_update_self f ho (by rw [hf] <;> rfl), hf]
  refine I.write (x := p) (e := p) (by rw [h]; trivial) (.inl rfl) (fun b u hb q => (Heap.get?_update_other _ _ (Ne.symm hb)).trans q) ⟨_, e⟩ ?_
  exact ⟨hz, its', n', r, e⟩
def rSetL : V → V → V → Hp → (Hp → Prop) → Prop := fun o i v H Q => ∃ p xs k j, o = .ref p ∧ i = .int k ∧ H p = some (.lst xs) ∧ ixN xs.length k = some j ∧ Q (upd H p (.lst (xs.set j v)))
theorem set_list : PSet X rSetL := by
  intro pins s σ H o i v ov iv u Q I ro ri rv h
  obtain ⟨p, xs, k, j, rfl, rfl, hp, hj, q⟩ := h
  cases ro
  obtain ⟨t, rfl⟩ := ri
  obtain ⟨its, n, r, ho, hz⟩ := I.lst hp
  obtain ⟨h1, h2, h3, h4⟩ := ixN_seq hj
  have hl := r.length
  have hn := line63
  have I' : Inv X pins σ (upd H p (.lst (xs.set j v))) { s with heap := s.heap.update p (Obj.mapSeq (·.setIfInBounds j u)) } :=
    I.lstUpd hp ho (mapSeq_set its n j u) (r.set rv j) (by rw [List.length_set]; exact hz) s.toks
  by_cases h0 : 0 ≤ k
  · have hk : k.toNat = j := by
      rw [seqIndex_of h0 h4] at h1
      exact Option.some.inj h1
    exact PySem.W.ki_setAt ho h0 (by omega) (by rw [List.size_toArray, ← hl]; exact h4) (by rw [hk]; exact ⟨_, I', q⟩)
  · have hk : (k + (its.toArray.size : Int)).toNat = j := by
      rw [seqIndex_neg (by omega) h3] at h1
      rw [List.size_toArray, ← hl]
      exact Option.some.inj h1
    exact PySem.W.ki_setBack ho (by omega) (by rw [List.size_toArray, ← hl]; exact h3) (by omega) (by rw [hk]; exact ⟨_, I', q⟩)

/-! ### slices -/
theorem slice_bounds (lo hi : Option Int) (n : Nat) : (sliceBounds lo hi none n).1 = ((HT.sIx n 0 lo : Nat) : Int) ∧ (sliceBounds lo hi none n).2.1 = ((HT.sIx n n hi : Nat) : Int) ∧ (sliceBounds lo hi none n).2.2 = 1 := by
  refine ⟨?_, ?_, rfl⟩
  · cases lo with
    | none => simp [sliceBounds, HT.sIx]
    | some i =>
      simp only [sliceBounds, HT.sIx, Option.getD_none, show (1 : Int) > 0 by decide, if_true]
      by_cases h : i < 0
      · simp only [h, if_true] <;> omega
      · simp only [h, if_false] <;> omega
  · cases hi with
    | none => simp [sliceBounds, HT.sIx]
    | some i =>
      simp only [sliceBounds, HT.sIx, Option.getD_none, show (1 : Int) > 0 by decide, if_true]
      by_cases h : i < 0
      · simp only [h, if_true] <;> omega
      · simp only [h, if_false] <;> omega
theorem slicePick_cut (its : List Value) (lo hi : Option Int) : slicePick its.toArray lo hi none = ((its.drop (HT.sIx its.length 0 lo)).take (HT.sIx its.length its.length hi - HT.sIx its.length 0 lo)).toArray := by
  obtain ⟨h1, h2, h3⟩ := slice_bounds lo hi its.toArray.size
  unfold slicePick
  rw [h1, h2, h3]
  simp only [sliceRange_one, pick_run, List.size_toArray] <;> rfl
/-- xs[lo:hi] of a list: a new list -/
def rSlL (K : PySem.W.Frag) : V → Option Int → Option Int → Hp → VK → Prop := fun x lo hi H Q => ∃ a xs, x = .ref a ∧ SqL K H a xs ∧ ∀ p, H p = none → Q (.ref p) (upd H p (.lst (cutV xs lo hi)))
theorem sl_list : SlR X (rSlL X.K) := by
  intro pins s σ H x v vl vu lo hi sl Q I rx hs pl pu h
  obtain ⟨a, xs, rfl, hx, q⟩ := h
  cases rx
  obtain ⟨its, r, ht, hz⟩ := I.list hx
  have hlen := r.length
  refine ⟨"list", _, slot_list_getitem.lookup, ht.isList.typeIs, ?_⟩
  refine wpAny_getItem_list_slice ht.isList hs pl pu .none (by simp) ?_ (by rw [List.size_toArray] <;> omega)
  rw [slicePick_cut, ← hlen]
  refine ⟨.ref s.heap.objs.size, _, I.laid (t' := s.toks) (o := .lst (cutV xs lo hi)) (fun b ob q => Heap.get?_push_of_some _ q) (Nat.le_refl _) ?_, rfl, q _ (I.hok.fresh (Nat.le_refl _))⟩
  exact ⟨Nat.le_trans (cutV_length xs lo hi) hz, _, 0, (r.drop (HT.sIx xs.length 0 lo)).take (HT.sIx xs.length xs.length hi - HT.sIx xs.length 0 lo), Heap.get?_push_size _ rfl⟩

/-! ### in, not in: flat items -/

/-! ### len, list(x), tuple(x) of any list or tuple that is read -/
theorem call_len_seq : CallR X (.builtin "len") (fun xs H Q => ∃ p ys, xs = [.ref p] ∧ (SqL X.K H p ys ∨ SqT X.K H p ys) ∧ Q (.int ys.length) H) := by
  intro pins s σ H xs us Q I r h
  obtain ⟨p, ys, rfl, hq, q⟩ := h
  obtain ⟨u, rfl, rx⟩ := vals1 r
  cases rx
  have hn := line63
  rcases hq with hq | hq
  · obtain ⟨its, r', pl, hz⟩ := I.list hq
    have hlen := r'.length
    exact Calls.call_len_list pl.isList (by simp only [List.size_toArray] <;> omega) ⟨.int ys.length, H, I.tok _, ⟨s.toks + 1, by rw [List.size_toArray, hlen]⟩, q⟩
  · obtain ⟨its, r', pl, hz⟩ := I.tuple hq
    have hlen := r'.length
    exact len_tuple pl (by simp only [List.size_toArray] <;> omega) ⟨.int ys.length, H, I.tok _, ⟨s.toks + 1, by rw [List.size_toArray, hlen]⟩, q⟩
theorem call_list_of : CallR X (.type "list") (fun xs H Q => ∃ p ys, xs = [.ref p] ∧ (SqL X.K H p ys ∨ SqT X.K H p ys) ∧ ∀ l, H l = none → Q (.ref l) (upd H l (.lst ys))) := by
  intro pins s σ H xs us Q I r h
  obtain ⟨p, ys, rfl, hq, q⟩ := h
  obtain ⟨u, rfl, rx⟩ := vals1 r
  cases rx
  have fin : ∀ (its : List Value), Vals ys its → ys.length ≤ sizeLine → ∀ (h' : Heap) (c' : Nat), (∀ b o', s.heap.get? b = some o' → h'.get? b = some o') →
      h'.get? s.heap.objs.size = some { cls := .type "list", dict := none, data := .seq its.toArray c', slots := #[] } → EP X pins σ Q (.ref s.heap.objs.size) { s with heap := h' } := fun its r' hz h' c' kp e =>
    ⟨.ref s.heap.objs.size, _, I.laid (t' := s.toks) kp (Nat.le_refl _) (show ObjOk X.prog X.w _ h' _ (.lst ys) from ⟨hz, its, c', r', e⟩), rfl, q _ (I.hok.fresh (Nat.le_refl _))⟩
  rcases hq with hq | hq
  · obtain ⟨its, r', pl, hz⟩ := I.list hq
    have hlen := r'.length
    obtain ⟨o, ho, hc, n, hd⟩ := pl.isList
    exact call_list_seq p (.inl rfl) ho hc hd (fun h' c' kp e => fin its r' hz h' c' kp e) (by simp only [List.size_toArray] <;> omega)
  · obtain ⟨its, r', pl, hz⟩ := I.tuple hq
    have hlen := r'.length
    obtain ⟨o, ho, hc, n, hd⟩ := pl
    exact call_list_seq p (.inr rfl) ho hc hd (fun h' c' kp e => fin its r' hz h' c' kp e) (by simp only [List.size_toArray] <;> omega)

/-! ### the call of a builtin's method: o.m(..) -/
/-- the value is of that builtin type -/
def tyV (K : PySem.W.Frag) (T : String) (x : V) (H : Hp) : Prop := match x with
  | .str _ => T = "str"
  | .int _ => T = "int"
  | .ref p => (T = "list" ∧ ∃ xs, SqL K H p xs) ∨ (T = "tuple" ∧ ∃ o, K.lookup p = some o ∧ o.cls = .type "tuple" ∧ o.dict = none) ∨
      (T = "dict" ∧ ((∃ kvs, H p = some (.dK kvs)) ∨ ∃ kvs, H p = some (.dT kvs))) ∨ (T = "set" ∧ ∃ S n, H p = some (.set S n))
  | _ => False
theorem tyV_is {pins : List (Addr × Obj)} {σ : St} {H : Hp} {s : Shared} {T : String} {x : V} {v : Value} (I : Inv X pins σ H s) (r : RelV x v) (ty : tyV X.K T x H) :
    s.TypeIs v T ∧ ∀ a, v = .ref a → ∃ ob, s.heap.get? a = some ob ∧ ob.dict = none := by
  cases x with
  | str z =>
    obtain ⟨t, rfl⟩ := r
    cases (show T = "str" from ty)
    exact ⟨typeIs_str s z t, fun _ e => nomatch e⟩
  | int i =>
    obtain ⟨t, rfl⟩ := r
    cases (show T = "int" from ty)
    exact ⟨typeIs_int s i t, fun _ e => nomatch e⟩
  | ref p =>
    cases r
    rcases ty with ⟨rfl, xs, hq⟩ | ⟨rfl, o, hk, hc, hd⟩ | ⟨rfl, hk⟩ | ⟨rfl, S, n, hk⟩
    · obtain ⟨its, _, pl, _⟩ := I.list hq
      refine ⟨pl.isList.typeIs, fun a e => ?_⟩
      cases e
      obtain ⟨o, n, e, c, hd, _⟩ := pl
      exact ⟨o, e, hd⟩
    · refine ⟨⟨o, I.kIn p o hk, hc⟩, fun a e => ?_⟩
      cases e
      exact ⟨o, I.kIn _ o hk, hd⟩
    · have z : ∃ o, s.heap.get? p = some o ∧ o.ExactDict := by
        rcases hk with ⟨kvs, hk⟩ | ⟨kvs, hk⟩
        · obtain ⟨_, _, _, _, o, _, _, e, ex, _⟩ := I.hok p _ hk
          exact ⟨o, e, ex⟩
        · obtain ⟨_, _, _, _, o, _, _, e, ex, _⟩ := I.hok p _ hk
          exact ⟨o, e, ex⟩
      obtain ⟨o, e, ex⟩ := z
      refine ⟨⟨o, e, ex.1⟩, fun a e2 => ?_⟩
      cases e2
      exact ⟨o, e, ex.2.1⟩
    · obtain ⟨o, _, _, _, e, ex, _⟩ := I.hok p _ hk
      refine ⟨⟨o, e, ex.1⟩, fun a e2 => ?_⟩
      cases e2
      exact ⟨o, e, ex.2.1⟩
  | _ => exact False.elim ty
def tBM (K : PySem.W.Frag) (T : String) (r : V → List V → Hp → VK → Prop) (to : TE) (t : TA) : TE := fun σ H Q => to σ H fun x H1 => tyV K T x H1 ∧ t σ H1 fun xs H2 => r x xs H2 Q
variable {o e : Expr} {es : List Expr} {to : TE} {t : TA} {name : Str} {apos cpos : Pos} {T id : String} {r : V → List V → Hp → VK → Prop}
theorem pe_bm (pa : PlainAttrs T) (slot : Slot T name id) (hty : typeOf (.builtin id) = pure (.type "method_descriptor")) (hm : MtR X id r) (ho : PE X o to) (ha : PA X (e :: es) t)
    (hbase : attributeBase o name X.env (eval o X.env) = eval o X.env := by rfl)
    (hfew : ((backTo cpos (starEach (e :: es) X.env)).all (fun x => !x.1) && (backToKw cpos (keywordEach [] X.env)).all (fun x => x.1.isSome)
      && decide ((e :: es).length + ([] : List Keyword).length + (if ([] : List Keyword).isEmpty then 0 else 1) < 30)) = true := by rfl)
    (hline : (apos.endLine == cpos.line) = true := by rfl) (hs : starEach (e :: es) X.env = (false, eval e X.env) :: starEach es X.env := by rfl) (hplain : (backTo cpos (starEach es X.env)).any (·.1) = false := by rfl) :
    PE X (.Call (.Attribute o name apos) (e :: es) [] cpos) (tBM X.K T r to t) := by
  intro pins s σ H Q I h
  refine wpAny_Call_method_late hbase hfew hline rfl (thn (ho pins s σ H _ I h) fun v s1 ⟨x, H1, I1, r1, ty, q1⟩ => ?_)
  obtain ⟨h1, h2⟩ := tyV_is I1 r1 ty
  refine ⟨T, id, pa, slot, hty, h1, h2, ?_⟩
  have hA := ha cpos pins s1 σ H1 _ I1 q1
  rw [hs] at hA ⊢
  refine Calls.callWith_builtin (by show (false || (backTo cpos (starEach es X.env)).any (·.1)) = false; rw [hplain] <;> rfl) (Calls.evalArgs_plain ?_)
  exact thn hA fun us s2 ⟨vs, H2, I2, r2, q2⟩ => hm pins s2 σ H2 x vs v us Q I2 r1 r2 q2
/- xs.append(e), list.index on a module's tuple .. are MtR facts of 06m -/
end
end L2

namespace L2
open PySem PySem.Spec PyProof.Rows

def MtM (X : Cx) (id : String) (r : V → List V → Hp → VK → Prop) : Prop :=
  ∀ (pins : List (Addr × Obj)) (s : Shared) (σ : St) (H : Hp) (x : V) (xs : List V) (v : Value) (us : List Value) (Q : VK), Inv X pins σ H s → RelV x v → Vals xs us → r x xs H Q →
    wpAny (model X.prog X.w) X.A (call (.builtin id) (v :: us)) (EP X pins σ Q) X.xe s

/-! ### lists of values -/
theorem Vals.one : ∀ {x : V} {us : List Value}, Vals [x] us → ∃ u, us = [u] ∧ RelV x u
  | _, _, .cons r .nil => ⟨_, rfl, r⟩
theorem Vals.two : ∀ {x y : V} {us : List Value}, Vals [x, y] us → ∃ u v, us = [u, v] ∧ RelV x u ∧ RelV y v
  | _, _, _, .cons r (.cons q .nil) => ⟨_, _, rfl, r, q⟩
theorem Vals.reverse {xs : List V} {us : List Value} (h : Vals xs us) : Vals xs.reverse us.reverse := by
  induction h with
  | nil => exact .nil
  | cons r t ih => rw [List.reverse_cons, List.reverse_cons]; exact Vals.append ih (.cons r .nil)
theorem Vals.rep {xs : List V} {us : List Value} (h : Vals xs us) : ∀ k : Nat, Vals (List.replicate k xs).flatten (List.replicate k us).flatten
  | 0 => .nil
  | k + 1 => by
    rw [List.replicate_succ, List.replicate_succ, List.flatten_cons, List.flatten_cons]
    exact Vals.append h (Vals.rep h k)
theorem foldl_rep (its : List Value) : ∀ (k : Nat) (acc : List Value),
    List.foldl (fun x1 x2 => x1 ++ x2) acc.toArray (List.replicate k its.toArray) = (acc ++ (List.replicate k its).flatten).toArray
  | 0, acc => by simp
  | k + 1, acc => by
    have e : acc.toArray ++ its.toArray = (acc ++ its).toArray := by simp
    have e2 : (acc ++ its) ++ (List.replicate k its).flatten = acc ++ (List.replicate (k + 1) its).flatten := by
      rw [List.replicate_succ, List.flatten_cons, List.append_assoc]
    rw [← e2, ← foldl_rep its k (acc ++ its), ← e, List.replicate_succ, List.foldl_cons]

section
variable {X : Cx} {pins : List (Addr × Obj)} {σ : St} {H : Hp} {s : Shared} {l b : Addr} {xs ys zs : List V}

/-! ### the two steps: a tracked list is rewritten, a new list is laid -/
theorem Inv.lset {its its' : List Value} {n : Nat} {f : Array Value → Array Value} {t' : Nat} (I : Inv X pins σ H s) (hH : H l = some (.lst xs))
    (e : s.heap.get? l = some { cls := .type "list", data := .seq its.toArray n }) (hf : f its.toArray = its'.toArray) (hv : Vals ys its') (hz : ys.length ≤ sizeLine) :
    Inv X pins σ (upd H l (.lst ys)) { s with heap := s.heap.update l (Obj.mapSeq f), toks := t' } := by
  have q := PySem.IsL.update e f
  rw [hf] at q
  refine I.write (x := l) (e := l) (by rw [hH]; exact trivial) (.inl rfl) (fun b' u hb hu => (Heap.get?_update_other s.heap (Obj.mapSeq f) (Ne.symm hb)).trans hu) ⟨_, q⟩ ?_
  exact ⟨hz, its', _, hv, q⟩
theorem Inv.lnew {its : List Value} {t' : Nat} (I : Inv X pins σ H s) (hv : Vals ys its) (hz : ys.length ≤ sizeLine) :
    Inv X pins σ (upd H s.heap.objs.size (.lst ys)) { s with heap := s.heap.push { cls := .type "list", data := .seq its.toArray }, toks := t' } :=
  I.laid (fun _ _ q => Heap.get?_push_of_some _ q) (Nat.le_refl _) ⟨hz, its, 0, hv, Heap.get?_push_size _ rfl⟩
theorem Inv.fresh (I : Inv X pins σ H s) : H s.heap.objs.size = none := I.hok.fresh (Nat.le_refl _)
theorem Inv.lstM (I : Inv X pins σ H s) (hH : H l = some (.lst xs)) : xs.length ≤ sizeLine ∧ ∃ (its : List Value) (n : Nat), Vals xs its ∧ xs.length = its.length ∧ s.heap.get? l = some { cls := .type "list", data := .seq its.toArray n } := by
  obtain ⟨z, its, n, r, e⟩ := I.hok l _ hH
  exact ⟨z, its, n, r, r.length, e⟩

theorem notLongL {n : Nat} (h : n ≤ sizeLine) : Builtin.List.listTooLong n = false := by
  unfold Builtin.List.listTooLong
  exact decide_eq_false (by omega)
end

section
variable {X : Cx}

/-! ### methods -/
def rAppend : V → List V → Hp → VK → Prop := fun x vs H Q => ∃ l xs y, x = .ref l ∧ vs = [y] ∧ H l = some (.lst xs) ∧ xs.length < sizeLine ∧ Q .non (upd H l (.lst (xs ++ [y])))
theorem mt_append : MtM X "list.append" rAppend := by
  intro pins s σ H x vs v us Q I rx rv h
  obtain ⟨l, xs, y, rfl, rfl, hH, hz, q⟩ := h
  cases rx
  obtain ⟨u, rfl, ru⟩ := rv.one
  obtain ⟨z, its, n, r, hl, e⟩ := I.lstM hH
  refine call_meets F.slot_list_append ⟨_, e, rfl⟩ F.entry_list_append (F.args_list_append_2 _ _) (PySem.list_append l its.toArray n u (by rw [List.size_toArray]; omega)) ⟨e, ?_⟩
  refine ⟨.non, _, I.lset (its' := its ++ [u]) hH e (by simp) (r.append (.cons ru .nil)) ?_, rfl, q⟩
  rw [List.length_append, List.length_singleton]
  omega

def rExtend : V → List V → Hp → VK → Prop := fun x vs H Q => ∃ l b xs zs, x = .ref l ∧ vs = [.ref b] ∧ H l = some (.lst xs) ∧ H b = some (.lst zs) ∧ xs.length + zs.length ≤ sizeLine ∧ Q .non (upd H l (.lst (xs ++ zs)))
theorem mt_extend : MtM X "list.extend" rExtend := by
  intro pins s σ H x vs v us Q I rx rv h
  obtain ⟨l, b, xs, zs, rfl, rfl, hH, hB, hz, q⟩ := h
  cases rx
  obtain ⟨u, rfl, ru⟩ := rv.one
  cases ru
  obtain ⟨z, its, n, r, hl, e⟩ := I.lstM hH
  obtain ⟨z2, its2, n2, r2, hl2, e2⟩ := I.lstM hB
  have hsz : its.toArray.size + its2.toArray.size ≤ sizeLine := by rw [List.size_toArray, List.size_toArray]; omega
  have hlong : ¬ (!its.toArray.isEmpty && Builtin.List.listTooLong (its.toArray.size + its2.toArray.size)) = true := by
    rw [notLongL hsz, Bool.and_false]
    exact Bool.false_ne_true
  refine call_meets F.slot_list_extend ⟨_, e, rfl⟩ F.entry_list_extend (F.args_list_extend_2 _ _)
    (AutoSeq1.list_extend_list_list_0 l its.toArray n b its2.toArray n2 hlong (by rw [List.size_toArray]; omega) (by omega)) ⟨e, e2, ?_⟩
  refine ⟨.non, _, I.lset (its' := its ++ its2) hH e (by simp) (r.append r2) ?_, rfl, q⟩
  rw [List.length_append]
  omega





/-! ### list + list, list += list, list * int -/
def rCat : R2 := fun x y H Q => ∃ l b xs zs, x = .ref l ∧ y = .ref b ∧ H l = some (.lst xs) ∧ H b = some (.lst zs) ∧ xs.length + zs.length ≤ sizeLine ∧ ∀ p, H p = none → Q (.ref p) (upd H p (.lst (xs ++ zs)))
theorem op_cat : OpR X (binaryOp .Add) rCat := by
  intro pins s σ H x y v u Q I rx ry h
  obtain ⟨l, b, xs, zs, rfl, rfl, hH, hB, hz, q⟩ := h
  cases rx
  cases ry
  obtain ⟨z, its, n, r, hl, e⟩ := I.lstM hH
  obtain ⟨z2, its2, n2, r2, hl2, e2⟩ := I.lstM hB
  refine PySem.P.add_list e e2 ?_ (by rw [List.size_toArray, List.size_toArray]; omega)
  have ea : its.toArray ++ its2.toArray = (its ++ its2).toArray := by simp
  rw [ea]
  exact ⟨.ref _, _, I.lnew (t' := s.toks) (r.append r2) (by rw [List.length_append]; omega), rfl, q _ I.fresh⟩
/-- a list times an int (a negative one is nothing) -/
def rRep : R2 := fun x y H Q => ∃ l k xs, x = .ref l ∧ y = .int k ∧ H l = some (.lst xs) ∧ -(2 ^ 63) ≤ k ∧ k < 2 ^ 63 ∧ xs.length * k.toNat ≤ sizeLine ∧
  ∀ p, H p = none → Q (.ref p) (upd H p (.lst (List.replicate k.toNat xs).flatten))
theorem len_rep {α : Type} (xs : List α) (k : Nat) : (List.replicate k xs).flatten.length = k * xs.length := by
  induction k with
  | zero => simp
  | succ k ih => rw [List.replicate_succ, List.flatten_cons, List.length_append, ih, Nat.succ_mul, Nat.add_comm]
theorem op_rep : OpR X (binaryOp .Mult) rRep := by
  intro pins s σ H x y v u Q I rx ry h
  obtain ⟨l, k, xs, rfl, rfl, hH, h1, h2, hz, q⟩ := h
  cases rx
  obtain ⟨t, rfl⟩ := ry
  obtain ⟨z, its, n, r, hl, e⟩ := I.lstM hH
  have hlen : its.toArray.size * k.toNat ≤ sizeLine := by rw [List.size_toArray, ← hl]; exact hz
  have hcap : ¬ its.toArray.size * k.toNat > (2 ^ 63 - 1) / 8 := by
    have : (sizeLine : Nat) ≤ (2 ^ 63 - 1) / 8 := by decide
    omega
  have hfit : ¬ (!Builtin.List.listFitsIndex k) = true := by
    rw [fitsIndex_both h1 h2]
    exact Bool.false_ne_true
  have hlong : ¬ Builtin.List.listTooLong (its.toArray.size * k.toNat) = true := by
    rw [notLongL hlen]
    exact Bool.false_ne_true
  have hnew : List.foldl (fun x1 x2 => x1 ++ x2) #[] (List.replicate (if its.toArray.isEmpty = true then 0 else k.toNat) its.toArray) = (List.replicate k.toNat its).flatten.toArray := by
    have f0 : ∀ m : Nat, List.foldl (fun x1 x2 => x1 ++ x2) #[] (List.replicate m its.toArray) = (List.replicate m its).flatten.toArray := fun m => by
      have := foldl_rep its m []
      rw [List.nil_append] at this
      exact this
    rw [f0]
    cases its with
    | nil => simp
    | cons a r' => rw [if_neg (by simp)]
  refine wpAny_binaryOp_repeat_ref (T := "list") (U := "int") (by decide) ⟨_, e, rfl⟩ (fun s' => typeIs_int s' k t) noFill_list_mul F.fills_int_mul F.slot_int_rmul repeat_list F.slot_int_index.lookup
    (call_meets F.slot_int_rmul (typeIs_int s k t) F.entry_int_rmul (F.args_int_rmul_2 _ _) (int___rmul___int_list k t l its.toArray n)
      ⟨e, rfl, ⟨_, e, rfl⟩, call_meets F.slot_list_mul ⟨_, e, rfl⟩ F.entry_list_mul (F.args_list_mul_2 _ _) (AutoListH.list___mul___list_int_3 l its.toArray n k t hfit hcap hlong) ⟨e, ?_⟩⟩)
  rw [hnew]
  exact ⟨.ref _, _, I.lnew (t' := s.toks) (r.rep k.toNat) (by rw [len_rep, Nat.mul_comm]; exact hz), rfl, q _ I.fresh⟩

/-! ### del xs[i] -/
end

/-! ### xs[a:b] = ys -/
section
variable {prog : Program} {w : World} {A : Around} {E : Value → Shared → Prop} {s : Shared}
set_option maxRecDepth 100000 in
end

section
variable {X : Cx}
end
end L2

namespace L2
open PySem PySem.Spec PyProof.Rows

theorem Vals.ints : ∀ {ns : List Int} {us : List Value}, Vals (ns.map V.int) us → IntsAre us ns
  | [], us, h => by
    rw [List.map_nil] at h
    cases h
    exact IntsAre.nil
  | n :: ns, us, h => by
    rw [List.map_cons] at h
    cases h with
    | cons r t =>
      obtain ⟨k, rfl⟩ := r
      exact IntsAre.cons n k (Vals.ints t)
theorem Vals.bls : ∀ {bs : List Bool} {us : List Value}, Vals (bs.map V.bl) us → us = bs.map Value.bool
  | [], us, h => by
    rw [List.map_nil] at h
    cases h
    rfl
  | b :: bs, us, h => by
    rw [List.map_cons] at h
    cases h with
    | cons r t =>
      cases r
      rw [Vals.bls t, List.map_cons]
theorem Vals.ref1 {a : Addr} {us : List Value} (r : Vals [V.ref a] us) : us = [Value.ref a] := by
  cases r with
  | cons r t =>
    cases t
    cases r
    rfl

/-! ### the library's walks over a list of ints, kept objects alone -/
section
variable {prog : Program} {w : World} {A : Around} {E : Value → Shared → Prop} {s : Shared} {l : Addr} {its : List Value} {ns : List Int} {Q : Value → Shared → Prop}
theorem sum_raw (hh : A.handled = none) (hl : s.heap.IsList l its.toArray) (hi : IntsAre its ns)
    (h : ∀ h' tk t', (∀ b o, s.heap.get? b = some o → h'.get? b = some o) → Q (.int ns.sum t') { s with heap := h', toks := tk }) : wpAny (model prog w) A (call (.builtin "sum") [.ref l]) Q E s := by
  obtain ⟨xs, e⟩ := hi.allInts.items
  have hn : numsOf (intItems xs).toList = ns := by rw [← e]; exact hi.numsOf
  rw [nums_intItems] at hn
  rw [e] at hl
  refine PySem.sum_intListG hh hl fun h' tk t' hk => ?_
  have := h h' tk t' hk
  rw [preSum_eq, List.take_of_length_le (by simp), hn]; exact this
end

/-! ### the calls, by values (CallR of 03t; MtR of 06l) -/
section
variable {X : Cx}
/-- sum(xs) of a list of ints -/
def rSum (K : PySem.W.Frag) : List V → Hp → VK → Prop := fun vs H Q => ∃ (a : Addr) (ns : List Int), vs = [V.ref a] ∧ SqL K H a (ns.map V.int) ∧ Q (.int ns.sum) H
theorem cr_sum (hc : X.calm = true) : CallR X (.builtin "sum") (rSum X.K) := by
  intro pins s σ H vs us Q I r h
  obtain ⟨a, ns, rfl, hs, q⟩ := h
  obtain ⟨its, rv, hl, _⟩ := I.list hs
  rw [Vals.ref1 r]
  exact sum_raw (I.ok.hd hc) hl.isList rv.ints fun h' tk t' hk => ⟨.int _, H, I.kept hk, ⟨_, rfl⟩, q⟩

/-! sorted, sort (fewer than 64 items: the library's own bound) -/
end

/-! ### list.index, flat items -/
section
variable {X : Cx}
end

/-! ### type(x) of an own instance; is, is not of a module's class -/
section
variable {X : Cx}
end

/-! ### any(xs), all(xs) of a list of bools -/
theorem iter_any {prog : Program} {w : World} {A : Around} {E : Value → Shared → Prop} {s : Shared} {l : Addr} {items : Array Value} {Q : Value → Shared → Prop} (hl : s.heap.IsList l items)
    (h : ∀ s₂ : Shared, s₂ = { s with heap := s.heap.push { cls := .type "list_iterator", data := .fields #[.ref l, .int 0 0] } } →
      (s₂.heap.IsListIter s.heap.objs.size l 0 ∧ s₂.heap.IsList l items) → l ≠ s.heap.objs.size → Q (.ref s.heap.objs.size) s₂) : wpAny (model prog w) A (pyIter (.ref l)) Q E s := by
  have hlt : l < s.heap.objs.size := by obtain ⟨_, e, _⟩ := hl; exact Heap.lt_size e
  exact wpAny_pyIter_list hl (h _ rfl ⟨⟨_, Heap.get?_push_size _ rfl, rfl, rfl⟩, hl.push _⟩ (Nat.ne_of_lt hlt))
theorem truth_bools {prog : Program} {w : World} {A : Around} {bs : List Bool} {its : List Value} (e : its = bs.map Value.bool) :
    TruthOf prog w A (fun i v => its.toArray[i]? = some v) (fun i => bs.getD i false) := fun i v s Q E hv hq => by
  have hv' : its[i]? = some v := by simpa using hv
  rw [e, List.getElem?_map] at hv'
  obtain ⟨b, hb, rfl⟩ := Option.map_eq_some_iff.mp hv'
  have hg : bs.getD i false = b := by rw [List.getD_eq_getElem?_getD, hb] <;> rfl
  have hq' : Q (bs.getD i false) s := hq
  rw [hg] at hq'
  exact wpAny_truthy_bool hq'
theorem all_range : ∀ bs : List Bool, (List.range bs.length).all (fun i => bs.getD i false) = bs.all id
  | [] => rfl
  | b :: bs => by
    rw [List.length_cons, List.range_succ_eq_map, List.all_cons, List.all_map, List.all_cons, ← all_range bs]
    all_goals rfl
section
variable {X : Cx}
def rAll (K : PySem.W.Frag) : List V → Hp → VK → Prop := fun vs H Q => ∃ (a : Addr) (bs : List Bool), vs = [V.ref a] ∧ SqL K H a (bs.map V.bl) ∧ Q (.bl (bs.all id)) H
theorem cr_all (hc : X.calm = true) : CallR X (.builtin "all") (rAll X.K) := by
  intro pins s σ H vs us Q I r h
  obtain ⟨a, bs, rfl, hs, q⟩ := h
  obtain ⟨its, rv, hl, _⟩ := I.list hs
  rw [Vals.ref1 r]
  have hb := rv.bls
  refine call_all_walk (iter_any hl.isList fun s₂ e2 st hne => ?_)
  subst e2
  refine ⟨_, _, _, _, _, _, _, rfl, Walks.list (A := X.A.in1) (I.ok.hd hc) _ a hne its.toArray, st, truth_bools hb, fun h' tk hk => ?_⟩
  refine ⟨.bl _, H, I.kept fun b o eo => hk b o (fun hmem => ?_) (Heap.get?_push_of_some _ eo), ?_, q⟩
  · rcases List.mem_cons.mp hmem with e1 | hmem
    · exact absurd (e1 ▸ Heap.lt_size eo) (Nat.lt_irrefl _)
    · cases hmem
  · show Value.bool _ = Value.bool _
    rw [← all_range, hb, List.size_toArray, List.length_map]
end

/-! ### == and != of data at any depth: none, bools, ints, texts, lists, tuples -/
section
variable {X : Cx} {pins : List (Addr × Obj)} {σ : St} {H : Hp} {s : Shared}
end
section
variable {X : Cx}
end
end L2

namespace L2
open PySem PySem.Spec PyProof.Rows
abbrev CellAt (h : Heap) (c : Addr) (v : Option Value) : Prop := h.IsCell c v
def relS (scope sc : Scope) : Scope :=
  { scope with names := scope.names.map fun (n, k) => if (k == .free && sc.kind == .function && sc.names.lookup n == some .cell) then (n, .cell) else (n, k) }

def cloFrom (cells : List (Str × Addr)) : List (Str × NameKind) → List (Str × Addr) → List (Str × Addr)
  | [], acc => acc
  | (n, k) :: r, acc => if k == .free then cloFrom cells r ((n, (cells.lookup n).getD 0) :: acc) else cloFrom cells r acc

theorem closure_loop (env : Env) (f : Str × NameKind → List (Str × Addr) → Sem (ForInStep (List (Str × Addr))))
    (hf : ∀ n k c, f (n, k) c = if k == .free then (do let a ← cellOf env n; pure (.yield ((n, a) :: c))) else pure (.yield c)) :
    ∀ (names : List (Str × NameKind)) (acc : List (Str × Addr)), (∀ y ∈ names, y.2 = .free → ∃ c, env.cells.lookup y.1 = some c) → forIn names acc f = pure (cloFrom env.cells names acc)
  | [], acc, _ => by rw [List.forIn_nil]; rfl
  | (n, k) :: r, acc, h => by
    rw [List.forIn_cons, hf]
    have ih := fun acc => closure_loop env f hf r acc fun y hy => h y (List.mem_cons_of_mem _ hy)
    unfold cloFrom
    by_cases hk : (k == NameKind.free) = true
    · rw [if_pos hk, if_pos hk]
      obtain ⟨c, hc⟩ := h (n, k) List.mem_cons_self (by simpa using hk)
      have e : cellOf env n = pure c := by unfold cellOf; rw [hc]
      rw [e]
      have e2 : (env.cells.lookup n).getD 0 = c := by rw [hc]; rfl
      rw [e2]
      exact ih _
    · rw [if_neg hk, if_neg hk]
      exact ih _
theorem closure_ok {scope : Scope} {env : Env} (h : ∀ y ∈ scope.names, y.2 = .free → ∃ c, env.cells.lookup y.1 = some c) : closureFor scope env = pure (cloFrom env.cells scope.names []) := by
  simp only [closureFor]
  rw [closure_loop env _ (fun n k c => rfl) scope.names [] h]
  rfl

theorem mem_lookup {α : Type} : ∀ {l : List (Str × α)} {n : Str} {c : α}, (n, c) ∈ l → ∃ c', l.lookup n = some c'
  | (k, v) :: r, n, c, h => by
    rw [List.lookup_cons]
    cases hb : n == k with
    | true => exact ⟨_, rfl⟩
    | false =>
      rcases List.mem_cons.mp h with e | h
      · cases e; simp at hb
      · exact mem_lookup h

theorem cloFrom_mem {cells : List (Str × Addr)} : ∀ {names : List (Str × NameKind)} {acc : List (Str × Addr)} {n : Str} {c : Addr}, (n, c) ∈ cloFrom cells names acc → (n, c) ∈ acc ∨ ((n, .free) ∈ names ∧ c = (cells.lookup n).getD 0)
  | [], _, _, _, h => .inl h
  | (m, k) :: r, acc, n, c, h => by
    unfold cloFrom at h
    split at h
    · rename_i hk
      have hk : k = .free := by simpa using hk
      rcases cloFrom_mem h with h | ⟨h1, h2⟩
      · rcases List.mem_cons.mp h with e | h
        · cases e; exact .inr ⟨hk ▸ List.mem_cons_self, rfl⟩
        · exact .inl h
      · exact .inr ⟨List.mem_cons_of_mem _ h1, h2⟩
    · rcases cloFrom_mem h with h | ⟨h1, h2⟩
      · exact .inl h
      · exact .inr ⟨List.mem_cons_of_mem _ h1, h2⟩
theorem cloFrom_acc {cells : List (Str × Addr)} : ∀ {names : List (Str × NameKind)} {acc : List (Str × Addr)} {p : Str × Addr}, p ∈ acc → p ∈ cloFrom cells names acc
  | [], _, _, h => h
  | (m, k) :: r, acc, p, h => by
    unfold cloFrom
    split
    · exact cloFrom_acc (List.mem_cons_of_mem _ h)
    · exact cloFrom_acc h
theorem cloFrom_has {cells : List (Str × Addr)} : ∀ {names : List (Str × NameKind)} {acc : List (Str × Addr)} {n : Str}, (n, .free) ∈ names → (n, (cells.lookup n).getD 0) ∈ cloFrom cells names acc
  | (m, k) :: r, acc, n, h => by
    unfold cloFrom
    rcases List.mem_cons.mp h with e | h
    · cases e
      exact cloFrom_acc List.mem_cons_self
    · split
      · exact cloFrom_has h
      · exact cloFrom_has h

theorem cells_mem : ∀ {names : List (Str × NameKind)} {h : Heap} {acc : List (Str × Addr)} {x : Str} {c : Addr}, (x, c) ∈ cellsFrom h.objs.size names acc →
    (x, c) ∈ acc ∨ ((x, .cell) ∈ names ∧ h.objs.size ≤ c ∧ CellAt (pushCells h names) c none)
  | [], _, _, _, _, h => .inl h
  | (n, k) :: r, h, acc, x, c, hm => by
    unfold cellsFrom at hm
    unfold pushCells
    split at hm
    · rename_i hk
      rw [if_pos hk]
      have hk : k = .cell := by simpa using hk
      rw [← Heap.size_push h { cls := .type "cell", data := .cell none }] at hm
      rcases cells_mem hm with hm | ⟨h1, h2, h3⟩
      · rcases List.mem_cons.mp hm with e | hm
        · cases e
          exact .inr ⟨hk ▸ List.mem_cons_self, Nat.le_refl _, _, pushCells_keeps r _ _ _ (Heap.get?_push_size _ rfl), rfl⟩
        · exact .inl hm
      · rw [Heap.size_push] at h2
        exact .inr ⟨List.mem_cons_of_mem _ h1, Nat.le_of_succ_le h2, h3⟩
    · rename_i hk
      rw [if_neg hk]
      rcases cells_mem hm with hm | ⟨h1, h2, h3⟩
      · exact .inl hm
      · exact .inr ⟨List.mem_cons_of_mem _ h1, h2, h3⟩
theorem cells_acc : ∀ {names : List (Str × NameKind)} {n : Nat} {acc : List (Str × Addr)} {p : Str × Addr}, p ∈ acc → p ∈ cellsFrom n names acc
  | [], _, _, _, h => h
  | (m, k) :: r, n, acc, p, h => by
    unfold cellsFrom
    split
    · exact cells_acc (List.mem_cons_of_mem _ h)
    · exact cells_acc h
theorem cells_has : ∀ {names : List (Str × NameKind)} {n : Nat} {acc : List (Str × Addr)} {x : Str}, (x, .cell) ∈ names → ∃ c, (x, c) ∈ cellsFrom n names acc
  | (m, k) :: r, n, acc, x, h => by
    unfold cellsFrom
    rcases List.mem_cons.mp h with e | h
    · cases e
      exact ⟨n, cells_acc List.mem_cons_self⟩
    · split
      · exact cells_has h
      · exact cells_has h
theorem cells_inj : ∀ {names : List (Str × NameKind)} {h : Heap} {acc : List (Str × Addr)} {x y : Str} {c : Addr}, (∀ p ∈ acc, p.2 < h.objs.size) → (∀ x y c, (x, c) ∈ acc → (y, c) ∈ acc → x = y) →
    (x, c) ∈ cellsFrom h.objs.size names acc → (y, c) ∈ cellsFrom h.objs.size names acc → x = y
  | [], _, _, _, _, _, _, hi, h1, h2 => hi _ _ _ h1 h2
  | (n, k) :: r, h, acc, x, y, c, hl, hi, h1, h2 => by
    unfold cellsFrom at h1 h2
    split at h1
    · rename_i hk
      rw [if_pos hk] at h2
      rw [← Heap.size_push h { cls := .type "cell", data := .cell none }] at h1 h2
      refine cells_inj (h := h.push _) (fun p hp => ?_) (fun x y c a b => ?_) h1 h2
      · rw [Heap.size_push]
        rcases List.mem_cons.mp hp with rfl | hp
        · exact Nat.lt_succ_self _
        · exact Nat.lt_succ_of_lt (hl p hp)
      · rcases List.mem_cons.mp a with e | a <;> rcases List.mem_cons.mp b with e' | b
        · cases e; cases e'; rfl
        · cases e; exact absurd (hl _ b) (Nat.lt_irrefl _)
        · cases e'; exact absurd (hl _ a) (Nat.lt_irrefl _)
        · exact hi _ _ _ a b
    · rename_i hk
      rw [if_neg hk] at h2
      exact cells_inj hl hi h1 h2

theorem newEnv_comp {M : Model} {A : Around} {E : Value → Shared → Prop} {s : Shared} {scope : Scope} {globals : Addr} {closure : List (Str × Addr)} {qual : Str} {func : Option Addr} {code : Value} {around : Env} {builtins : Addr} {Q : Env → Shared → Prop}
    (h : Q (newEnv scope s.heap.objs.size globals (cellsFrom (s.heap.objs.size + 1) scope.names closure) qual func code (some around) builtins)
      { s with heap := pushCells (s.heap.push { cls := .type "dict", data := .dict #[] }) scope.names }) :
    wpAny M A (newFunctionEnv scope globals closure [] qual func code (some around) builtins) Q E s := by
  simp only [newFunctionEnv, Option.isSome_some, if_true]
  refine wpAny_bind (wpAny_alloc ?_)
  refine wpAny_bind (wpAny_layCells _ (fun n k c => rfl) scope.names closure _ _ ?_)
  rw [show ({ s with heap := s.heap.push { cls := .type "dict", data := .dict #[] } } : Shared).heap.objs.size = s.heap.objs.size + 1 from Heap.size_push ..]
  rw [List.forIn_nil]
  exact wpAny_bind (wpAny_pure (wpAny_pure h))

/-- every name of the written scope, in the scope that runs -/
theorem lookup_relS {sc : Scope} : ∀ {names : List (Str × NameKind)} {x : Str} {k : NameKind},
    (names.map fun (n, k) => if (k == NameKind.free && sc.kind == .function && sc.names.lookup n == some .cell) then (n, NameKind.cell) else (n, k)).lookup x = some k →
    ∃ k', names.lookup x = some k' ∧ (k = k' ∨ (k' = .free ∧ k = .cell))
  | [], _, _, h => by simp at h
  | (n, k₀) :: r, x, k, h => by
    have ih := @lookup_relS sc r x k
    have h' : List.lookup x ((if (k₀ == NameKind.free && sc.kind == .function && sc.names.lookup n == some .cell) = true then (n, NameKind.cell) else (n, k₀)) :: (r.map _)) = some k := h
    cases hx : x == n with
    | true =>
      simp only [List.lookup_cons, hx]
      by_cases hc : (k₀ == NameKind.free && sc.kind == .function && sc.names.lookup n == some .cell) = true
      · rw [if_pos hc] at h'
        simp only [List.lookup_cons, hx] at h'
        cases h'
        simp only [Bool.and_eq_true, beq_iff_eq] at hc
        exact ⟨k₀, rfl, .inr ⟨hc.1.1, rfl⟩⟩
      · rw [if_neg hc] at h'
        simp only [List.lookup_cons, hx] at h'
        cases h'
        exact ⟨_, rfl, .inl rfl⟩
    | false =>
      simp only [List.lookup_cons, hx]
      by_cases hc : (k₀ == NameKind.free && sc.kind == .function && sc.names.lookup n == some .cell) = true
      · rw [if_pos hc] at h'
        simp only [List.lookup_cons, hx] at h'
        exact ih h'
      · rw [if_neg hc] at h'
        simp only [List.lookup_cons, hx] at h'
        exact ih h'



/-- the names of a comprehension's block: its own (with their places in N), or captured -/
structure BlkOk (N : List Str) (sc scope : Scope) (own : List (Str × Nat)) : Prop where
  kind : scope.kind = .function
  uniq : ∀ y ∈ scope.names, scope.names.lookup y.1 = some y.2
  ix : ∀ p ∈ own, N[p.2]? = some p.1
  free : ∀ y ∈ scope.names, y.2 = .free → sc.names.lookup y.1 = some .cell ∨ sc.names.lookup y.1 = some .free
  own : ∀ y ∈ scope.names, y.2 = .local ∨ y.2 = .cell → y.1 ∈ own.map (·.1) ∨ y.1 ∉ N
/-- the slots of the block's own names forgotten -/
def wipe (σ : St) : List Nat → St
  | [] => σ
  | v :: vs => (wipe σ vs).set v none
theorem wipe_length (σ : St) : ∀ vs : List Nat, (wipe σ vs).length = σ.length
  | [] => rfl
  | v :: vs => by unfold wipe; rw [List.length_set, wipe_length σ vs]
theorem wipe_some {σ : St} {i : Nat} {x : V} : ∀ {vs : List Nat}, (wipe σ vs)[i]? = some (some x) → σ[i]? = some (some x) ∧ i ∉ vs
  | [], h => ⟨h, by simp⟩
  | v :: vs, h => by
    unfold wipe at h
    by_cases hi : v = i
    · subst hi
      by_cases hv : v < (wipe σ vs).length
      · rw [List.getElem?_set_self hv] at h; cases h
      · rw [List.getElem?_eq_none (by simpa using hv)] at h; cases h
    · rw [List.getElem?_set_ne hi] at h
      obtain ⟨h1, h2⟩ := wipe_some h
      exact ⟨h1, by simp only [List.mem_cons, not_or]; exact ⟨fun e => hi e.symm, h2⟩⟩

/-- the context of a block that starts at s, its iterator's objects at fp -/
abbrev Cx.blk (X : Cx) (s : Shared) (H : Hp) (scope : Scope) (cenv : Env) (fp : List Addr) : Cx := { X with s_0 := s, H_0 := H, env := cenv, outer := X.stack, ex := fp, fn := fun x => scope.names.lookup x == some .cell, pn := [], xe := fun _ _ => False }
section
variable {X : Cx} {pins : List (Addr × Obj)} {σ : St} {H : Hp} {s : Shared}
theorem block_start {scope : Scope} {own : List (Str × Nat)} {fp : List Addr} (I : Inv X pins σ H s) (ok : BlkOk X.N X.env.scope scope own) (hN : X.N.Nodup) (hfp : ∀ b ∈ fp, FpOk X pins H b ∧ b < s.heap.objs.size) :
    Inv (X.blk s H scope (compEnvC scope (cellsFrom (s.heap.objs.size + 1) scope.names (cloFrom X.env.cells scope.names [])) s.heap.objs.size X.env) fp) [] (wipe σ (own.map (·.2))) H { s with heap := pushCells (s.heap.push { cls := .type "dict", data := .dict #[] }) scope.names } := by
  have hfree : ∀ y ∈ scope.names, y.2 = .free → ∃ c, X.env.cells.lookup y.1 = some c := fun y hy e => by
    rcases ok.free y hy e with k | k
    · exact I.ok.has _ (.inl k)
    · exact I.ok.has _ (.inr k)
  generalize hcenv : compEnvC scope (cellsFrom (s.heap.objs.size + 1) scope.names (cloFrom X.env.cells scope.names [])) s.heap.objs.size X.env = cenv
  have kp : ∀ b o, s.heap.get? b = some o → (pushCells (s.heap.push { cls := .type "dict", data := .dict #[] }) scope.names).get? b = some o := fun b o e => pushCells_keeps _ _ _ _ (Heap.get?_push_of_some _ e)
  have hL : cenv.locals = s.heap.objs.size := by rw [← hcenv]; rfl
  have hcl : cenv.cells = cellsFrom (s.heap.objs.size + 1) scope.names (cloFrom X.env.cells scope.names []) := by rw [← hcenv]; rfl
  have hsc : cenv.scope = relS scope X.env.scope := by rw [← hcenv]; rfl
  rw [← Heap.size_push s.heap { cls := .type "dict", data := .dict #[] }] at hcl
  have cm : ∀ {y c}, (y, c) ∈ cloFrom X.env.cells scope.names [] → X.env.cells.lookup y = some c ∧ c < s.heap.objs.size := fun {y c} hm => by
    rcases cloFrom_mem hm with hm | ⟨h1, rfl⟩
    · cases hm
    · obtain ⟨c, hc⟩ := hfree _ h1 rfl
      rw [hc]
      obtain ⟨w, z⟩ := I.cell _ _ hc
      exact ⟨rfl, z.lt⟩
  have mem : ∀ {y c}, cenv.cells.lookup y = some c → (X.env.cells.lookup y = some c ∧ c < s.heap.objs.size) ∨ (s.heap.objs.size + 1 ≤ c ∧ CellAt (pushCells (s.heap.push { cls := .type "dict", data := .dict #[] }) scope.names) c none) := fun {y c} e => by
    rw [hcl] at e
    rcases cells_mem (PySem.mem_of_lookup e) with hm | ⟨_, h2, h3⟩
    · exact .inl (cm hm)
    · rw [Heap.size_push] at h2; exact .inr ⟨h2, h3⟩
  have look : ∀ {y}, scope.names.lookup y = some .free → ∃ c, cenv.cells.lookup y = some c ∧ X.env.cells.lookup y = some c := fun {y} hl => by
    have hy : (y, NameKind.free) ∈ scope.names := PySem.mem_of_lookup hl
    obtain ⟨c', e'⟩ := mem_lookup (cells_acc (names := scope.names) (n := (s.heap.push { cls := .type "dict", data := .dict #[] }).objs.size) (cloFrom_has (cells := X.env.cells) (acc := []) hy))
    rw [← hcl] at e'
    refine ⟨c', e', ?_⟩
    rw [hcl] at e'
    rcases cells_mem (PySem.mem_of_lookup e') with hm | ⟨h1, _, _⟩
    · exact (cm hm).1
    · have := ok.uniq _ h1
      rw [hl] at this; cases this
  have okB : (X.blk s H scope cenv fp).Ok := by
    refine ⟨I.ok.mod, by show cenv.scope.kind = _; rw [hsc]; exact ok.kind, by show cenv.globals = _; rw [← hcenv]; exact I.ok.glob, by show cenv.builtins = _; rw [← hcenv]; exact I.ok.blt, by show s.heap.objs.size ≤ cenv.locals; rw [hL]; exact Nat.le_refl _,
      fun y z c e1 e2 => ?_, fun y hy => ?_, fun y c z e => ?_, I.ok.hd, I.ok.frames, .inl rfl, fun b hb => ⟨?_, fun y c e z => ?_⟩, I.bs, Nat.le_trans I.ok.bsz I.sz, fun b o e hb => ?_, fun b hb z => ?_, I.stack, I.stkFree⟩
    · have e1 : cenv.cells.lookup y = some c := e1
      have e2 : cenv.cells.lookup z = some c := e2
      rw [hcl] at e1 e2
      refine cells_inj (fun p hp => ?_) (fun y z c a b => I.ok.inj y z c (cm a).1 (cm b).1) (PySem.mem_of_lookup e1) (PySem.mem_of_lookup e2)
      rw [Heap.size_push]
      exact Nat.lt_succ_of_lt (cm (y := p.1) (c := p.2) hp).2
    · show ∃ c, cenv.cells.lookup y = some c
      have key : ∀ k, cenv.kindOf y = some k → (k = .cell ∨ k = .free) → ∃ c, cenv.cells.lookup y = some c := fun k hk hk' => by
        unfold Env.kindOf at hk
        rw [hsc] at hk
        obtain ⟨k', e, r⟩ := lookup_relS hk
        have : k' = .cell ∨ k' = .free := by
          rcases r with rfl | ⟨rfl, _⟩
          · exact hk'
          · exact .inr rfl
        rcases this with rfl | rfl
        · obtain ⟨c, hm⟩ := cells_has (n := (s.heap.push { cls := .type "dict", data := .dict #[] }).objs.size) (acc := cloFrom X.env.cells scope.names []) (PySem.mem_of_lookup e)
          obtain ⟨c', e'⟩ := mem_lookup hm
          exact ⟨c', by rw [hcl]; exact e'⟩
        · obtain ⟨c, h1, _⟩ := look e
          exact ⟨c, h1⟩
      rcases hy with hy | hy
      · exact key _ hy (.inl rfl)
      · exact key _ hy (.inr rfl)
    · have z : (scope.names.lookup y == some NameKind.cell) = true := z
      have z : scope.names.lookup y = some .cell := by simpa using z
      have e : cenv.cells.lookup y = some c := e
      rw [hcl] at e
      rcases cells_mem (PySem.mem_of_lookup e) with hm | ⟨_, h2, _⟩
      · rcases cloFrom_mem hm with hm | ⟨h1, _⟩
        · cases hm
        · have q := ok.uniq _ h1
          rw [z] at q; cases q
      · rw [Heap.size_push] at h2
        exact Nat.le_of_succ_le h2
    · show b ≠ cenv.locals
      rw [hL]; exact Nat.ne_of_lt (hfp b hb).2
    · have e : cenv.cells.lookup y = some c := e
      rcases mem e with ⟨h1, _⟩ | ⟨h1, _⟩
      · exact (hfp b hb).1.2.2.2.2.1 y c h1 z
      · have h2 : s.heap.objs.size + 1 ≤ b := by rw [← z]; exact h1
        exact absurd (Nat.lt_of_lt_of_le (hfp b hb).2 (Nat.le_of_succ_le h2)) (Nat.lt_irrefl _)
    · rcases (hfp b hb).1.2.2.2.1 with z | z
      · exact I.ok.noex b o e z
      · exact absurd (Nat.lt_of_lt_of_le (Heap.lt_size e) (Nat.le_trans I.ok.bsz z)) (Nat.lt_irrefl _)
    · rcases List.mem_cons.mp (I.stkSub b z) with z | z
      · exact (hfp b hb).1.2.1 z
      · exact (hfp b hb).1.2.2.1 z
  refine ⟨okB, rfl, I.bare, Un.kept kp, ⟨fun _ => none, ?_, fun i y av e1 e2 e3 => ?_⟩, fun y c e => ?_, ?_, fun y c e => ?_, fun p hp => ?_, I.hok.kept kp, by rw [wipe_length]; exact I.len⟩
  · show Heap.Ns _ cenv.locals _
    rw [hL]
    exact Heap.Ns.keeps (Heap.Ns.new ..) fun b o e => pushCells_keeps _ _ _ _ e
  · obtain ⟨e2, hne⟩ := wipe_some e2
    have hfr : scope.names.lookup y = some .free ∧ (cenv.kindOf y = some .cell ∨ cenv.kindOf y = some .free) := by
      have key : ∀ k, cenv.scope.names.lookup y = some k → k = .local ∨ k = .cell ∨ k = .free → scope.names.lookup y = some .free ∧ (cenv.kindOf y = some .cell ∨ cenv.kindOf y = some .free) := fun k hk hk' => by
        have hk0 := hk
        rw [hsc] at hk
        obtain ⟨k', e, r⟩ := lookup_relS hk
        have no : ¬ (k' = .local ∨ k' = .cell) := fun hh => by
          rcases ok.own _ (PySem.mem_of_lookup e) hh with e' | e'
          · obtain ⟨p, hp, hpy⟩ := List.mem_map.mp e'
            have e3 := ok.ix p hp
            have : p.1 = y := hpy
            rw [this] at e3
            exact hne (List.mem_map.mpr ⟨p, hp, nodup_ix hN e3 e1⟩)
          · exact e' (List.mem_of_getElem? e1)
        rcases r with rfl | ⟨rfl, rfl⟩
        · rcases hk' with rfl | rfl | rfl
          · exact absurd (.inl rfl) no
          · exact absurd (.inr rfl) no
          · exact ⟨e, .inr hk0⟩
        · exact ⟨e, .inl hk0⟩
      have e3 : Vis cenv.scope y := e3
      rcases e3 with e3 | e3 | e3
      · exact key _ e3 (.inl rfl)
      · exact key _ e3 (.inr (.inl rfl))
      · exact key _ e3 (.inr (.inr rfl))
    obtain ⟨m, hn, hl⟩ := I.loc
    have hvis : Vis X.env.scope y := (ok.free _ (PySem.mem_of_lookup hfr.1) rfl).elim (fun k => .inr (.inl k)) (fun k => .inr (.inr k))
    obtain ⟨w, r, q⟩ := hl i y av e1 e2 hvis
    refine ⟨w, r, .inr ⟨hfr.2, ?_⟩⟩
    obtain ⟨c, h1, h2⟩ := look hfr.1
    rcases q with ⟨k, _⟩ | ⟨_, c', e', z⟩
    · have k : X.env.scope.names.lookup y = some .local := k
      rcases ok.free _ (PySem.mem_of_lookup hfr.1) rfl with k' | k' <;> rw [show X.env.scope.names.lookup y = _ from k'] at k <;> cases k
    · rw [h2] at e'; cases e'
      exact ⟨c, h1, z.keeps kp⟩
  · have e : cenv.cells.lookup y = some c := e
    rcases mem e with ⟨h1, _⟩ | ⟨_, z⟩
    · obtain ⟨w, z⟩ := I.cell y c h1
      exact ⟨w, z.keeps kp⟩
    · exact ⟨_, z⟩
  · show H cenv.locals = none
    rw [hL]; exact I.hok.fresh (Nat.le_refl _)
  · have e : cenv.cells.lookup y = some c := e
    rcases mem e with ⟨h1, _⟩ | ⟨h1, _⟩
    · exact I.freeC y c h1
    · exact I.hok.fresh (Nat.le_of_succ_le h1)
  · exact absurd (show p ∈ ([] : List (Addr × Obj)) ++ [] from hp) (by simp)

/-- an item appended to a tracked list -/
theorem app_ok {E : Value → Shared → Prop} {D : Addr} {xs : List V} {y : V} {v : Value} {Q : Value → Shared → Prop} (I : Inv X pins σ H s) (hD : H D = some (.lst xs)) (hz : xs.length < sizeLine) (r : RelV y v)
    (h : ∀ s', Inv X pins σ (upd H D (.lst (xs ++ [y]))) s' → Q .none s') : wpAny (model X.prog X.w) X.A (call (.builtin "list.append") [.ref D, v]) Q E s := by
  obtain ⟨hz', its, n, ri, e⟩ := I.hok D _ hD
  have hl := ri.length
  refine append_at (hsz := by rw [List.size_toArray]; omega) e fun h' sb ho' => ?_
  refine h { s with heap := h' } (I.write (t' := s.toks) (by rw [hD]; trivial) (.inl rfl) (fun b u hb q => (sb.2 b hb).trans q) ⟨_, ho'⟩ ⟨by rw [List.length_append]; exact hz, its ++ [v], n + 1, ri.append (.cons r .nil), ?_⟩)
  rw [ho']
  simp

/-- a clause's tests -/
def PTs (X : Cx) (ifs : List Expr) (t : TT) : Prop :=
  ∀ (pins : List (Addr × Obj)) (s : Shared) (σ : St) (H : Hp) (Q : Bool → Hp → Prop), Inv X pins σ H s → t σ H Q →
    wpAny (model X.prog X.w) X.A (forIn ifs true fun c r => if r = true then do let ok ← isTrue c X.env (eval c X.env); pure (ForInStep.yield ok) else pure (ForInStep.yield r)) (TP X pins σ Q) X.xe s
def tYes : TT := fun _ H Q => Q true H
theorem pts_nil : PTs X [] tYes := fun _ _ _ H _ I h => wpAny_tests_nil ⟨H, I, h⟩
theorem pts_one {c : Expr} {t : TT} (h : PT X c t) : PTs X [c] t := fun pins s σ H Q I hw => wpAny_tests_one (h pins s σ H Q I hw)
end

theorem thnF {α : Type} {t : Sem α} {Q Q' : α → Shared → Prop} {M : Model} {A : Around} {E : Value → Shared → Prop} {s : Shared} (h : wpAny M A t Q (fun _ _ => False) s) (hQ : ∀ a s, Q a s → Q' a s) : wpAny M A t Q' E s := wpAny_mono h hQ fun _ _ z => False.elim z

/-- the loop of a list comprehension's block, the target of any form (codeAny_compLoop_tests asks a target that no tuple goes to; statement and proof follow it, PyProof/CompMap.lean:41-61, with the step letOwnedTupleGo kept) -/
theorem compLoop_any {prog : Program} {w : World} {A : Around} {R : Result → Shared → Prop} {s : Shared} {elt target iter : Expr} {ifs : List Expr} {scope : Scope} {pos : Pos} {it acc : Value} {env : Env} (I : Nat → Shared → Prop)
    (turn : ∀ n s, I n s → wpAny (model prog w) A (pyNext it) (fun r s₁ => match r with
      | none => R (.ok .next) s₁
      | some v => wpAny (model prog w) A (letOwnedTupleGo target it v) (fun _ s₁' => wpAny (model prog w) A (assign target env v) (fun _ s₂ =>
          wpAny (model prog w) A (forIn ifs true fun c r => if r = true then do let ok ← isTrue c env (eval c env); pure (ForInStep.yield ok) else pure (ForInStep.yield r)) (fun ok s₃ =>
            if ok = true then wpAny (model prog w) A (eval elt env) (fun x s₄ =>
              wpAny (model prog w) A (call (.builtin "list.append") [acc, x]) (fun _ s₅ => ∃ m, m < n ∧ I m s₅) (notedBy (model prog w) A env fun e s' => R (.error e) s') s₄) (notedBy (model prog w) A env fun e s' => R (.error e) s') s₃
            else ∃ m, m < n ∧ I m s₃) (notedBy (model prog w) A env fun e s' => R (.error e) s') s₂) (notedBy (model prog w) A env fun e s' => R (.error e) s') s₁') (notedBy (model prog w) A env fun e s' => R (.error e) s') s₁) (notedBy (model prog w) A env fun e s' => R (.error e) s') s)
    (n : Nat) (h : I n s) :
    codeAny (model prog w) A (.compLoop (.ListComp elt [⟨target, iter, ifs, 0⟩] scope pos) 0 it acc env) R s := by
  refine codeAny_loop rfl I (fun n s hI => ?_) n h
  show wpAny _ A ((compTurn (.ListComp elt [⟨target, iter, ifs, 0⟩] scope pos) 0 it acc env).onRaise (fun x => do noteFrame x env; theTreesLotGoes x)) _ _ s
  refine wpAny_noted ?_
  rw [compTurn_list]
  refine wpAny_bind (wpAny_standAt (wpAny_bind (wpAny_mono (turn n s hI) (fun r s₁ h₁ => ?_) fun _ _ h' => h')))
  cases r with
  | none => exact wpAny_pure h₁
  | some v =>
    refine wpAny_bind (wpAny_mono h₁ (fun _ s₁' h₁' => ?_) fun _ _ h' => h')
    refine wpAny_bind (wpAny_mono h₁' (fun _ s₂ h₂ => wpAny_bind (wpAny_mono h₂ (fun ok s₃ h₃ => ?_) fun _ _ h' => h')) fun _ _ h' => h')
    cases ok with
    | false => exact wpAny_pure ⟨rfl, h₃⟩
    | true =>
      exact wpAny_bind (wpAny_bind (wpAny_mono h₃ (fun x s₄ h₄ => wpAny_bind (wpAny_mono h₄ (fun _ s₅ h₅ => wpAny_pure (wpAny_pure ⟨rfl, h₅⟩)) fun _ _ h' => h')) fun _ _ h' => h'))

section
variable {X : Cx}
/-- [elt for target in iter if ..]: D the new list; W by the turn and a measure, Nx what a turn is to reach -/
def tLc (wi : TI) (g : TG) (tt : TT) (te : TE) (vs : List Nat) : TE := fun σ H Q => wi σ H fun J H1 => ∀ D, H1 D = none → ∃ W : Nat → Nat → Hp → Prop, (∃ m, W 0 m (upd H1 D (.lst []))) ∧ ∀ i m H, W i m H →
  (J.stop i H ∧ Q (.ref D) H) ∨ (J.go i H ∧ ∃ Nx : Hp → Prop, (∀ H', Nx H' → ∃ m', m' < m ∧ W (i + 1) m' H') ∧ ∀ x H', J.yld i H x H' → g x (wipe σ vs) H' fun σ2 H2 => wipe σ2 vs = wipe σ vs ∧ tt σ2 H2 fun b H3 =>
    if b = true then te σ2 H3 fun y H4 => ∃ acc, H4 D = some (.lst acc) ∧ acc.length < sizeLine ∧ Nx (upd H4 D (.lst (acc ++ [y]))) else Nx H3)
theorem lc_core {pins : List (Addr × Obj)} {s : Shared} {σ : St} {H : Hp} {Q : VK} {elt tg iter : Expr} {ifs : List Expr} {scope : Scope} {own : List (Str × Nat)} {pos pos' : Pos} {wi : TI} {g : TG} {tt : TT} {te : TE} {use : Option (Value → Sem Unit)} {Qf : Value → Shared → Prop}
    (hc : X.calm = true) (hN : X.N.Nodup) (I : Inv X pins σ H s) (hi : PI X tg iter wi) (ok : BlkOk X.N X.env.scope scope own)
    (hg : ∀ (s : Shared) (H : Hp) (C : Addr) (cl : List (Str × Addr)) (fp : List Addr), PG (X.blk s H scope (compEnvC scope cl C X.env) fp) tg g) (ht : ∀ (s : Shared) (H : Hp) (C : Addr) (cl : List (Str × Addr)) (fp : List Addr), PTs (X.blk s H scope (compEnvC scope cl C X.env) fp) ifs tt)
    (he : ∀ (s : Shared) (H : Hp) (C : Addr) (cl : List (Str × Addr)) (fp : List Addr), PE (X.blk s H scope (compEnvC scope cl C X.env) fp) elt te) (hs : ∀ x, foldedSetIterable iter X.env x = pure x)
    (h : tLc wi g tt te (own.map (·.2)) σ H Q)
    (hRR : ∀ D C s' m H', Inv X pins σ H' s' → Q (.ref D) H' → s'.heap.Ns C m → FpOk X pins H' C → compPost (model X.prog X.w) X.A X.xe use Qf (.ref D) C (.ok .next) s') :
    wpAny (model X.prog X.w) X.A (comprehension (.ListComp elt [⟨tg, iter, ifs, 0⟩] scope pos) scope X.env pos' (newList []) false (eval iter X.env) use) Qf X.xe s := by
  have hfree : ∀ y ∈ scope.names, y.2 = .free → ∃ c, X.env.cells.lookup y.1 = some c := fun y hy e => by
    rcases ok.free y hy e with k | k
    · exact I.ok.has _ (.inl k)
    · exact I.ok.has _ (.inr k)
  refine wpAny_comprehension_free (use := use) rfl hs (closure_ok hfree) ok.kind (fun y hy e => by rw [ok.uniq y hy, e])
    (thn (hi pins s σ H _ I h) fun xv s1 hx => thn hx fun itv s2 h2 => ?_)
  obtain ⟨it, fp, tn, J, H2, e, I2, T, st2, f2, q⟩ := h2
  subst e
  refine wpAny_newObj_type (newEnv_comp ?_) (by show 0 ≤ sizeLine; decide)
  generalize hD : s2.heap.objs.size = D
  have hDn : H2 D = none := I2.hok.fresh (Nat.le_of_eq hD)
  obtain ⟨W, ⟨m0, w0⟩, turn⟩ := q D hDn
  -- the new list
  generalize hs3 : ({ s2 with heap := s2.heap.push { cls := .type "list", data := .seq ([] : List Value).toArray } } : Shared) = s3
  have I3 : Inv X pins σ (upd H2 D (.lst [])) s3 := by
    rw [← hs3]
    refine I2.laid (t' := s2.toks) (fun b o e => Heap.get?_push_of_some _ e) (Nat.le_of_eq hD) ⟨Nat.zero_le _, [], 0, .nil, ?_⟩
    rw [← hD]
    exact Heap.get?_push_size _ rfl
  have h3 : s3.heap = s2.heap.push { cls := .type "list", data := .seq ([] : List Value).toArray } := by rw [← hs3]
  have sz : ∀ b ∈ fp, b < s2.heap.objs.size := fun b hb => by
    obtain ⟨o, e, _⟩ := T.obj _ _ st2 b hb
    exact Heap.lt_size e
  have f3 : ∀ b ∈ fp, FpOk X pins (upd H2 D (.lst [])) b ∧ b < s3.heap.objs.size := fun b hb => by
    have hlt := sz b hb
    refine ⟨⟨?_, (f2 b hb).2⟩, by rw [h3, Heap.size_push]; exact Nat.lt_succ_of_lt hlt⟩
    rw [upd_ne (by rw [← hD]; exact Nat.ne_of_lt hlt)]
    exact (f2 b hb).1
  have st3 : tn 0 s3.heap := T.keep _ _ _ st2 fun b _ o e => by rw [h3]; exact Heap.get?_push_of_some _ e
  have I4 := block_start I3 ok hN f3
  have pg := hg s3 (upd H2 D (.lst [])) s3.heap.objs.size (cellsFrom (s3.heap.objs.size + 1) scope.names (cloFrom X.env.cells scope.names [])) fp
  have pt := ht s3 (upd H2 D (.lst [])) s3.heap.objs.size (cellsFrom (s3.heap.objs.size + 1) scope.names (cloFrom X.env.cells scope.names [])) fp
  have pe := he s3 (upd H2 D (.lst [])) s3.heap.objs.size (cellsFrom (s3.heap.objs.size + 1) scope.names (cloFrom X.env.cells scope.names [])) fp
  show codeAny _ _ (.compStart (.ListComp elt [⟨tg, iter, ifs, 0⟩] scope pos) 0 (.ref it) (.ref D) (compEnvC scope (cellsFrom (s3.heap.objs.size + 1) scope.names (cloFrom X.env.cells scope.names [])) s3.heap.objs.size X.env)) (compPost (model X.prog X.w) X.A X.xe use Qf (.ref D) s3.heap.objs.size) { s3 with heap := pushCells (s3.heap.push { cls := .type "dict", data := .dict #[] }) scope.names }
  have nfp : ∀ b ∈ fp, (upd H2 D (.lst [])) b = none := fun b hb => (f3 b hb).1.1
  generalize hce : compEnvC scope (cellsFrom (s3.heap.objs.size + 1) scope.names (cloFrom X.env.cells scope.names [])) s3.heap.objs.size X.env = ce at I4 pg pt pe ⊢
  have cL : ce.locals = s3.heap.objs.size := by subst hce; rfl
  generalize hH3 : upd H2 D (.lst []) = H3 at I3 I4 pg pt pe w0 nfp f3
  generalize hs4 : ({ s3 with heap := pushCells (s3.heap.push { cls := .type "dict", data := .dict #[] }) scope.names } : Shared) = s4 at I4 ⊢
  have st4 : tn 0 s4.heap := T.keep _ _ _ st3 fun b _ o e => by rw [← hs4]; exact pushCells_keeps _ _ _ _ (Heap.get?_push_of_some _ e)
  have stat : ∀ {σ' : St} {H' : Hp} {s' : Shared}, Inv (X.blk s3 H3 scope ce fp) [] σ' H' s' → (∀ b ∈ fp, H' b = none) → ∀ b ∈ fp, FpOk (X.blk s3 H3 scope ce fp) [] H' b := fun {σ' H' s'} I' hn b hb =>
    ⟨hn b hb, (I'.ok.exf b hb).1, I'.ok.exfs b hb, .inl hb, fun x c e => (I'.ok.exf b hb).2 x c e, fun p hp => absurd (show p ∈ ([] : List (Addr × Obj)) ++ [] from hp) (by simp)⟩
  have loop : codeAny (model X.prog X.w) X.A (.compLoop (.ListComp elt [⟨tg, iter, ifs, 0⟩] scope pos) 0 (.ref it) (.ref D) ce) (compPost (model X.prog X.w) X.A X.xe use Qf (.ref D) s3.heap.objs.size) s4 := by
    refine compLoop_any (fun n s' => ∃ i H', Inv (X.blk s3 H3 scope ce fp) [] (wipe σ (own.map (·.2))) H' s' ∧ tn i s'.heap ∧ (∀ b ∈ fp, H' b = none) ∧ W i n H') ?_ m0 ⟨0, H3, I4, st4, nfp, w0⟩
    rintro n s5 ⟨i, H5, I5, st5, n5, w5⟩
    rcases turn i n H5 w5 with ⟨stop, qq⟩ | ⟨go, Nx, hNx, step⟩
    · have td := T.done (X.blk s3 H3 scope ce fp) rfl rfl rfl hc i [] s5 _ H5 (fun _ _ => False) I5 (stat I5 n5) st5 stop
      refine thnF td fun r s6 ⟨hr, I6⟩ => ?_
      subst hr
      -- back in the def's context
      have I7 : Inv X pins σ H5 s6 := I3.call' (ch := fp) I6.os I6.base I6.hok I6.bare fun b hb => ⟨(f3 b hb).1.2.2.2.1, (f3 b hb).1.2.1, (f3 b hb).1.2.2.2.2.1, (f3 b hb).1.2.2.2.2.2⟩
      have nC : H5 s3.heap.objs.size = none := by
        have z : H5 ce.locals = none := I6.free
        rw [cL] at z
        exact z
      obtain ⟨m, hn, _⟩ := I6.loc
      have hn : s6.heap.Ns ce.locals m := hn
      rw [cL] at hn
      exact hRR D s3.heap.objs.size s6 m H5 I7 qq hn (I3.fpOk (Nat.le_refl _) nC)
    · have ti := T.item (X.blk s3 H3 scope ce fp) rfl rfl rfl hc i [] s5 _ H5 (fun _ _ => False) I5 (stat I5 n5) st5 go
      refine thnF ti fun r s6 ⟨u, hr, h6⟩ => ?_
      subst hr
      refine thnF h6 fun _ s7 ⟨x, H7, I7, r7, y7, st7, n7⟩ => ?_
      have I7' := I7.pinned (stat I7 n7) (T.obj _ _ st7)
      refine thnF (pg _ s7 _ H7 x u _ I7' r7 (step x H7 y7)) fun _ s8 ⟨σ8, H8, I8, hw8, q8⟩ => ?_
      refine thnF (pt _ s8 σ8 H8 _ I8 q8) fun b s9 ⟨H9, I9, q9⟩ => ?_
      -- the turn's end
      have fin : ∀ {s' : Shared} {H' : Hp}, Inv (X.blk s3 H3 scope ce fp) ([] ++ pinsAt fp s7.heap) σ8 H' s' → Nx H' → ∃ m, m < n ∧ ∃ i H', Inv (X.blk s3 H3 scope ce fp) [] (wipe σ (own.map (·.2))) H' s' ∧ tn i s'.heap ∧ (∀ b ∈ fp, H' b = none) ∧ W i m H' := fun {s' H'} I' nx => by
        obtain ⟨m', hm, w'⟩ := hNx H' nx
        have pin' : ∀ b ∈ fp, ∀ o, s7.heap.get? b = some o → s'.heap.get? b = some o ∧ H' b = none := fun b hb o e =>
          let z := I'.pin (b, o) (List.mem_append_right _ (List.mem_append_right _ (mem_pinsAt hb e)))
          ⟨z.1, z.2.1⟩
        have hl : (wipe σ (own.map (·.2))).length = σ8.length := by rw [← hw8, wipe_length]
        refine ⟨m', hm, i + 1, H', (I'.unpinned (pins := [])).weak hl (fun j v e => ?_), T.keep _ _ _ st7 fun b hb o e => (pin' b hb o e).1, fun b hb => ?_, w'⟩
        · rw [← hw8] at e
          exact (wipe_some e).1
        · obtain ⟨o, e, _⟩ := T.obj _ _ st7 b hb
          exact (pin' b hb o e).2
      cases b with
      | false =>
        simp only [Bool.false_eq_true, if_false] at q9 ⊢
        exact fin I9 q9
      | true =>
        simp only [if_true] at q9 ⊢
        refine thnF (pe _ s9 σ8 H9 _ I9 q9) fun z s10 ⟨yv, H10, I10, r10, acc, hD10, hz10, nx⟩ => ?_
        exact app_ok (X := X.blk s3 H3 scope ce fp) I10 hD10 hz10 r10 fun s11 I11 => fin I11 nx
  exact codeAny_compStart_list loop (T.self X.A 0 _ _ _ st4 loop)
/-- as a value -/
theorem pe_lc {elt tg iter : Expr} {ifs : List Expr} {scope : Scope} {own : List (Str × Nat)} {pos : Pos} {wi : TI} {g : TG} {tt : TT} {te : TE} (hc : X.calm = true) (hN : X.N.Nodup) (hi : PI X tg iter wi) (ok : BlkOk X.N X.env.scope scope own)
    (hg : ∀ (s : Shared) (H : Hp) (C : Addr) (cl : List (Str × Addr)) (fp : List Addr), PG (X.blk s H scope (compEnvC scope cl C X.env) fp) tg g) (ht : ∀ (s : Shared) (H : Hp) (C : Addr) (cl : List (Str × Addr)) (fp : List Addr), PTs (X.blk s H scope (compEnvC scope cl C X.env) fp) ifs tt)
    (he : ∀ (s : Shared) (H : Hp) (C : Addr) (cl : List (Str × Addr)) (fp : List Addr), PE (X.blk s H scope (compEnvC scope cl C X.env) fp) elt te) (hs : ∀ x, foldedSetIterable iter X.env x = pure x := by intro _; rfl) :
    PE X (.ListComp elt [⟨tg, iter, ifs, 0⟩] scope pos) (tLc wi g tt te (own.map (·.2))) := by
  intro pins s σ H Q I h
  rw [eval_ListComp]
  refine lc_core hc hN I hi ok hg ht he hs h fun D C s' m H' I' q hn f => ⟨m, hn, fun h'' sb => ?_⟩
  obtain ⟨f0, f1, f2, f3, f4, f5⟩ := f
  exact ⟨.ref D, H', I'.turned (t' := s'.toks) (fun b o hb e => (sb.2 b hb).trans e) f0 f1 f3 f4 f5, rfl, q⟩
/-- name = [..] on one line, the name a local -/
theorem ps_setLc {i : Nat} {y : Str} {py : Pos} {elt tg iter : Expr} {ifs : List Expr} {scope : Scope} {own : List (Str × Nat)} {pos spos : Pos} {wi : TI} {g : TG} {tt : TT} {te : TE} (hc : X.calm = true) (hN : X.N.Nodup) (hy : X.N[i]? = some y) (hyl : X.env.scope.names.lookup y = some .local)
    (hsw : swapsWith (.ListComp elt [⟨tg, iter, ifs, 0⟩] scope pos) (some (.Name y py)) spos.line X.env = pure true) (hi : PI X tg iter wi) (ok : BlkOk X.N X.env.scope scope own)
    (hg : ∀ (s : Shared) (H : Hp) (C : Addr) (cl : List (Str × Addr)) (fp : List Addr), PG (X.blk s H scope (compEnvC scope cl C X.env) fp) tg g) (ht : ∀ (s : Shared) (H : Hp) (C : Addr) (cl : List (Str × Addr)) (fp : List Addr), PTs (X.blk s H scope (compEnvC scope cl C X.env) fp) ifs tt)
    (he : ∀ (s : Shared) (H : Hp) (C : Addr) (cl : List (Str × Addr)) (fp : List Addr), PE (X.blk s H scope (compEnvC scope cl C X.env) fp) elt te) (hs : ∀ x, foldedSetIterable iter X.env x = pure x := by intro _; rfl) :
    PS X (.Assign [.Name y py] (.ListComp elt [⟨tg, iter, ifs, 0⟩] scope pos) spos) (tAsg (tLc wi g tt te (own.map (·.2))) (gName i)) := by
  intro pins s σ H D I h
  rw [exec_Assign_Name_used _ _ _ _ hsw]
  refine wpAny_bind (wpAny_standAt (wpAny_bind ?_))
  show wpAny _ X.A (do let _ ← comprehension (.ListComp elt [⟨tg, iter, ifs, 0⟩] scope pos) scope X.env (firstIterPos [⟨tg, iter, ifs, 0⟩] pos) (newList []) false (eval iter X.env) (some (assign (.Name y py) X.env))) _ _ s
  have h : tLc wi g tt te (own.map (·.2)) σ H (fun x H1 => gName i x σ H1 D.nx) := h
  refine wpAny_bind (thn (lc_core (Qf := fun _ s' => SP X pins D .next s') hc hN I hi ok hg ht he hs h fun L C s' m H' I' q hn f => ?_) fun _ s' hq => wpAny_pure (wpAny_pure hq))
  show wpAny _ _ (assign (.Name y py) X.env (.ref L)) _ _ _
  refine wpAny_assign_Name (store_ok2 (v := V.ref L) I' hN hy (.inl hyl) rfl (fun s2 I2 ⟨a, sb, ha⟩ => ?_) (.inr hyl))
  obtain ⟨f0, f1, f2, f3, f4, f5⟩ := f
  have haC : C ≠ a := by
    rcases ha with z | z
    · rw [z]; exact f1
    · exact fun e => f4 y a z e.symm
  refine ⟨m, hn.sameBut sb haC, fun h3 sb3 => ?_⟩
  exact ⟨_, H', I2.turned (t' := s2.toks) (fun b o hb e => (sb3.2 b hb).trans e) f0 f1 f3 f4 f5, q⟩
theorem sw_true {elt : Expr} {gs : List Comprehension} {scope : Scope} {pos py : Pos} {y : Str} {l : Nat} {env : Env} (hk : env.scope.kind = .function) (hy : env.scope.names.lookup y = some .local) (hl : (py.line == pos.line) = true)
    (ha : (scope.names.any fun (n, k) => n == y && (k == .local || k == .cell)) = false) : swapsWith (.ListComp elt gs scope pos) (some (.Name y py)) l env = pure true := by
  have ky : env.kindOf y = some .local := hy
  have hb : env.blockKind = .function := by unfold Env.blockKind; rw [hk]; rfl
  unfold swapsWith
  simp only [hb, ky, ha, Expr.pos, hl]
  rfl
end

/-! ### the forms one uses -/
def blkC (N : List Str) (sc scope : Scope) (own : List (Str × Nat)) : Bool :=
  (match scope.kind with | .function => true | _ => false) && (scope.names.all fun y => decide (scope.names.lookup y.1 = some y.2)) && (own.all fun p => decide (N[p.2]? = some p.1)) &&
    (scope.names.all fun y => match y.2 with
      | .free => (match sc.names.lookup y.1 with | some .cell => true | some .free => true | _ => false)
      | .local => decide (y.1 ∈ own.map (·.1)) || decide (y.1 ∉ N)
      | .cell => decide (y.1 ∈ own.map (·.1)) || decide (y.1 ∉ N)
      | _ => true)
theorem blkOk_by {N : List Str} {sc scope : Scope} {own : List (Str × Nat)} (h : blkC N sc scope own = true) : BlkOk N sc scope own := by
  unfold blkC at h
  simp only [Bool.and_eq_true, List.all_eq_true, decide_eq_true_eq] at h
  obtain ⟨⟨⟨h1, h2⟩, h3⟩, h4⟩ := h
  refine ⟨?_, h2, h3, fun y hy e => ?_, fun y hy e => ?_⟩
  · split at h1
    · assumption
    · cases h1
  · have q := h4 y hy
    simp only [e] at q
    split at q <;> first | exact .inl (by assumption) | exact .inr (by assumption) | cases q
  · have q := h4 y hy
    rcases e with e | e <;> (simp only [e, Bool.or_eq_true, decide_eq_true_eq] at q; exact q)
end L2

namespace L2
open PySem PySem.Spec PyProof.Rows


section
variable {prog : Program} {w : World} {A : Around} {R : Result → Shared → Prop} {s : Shared} {elt t0 i0 t1 i1 : Expr} {ifs0 ifs1 : List Expr} {scope : Scope} {pos : Pos} {it acc : Value} {env : Env}
end

section
variable {X : Cx}
end
end L2

namespace L2
open PySem PySem.Spec PyProof.Rows

/-! ### lists of pairs as tables -/
section
variable {κ : Type} [DecidableEq κ]



end


/-! ### a tracked dict, its keys ints and texts or tuples of these -/
theorem kV_is {P : Program} {w : World} {k : Key} {u : Value} (r : RelV (kV k) u) : (mixKind P w).is k u = true := by
  cases k with
  | inl i => obtain ⟨t, e⟩ := (show ∃ t, u = Value.int i t from r); subst e; exact mixKind_int P w i t
  | inr x => obtain ⟨t, e⟩ := (show ∃ t, u = Value.str x t from r); subst e; exact mixKind_str P w x t


section
variable {P : Program} {w : World} {H : Hp} {h : Heap} {a : Addr}
end



section
variable {X : Cx} {pins : List (Addr × Obj)} {σ : St} {H : Hp} {s : Shared} {a : Addr} {y v : V} {u r : Value} {o : Option V} {A : Around} {E : Value → Shared → Prop}


end

section
variable {X : Cx} {pins : List (Addr × Obj)} {σ : St} {H : Hp} {s : Shared} {a : Addr} {kvs : List (Key × V)} {k : Key} {u : Value} {A : Around} {E : Value → Shared → Prop}
end


/-! ### readings and rules -/
/-- the element of a subscription, not a slice -/
def NoSl (i : Expr) : Prop := ∀ ov iv, subscripted i false ov iv = operate [ov, iv] (getItem ov iv)
theorem subD_of {prog : Program} {w : World} {A : Around} {E : Value → Shared → Prop} {s : Shared} {env : Env} {value slice : Expr} {pos : Pos} {T id : String} {Q : Value → Shared → Prop}
    (hl : typeLookup (.type T) "__getitem__" = pure (some (.builtin id))) (hs : NoSl slice)
    (h : wpAny (model prog w) A (eval value env) (fun o s₁ => wpAny (model prog w) A (eval slice env) (fun i s₂ => s₂.TypeIs o T ∧ wpAny (model prog w) A (getItem o i) Q E s₂) E s₁) E s) :
    wpAny (model prog w) A (eval (.Subscript value slice pos) env) Q E s := by
  refine Subscript_ (wpAny_mono h (fun o s₁ h₁ => wpAny_mono h₁ (fun i s₂ h₂ => ?_) fun _ _ x => x) fun _ _ x => x)
  obtain ⟨hT, h₂⟩ := h₂
  unfold subscriptTail
  refine wpAny_bind ?_
  rw [getitemInPython_of_ne hT.not_modules]
  refine wpAny_bind (wpAny_specialOf hT hl ?_)
  have fin : wpAny (model prog w) A (subscripted slice false o i) (fun r s₃ => wpAny (model prog w) A (letTemporaryGo value o r >>= fun _ => pure r) Q E s₃) E s₂ := by
    rw [hs o i]
    exact wpAny_operating (wpAny_mono h₂ (fun r s₃ h₃ => wpAny_bind (wpAny_letTemporaryGo (wpAny_pure h₃))) fun _ _ x => x)
  first
    | exact wpAny_pure (wpAny_bind fin)
    | exact wpAny_bind (wpAny_pure (wpAny_bind fin))
    | exact wpAny_bind fin



section
variable {X : Cx} {o i e value : Expr} {pos pos' tpos : Pos} {td ty tv : TE}
end


/-! ### displays -/
section
variable {X : Cx} {pos : Pos}
end




/-! ### methods -/


section
variable {X : Cx} {pins : List (Addr × Obj)} {σ : St} {H : Hp} {s : Shared} {a : Addr} {y d : V} {u r : Value} {o : Option V} {A : Around} {E : Value → Shared → Prop}
end

section
variable {X : Cx} {o e f : Expr} {apos cpos : Pos} {td ty tx : TE}
end

/-! ### dict(d): a copy -/
section
variable {X : Cx} {pins : List (Addr × Obj)} {σ : St} {H : Hp} {s : Shared} {a : Addr} {kvs : List (Key × V)} {A : Around} {E : Value → Shared → Prop}
end


section
variable {X : Cx} {pins : List (Addr × Obj)} {σ : St} {H : Hp} {s : Shared} {a : Addr} {y : V} {u : Value} {A : Around} {E : Value → Shared → Prop}
end
end L2

namespace L2
open PySem PySem.Spec PyProof.Rows


section
variable {prog : Program} {w : World} {A : Around} {E : Value → Shared → Prop}


end

section
variable {X : Cx}
end
end L2

namespace L2
open PySem PySem.Spec PyProof.Rows

theorem boot_reversed5 : bootBuiltins "reversed" = some (.type "reversed") := by decide +kernel

section
variable {X : Cx} {pins : List (Addr × Obj)} {σ : St} {H : Hp} {s : Shared} {h' : Heap}
/-- several records of ours have turned -/
theorem Inv.turnedL {t' : Nat} {ch : List Addr} (I : Inv X pins σ H s) (k : ∀ b o, b ∉ ch → s.heap.get? b = some o → h'.get? b = some o) (hf : ∀ b ∈ ch, FpOk X pins H b) : Inv X pins σ H { s with heap := h', toks := t' } := by
  have nit : ∀ b u, H b = some u → b ∉ ch := fun b u e z => by
    have q := (hf b z).1
    rw [q] at e; cases e
  refine I.step (g' := s.gens) (d' := s.drawn) (ch := ch) (fun b hb => ⟨(hf b hb).2.2.2.1, (hf b hb).2.1, (hf b hb).2.2.2.2.1, (hf b hb).2.2.2.2.2⟩) (fun b o _ _ hc e _ => k b o hc e) (fun b o _ _ hc e _ => ⟨o.slots, k b o hc e⟩)
    (fun _ _ _ _ n => n) (fun b o hc e => ⟨o, k b o hc e⟩) (fun _ _ e => e) (fun _ _ _ e => e) (fun b ps e => ⟨#[], by rw [e]; simp⟩) (fun m hm => ?_) (fun b u e => ?_) I.bare
  · obtain ⟨o, es, ep, ho, r⟩ := hm
    exact ⟨o, es, ep, k _ o (fun z => (hf _ z).2.1 rfl) ho, r⟩
  · refine (I.hok b u e).stay (fun c v hc q => k c v ?_ q) (fun _ q => q) fun _ _ q => q
    rcases hc with z | z
    · rw [z]; exact nit b u e
    · exact nit c _ z
/-- .. and one new object is laid -/
theorem Inv.turnedNew {t' : Nat} {ch : List Addr} {T : Addr} {ob : HO} (I : Inv X pins σ H s) (k : ∀ b o, b ∉ ch → s.heap.get? b = some o → h'.get? b = some o) (hf : ∀ b ∈ ch, FpOk X pins H b) (hT : s.heap.objs.size ≤ T)
    (new : ObjOk X.prog X.w (upd H T ob) h' T ob) : Inv X pins σ (upd H T ob) { s with heap := h', toks := t' } := by
  have hn : H T = none := I.hok.fresh hT
  have nit : ∀ b u, H b = some u → b ∉ ch := fun b u e z => by
    have q := (hf b z).1
    rw [q] at e; cases e
  refine I.step (g' := s.gens) (d' := s.drawn) (ch := ch) (fun b hb => ⟨(hf b hb).2.2.2.1, (hf b hb).2.1, (hf b hb).2.2.2.2.1, (hf b hb).2.2.2.2.2⟩) (fun b o _ _ hc e _ => k b o hc e) (fun b o _ _ hc e _ => ⟨o.slots, k b o hc e⟩)
    (fun b o _ e n => ?_) (fun b o hc e => ⟨o, k b o hc e⟩) (fun b xs e => ?_) (fun b o u e => ?_) (fun b ps e => ⟨#[], ?_⟩) (fun m hm => ?_) (fun b u e => ?_) I.bare
  · rw [upd_ne (Nat.ne_of_lt (Nat.lt_of_lt_of_le (Heap.lt_size e) hT))]; exact n
  · rw [upd_ne (ne_of_none e hn)]; exact e
  · rw [upd_ne (ne_of_none e hn)]; exact e
  · rw [upd_ne (ne_of_none e hn), e]; simp
  · obtain ⟨o, es, ep, ho, r⟩ := hm
    exact ⟨o, es, ep, k _ o (fun z => (hf _ z).2.1 rfl) ho, r⟩
  · by_cases hb : b = T
    · subst hb
      rw [upd_same] at e
      cases e
      exact new
    · rw [upd_ne hb] at e
      refine (I.hok b u e).stay (fun c v hc q => k c v ?_ q) (fun c q => by rw [upd_ne (ne_of_none q hn)]; exact q) fun c xs q => by rw [upd_ne (ne_of_none q hn)]; exact q
      rcases hc with z | z
      · rw [z]; exact nit b u e
      · exact nit c _ z

/-! ### locking a thing while a statement runs -/
end
section
variable {X : Cx}

/-! ### one iterator just laid -/
theorem pi_one {tg : Expr} {pins : List (Addr × Obj)} {σ : St} {H : Hp} {s : Shared} {R : It → Hp → Prop} {J : It} {tn : Nat → Heap → Prop} {tk : Nat} (I : Inv X pins σ H s) (o : Obj)
    (T : Turn X.prog X.w X.K tg J [s.heap.objs.size] s.heap.objs.size tn) (st : tn 0 (s.heap.push o)) (q : R J H) : PIE X pins σ tg R (.ref s.heap.objs.size) { s with heap := s.heap.push o, toks := tk } := by
  refine ⟨s.heap.objs.size, [s.heap.objs.size], tn, J, H, rfl, I.kept fun b ob e => Heap.get?_push_of_some _ e, T, st, fun b hb => ?_, q⟩
  have e : b = s.heap.objs.size := by simpa using hb
  subst e
  exact I.fpOk (Nat.le_refl _) (I.hok.fresh (Nat.le_refl _))
end

/-! ### range with a step -/
/-- lo, lo + c, .. (n of them) -/
def Itc (lo c : Int) (n : Nat) : It := ⟨fun i _ => i < n, fun i H x H' => H' = H ∧ x = .int (lo + (i : Nat) * c), fun i _ => n ≤ i⟩
theorem turn_rangeC {P : Program} {w : World} {K : PySem.W.Frag} {tg : Expr} (it : Addr) (lo c : Int) (n : Nat) : Turn P w K tg (Itc lo c n) [it] it (fun i h => IsRangeIter h it (lo + (i : Nat) * c) ((n : Int) - (i : Nat)) c) where
  mem := by simp
  obj := fun i h st b hb => by
    have e : b = it := by simpa using hb
    subst e
    exact ⟨_, st, fun v z => nomatch z⟩
  keep := fun i h h' st k => k it (by simp) _ st
  item := by
    intro X hP hw hK hc i pins s σ H E I hf st hg
    subst hP hw hK
    obtain ⟨f0, f1, f2, f3, f4, f5⟩ := hf it (by simp)
    have W := Walks.range (prog := X.prog) (w := X.w) (I.ok.hd hc) it lo c n
    refine W.item i s _ _ hg st fun v h' tk hv st' kk => ?_
    obtain ⟨t, rfl⟩ := hv
    have I1 : Inv X pins σ H { s with heap := h', toks := tk } := I.turned (fun b o hb e => kk b o (by simpa using hb) e) f0 f1 f3 f4 f5
    exact ⟨_, rfl, go_of (s := { s with heap := h', toks := tk }) (n := "range_iterator") st' rfl rfl (by decide) ⟨.int (lo + (i : Nat) * c), H, I1, ⟨t, rfl⟩, ⟨rfl, rfl⟩, st', fun b hb => (hf b hb).1⟩⟩
  done := by
    intro X hP hw hK hc i pins s σ H E I hf st hg
    subst hP hw hK
    obtain ⟨f0, f1, f2, f3, f4, f5⟩ := hf it (by simp)
    exact wpAny_pyNext_range_end (I.ok.hd hc) st (by have : n ≤ i := hg; omega) fun h' eb => ⟨rfl, I.turned (t' := s.toks) (fun b o hb e => eb b o hb e) f0 f1 f3 f4 f5⟩
  self := fun A i s Q E st h => wpAny_pyIter_rangeiter st h
/-- range(i, j, c): small bounds, n items -/
def RgC (i j c : Int) (n : Nat) : Prop := c ≠ 0 ∧ c.natAbs < 1073741824 ∧ Builtin.Range.small i j c = true ∧ Builtin.Range.rangeSize i j c = n
theorem RgC.neg {i j : Int} (ha : -(2 ^ 62) ≤ i) (ha' : i < 2 ^ 62) (hb : -(2 ^ 62) ≤ j) (hb' : j < 2 ^ 62) : RgC i j (-1) (i - j).toNat :=
  ⟨by decide, by decide, PySem.W.small_down ha ha' hb hb', PySem.W.rangeSize_downNat i j⟩
def iRng3 (ta : TA) : TI := fun σ H R => ta σ H fun vs H1 => ∃ (i j c : Int) (n : Nat), vs = [.int i, .int j, .int c] ∧ RgC i j c n ∧ R (Itc i c n) H1
section
variable {X : Cx} {tg : Expr}
theorem pi_range3 {a b c : Expr} {ta : TA} {p pos : Pos} (hg : Gl X "range") (hm : X.mg "range" = none) (ha : PA X [a, b, c] ta)
    (hs : starEach [a, b, c] X.env = (false, eval a X.env) :: starEach [b, c] X.env := by rfl) (hpl : (backTo pos (starEach [b, c] X.env)).any (·.1) = false := by rfl) :
    PI X tg (.Call (.Name "range" p) [a, b, c] [] pos) (iRng3 ta) := by
  intro pins s σ H R I h
  refine Call_ (ld_blt I hg hm boot_range (PyProof.Rows.callWith_type1 (thn (ha pos pins s σ H _ I h) fun us s1 ⟨vs, H1, I1, r1, q1⟩ => ?_) hs hpl))
  obtain ⟨i, j, k, n, e, ⟨c0, c1, c2, c3⟩, q⟩ := q1
  subst e
  cases r1 with
  | cons r rr =>
    cases rr with
    | cons r' rr =>
      cases rr with
      | cons r'' rr =>
        cases rr
        obtain ⟨t, rfl⟩ := r
        obtain ⟨t', rfl⟩ := r'
        obtain ⟨t'', rfl⟩ := r''
        refine call_range_3 c0 ?_ (.inl (PyProof.noPylong_small c1))
        refine wpAny_pyIter_range (IsRange.new ..) c2 ?_
        have I2 : Inv X pins σ H1 { s1 with heap := s1.heap.push { cls := .type "range", data := .fields #[.int i t, .int j t', .int k t''] } } := I1.kept (t' := s1.toks) fun b o e => Heap.get?_push_of_some _ e
        refine pi_one (tk := s1.toks) I2 _ (turn_rangeC _ i k n) ?_ q
        have e1 : i + ((0 : Nat) : Int) * k = i := by simp
        have e2 : (n : Int) - ((0 : Nat) : Int) = Builtin.Range.rangeSize i j k := by rw [c3]; simp
        show IsRangeIter _ _ (i + ((0 : Nat) : Int) * k) ((n : Int) - ((0 : Nat) : Int)) k
        rw [e1, e2]
        exact Heap.get?_push_size _ rfl
end

/-! ### reversed(list) -/
section
variable {X : Cx} {tg : Expr}
end

/-! ### a str -/

/-! ### a dict's keys: any dict's entries -/
section
variable {prog : Program} {w : World} {A : Around} {E : Value → Shared → Prop} {s : Shared}
end

/-! ### a locked dict -/
section
variable {X : Cx} {pins : List (Addr × Obj)} {σ : St} {H : Hp} {s : Shared} {d : Addr} {o : Obj}
end

section
variable {P : Program} {w : World} {K : PySem.W.Frag} {tg : Expr} {d : Addr} {o : Obj} {es : Array DictEntry} {ep : Nat}
end

/-! ### for k in d, d.keys(), d.values(), d.items() -/
section
variable {X : Cx} {tg e : Expr} {td : TE} {apos cpos : Pos}
end

/-! ### enumerate(list) -/
/-- the list at a as it stands at each turn, each item in a new pair -/
def Ite (K : PySem.W.Frag) (a : Addr) : It :=
  ⟨fun i H => ∃ (xs : List V) (x : V), SqL K H a xs ∧ xs[i]? = some x, fun i H v H' => ∃ T x, v = .ref T ∧ H T = none ∧ H' = upd H T (.tup [.int (i : Nat), x]) ∧ ∀ xs, SqL K H a xs → xs[i]? = some x, fun i H => ∃ xs : List V, SqL K H a xs ∧ xs.length ≤ i⟩
theorem turn_enum {P : Program} {w : World} {K : PySem.W.Frag} {elts : List Expr} {kk : Nat} {tpos : Pos} (a e it : Addr) :
    Turn P w K (.Tuple elts kk tpos) (Ite K a) [e, it] e (fun i h => (∃ old, IsEnum h e it ((i : Nat) : Int) old) ∧ h.IsListIter it a i ∧ e ≠ it) where
  mem := by simp
  obj := fun i h st b hb => by
    obtain ⟨⟨old, he⟩, ⟨o, ho, hc, hd⟩, _⟩ := st
    have e' : b = e ∨ b = it := by simpa using hb
    rcases e' with z | z
    · rw [z]; exact ⟨_, he, fun v q => nomatch q⟩
    · rw [z]; exact ⟨o, ho, fun v q => by rw [hd] at q; cases q⟩
  keep := fun i h h' st k => let ⟨⟨old, he⟩, hi, hne⟩ := st; ⟨⟨old, k e (by simp) _ he⟩, hi.at fun o q => k it (by simp) o q, hne⟩
  item := by
    intro X hP hw hK hc i pins s σ H E I hf st hg
    subst hP hw hK
    obtain ⟨⟨old, he⟩, hit, hne⟩ := st
    obtain ⟨xs, x, hq, hx⟩ := hg
    obtain ⟨its, rv, p, hz⟩ := I.list hq
    obtain ⟨u, hu, ru⟩ := rv.get hx
    have hel : e < s.heap.objs.size := Heap.lt_size he
    have hil : it < s.heap.objs.size := by obtain ⟨_, q, _⟩ := hit; exact Heap.lt_size q
    refine wpAny_pyNext_enum_item he hit p.isList (x := u) (by simpa using hu) hne fun h' ho hit' hT hsz hk => ?_
    refine ⟨_, rfl, wpAny_letOwnedTupleGo_enum (s := { s with heap := h', toks := s.toks + 1 }) ho fun h'' he' sb => ?_⟩
    have hT2 : h''.get? s.heap.objs.size = some { cls := .type "tuple", data := .seq #[.int i s.toks, u] } := (sb.2 _ (Nat.ne_of_gt hel)).trans hT
    have new : ObjOk X.prog X.w (upd H s.heap.objs.size (.tup [.int (i : Nat), x])) h'' s.heap.objs.size (.tup [.int (i : Nat), x]) :=
      ⟨by show 2 ≤ sizeLine; decide, [.int i s.toks, u], .cons ⟨_, rfl⟩ (.cons ru .nil), ⟨_, hT2, rfl, _, rfl⟩⟩
    have I1 : Inv X pins σ (upd H s.heap.objs.size (.tup [.int (i : Nat), x])) { s with heap := h'', toks := s.toks + 1 } :=
      I.turnedNew (ch := [e, it]) (fun b ob hb q => (sb.2 b (fun z => hb (by simp [z]))).trans (hk b ob (fun z => hb (by simp [z])) (fun z => hb (by simp [z])) q)) hf (Nat.le_refl _) new
    refine ⟨.ref s.heap.objs.size, _, I1, rfl, ⟨_, x, rfl, I.hok.fresh (Nat.le_refl _), rfl, fun ys hy => by rw [I.list_inj hy hq]; exact hx⟩, ⟨⟨u, ?_⟩, hit'.at fun o q => (sb.2 it (Ne.symm hne)).trans q, hne⟩, fun b hb => ?_⟩
    · have e1 : ((i + 1 : Nat) : Int) = (i : Int) + 1 := by omega
      rw [e1]; exact he'
    · have hb' : b < s.heap.objs.size := by
        have e' : b = e ∨ b = it := by simpa using hb
        rcases e' with z | z
        · rw [z]; exact hel
        · rw [z]; exact hil
      rw [upd_ne (Nat.ne_of_lt hb')]
      exact (hf b hb).1
  done := by
    intro X hP hw hK hc i pins s σ H E I hf st hg
    subst hP hw hK
    obtain ⟨⟨old, he⟩, hit, hne⟩ := st
    obtain ⟨xs, hq, hx⟩ := hg
    obtain ⟨its, rv, p, hz⟩ := I.list hq
    obtain ⟨f0, f1, f2, f3, f4, f5⟩ := hf it (by simp)
    have hl := rv.length
    exact wpAny_pyNext_enum_end (I.ok.hd hc) he hit p.isList (by simp; omega) fun h' eb => ⟨rfl, I.turned (t' := s.toks) (fun b o hb q => eb b o hb q) f0 f1 f3 f4 f5⟩
  self := fun A i s Q E st h => let ⟨⟨_, he⟩, _⟩ := st; wpAny_pyIter_enum he h
def iEnum (K : PySem.W.Frag) (ta : TA) : TI := fun σ H R => ta σ H fun vs H1 => ∃ a xs, vs = [.ref a] ∧ SqL K H1 a xs ∧ R (Ite K a) H1
theorem pi_enum {X : Cx} {e : Expr} {ta : TA} {p pos tpos : Pos} {elts : List Expr} {kk : Nat} (hg : Gl X "enumerate") (hm : X.mg "enumerate" = none) (ha : PA X [e] ta) (hs : starEach [e] X.env = [(false, eval e X.env)] := by rfl) :
    PI X (.Tuple elts kk tpos) (.Call (.Name "enumerate" p) [e] [] pos) (iEnum X.K ta) := by
  intro pins s σ H R I h
  refine Call_ (ld_blt I hg hm boot_enumerate (PyProof.Rows.callWith_type1 (thn (ha pos pins s σ H _ I h) fun us s1 ⟨vs, H1, I1, r1, q1⟩ => ?_) hs rfl))
  obtain ⟨a, xs, ex, hq, q⟩ := q1
  subst ex
  cases r1 with
  | cons r rr =>
    cases rr
    cases r
    obtain ⟨its, rv, p', hz⟩ := I1.list hq
    refine call_enumerate_list p'.isList fun h' he hit hsz hk => wpAny_pyIter_enum he ?_
    have I2 : Inv X pins σ H1 { s1 with heap := h' } := I1.kept (t' := s1.toks) hk
    refine ⟨s1.heap.objs.size + 1, [s1.heap.objs.size + 1, s1.heap.objs.size], _, _, H1, rfl, I2, turn_enum a (s1.heap.objs.size + 1) s1.heap.objs.size, ⟨⟨.none, he⟩, hit, Nat.succ_ne_self _⟩, fun b hb => ?_, q⟩
    have e' : b = s1.heap.objs.size + 1 ∨ b = s1.heap.objs.size := by simpa using hb
    have hle : s1.heap.objs.size ≤ b := by
      rcases e' with z | z
      · rw [z]; exact Nat.le_add_right _ _
      · rw [z]; exact Nat.le_refl _
    exact I1.fpOk hle (I1.hok.fresh hle)
/-! ### zip(list, list) -/
theorem boot_zip5 : bootBuiltins "zip" = some (.type "zip") := by decide +kernel
/-- the lists at a and b as they stand at each turn, the items in new pairs -/
def Itz (K : PySem.W.Frag) (a b : Addr) : It :=
  ⟨fun i H => ∃ (xs ys : List V) (x y : V), SqL K H a xs ∧ SqL K H b ys ∧ xs[i]? = some x ∧ ys[i]? = some y,
    fun i H v H' => ∃ T x y, v = .ref T ∧ H T = none ∧ H' = upd H T (.tup [x, y]) ∧ (∀ xs, SqL K H a xs → xs[i]? = some x) ∧ ∀ ys, SqL K H b ys → ys[i]? = some y,
    fun i H => ∃ xs ys : List V, SqL K H a xs ∧ SqL K H b ys ∧ (xs.length ≤ i ∨ ys.length ≤ i)⟩
theorem turn_zip {P : Program} {w : World} {K : PySem.W.Frag} {elts : List Expr} {kk : Nat} {tpos : Pos} {a b z TI TO i1 i2 : Addr} (D : ZipApart z TI TO i1 i2 a b) :
    Turn P w K (.Tuple elts kk tpos) (Itz K a b) [z, TI, TO, i1, i2] z (fun i h => IsZip h z TI TO .none ∧ IsPair h TI (.ref i1) (.ref i2) ∧ (∃ x y, IsPair h TO x y) ∧ h.IsListIter i1 a i ∧ h.IsListIter i2 b i) where
  mem := by simp
  obj := fun i h st c hc => by
    obtain ⟨hz, hTI, ⟨x, y, hTO⟩, ⟨o1, e1, _, d1⟩, ⟨o2, e2, _, d2⟩⟩ := st
    have e' : c = z ∨ c = TI ∨ c = TO ∨ c = i1 ∨ c = i2 := by simpa using hc
    rcases e' with q | q | q | q | q
    · rw [q]; exact ⟨_, hz, fun v q => nomatch q⟩
    · rw [q]; exact ⟨_, hTI, fun v q => nomatch q⟩
    · rw [q]; exact ⟨_, hTO, fun v q => nomatch q⟩
    · rw [q]; exact ⟨o1, e1, fun v q => by rw [d1] at q; cases q⟩
    · rw [q]; exact ⟨o2, e2, fun v q => by rw [d2] at q; cases q⟩
  keep := fun i h h' st k => by
    obtain ⟨hz, hTI, ⟨x, y, hTO⟩, h1, h2⟩ := st
    exact ⟨k z (by simp) _ hz, k TI (by simp) _ hTI, ⟨x, y, k TO (by simp) _ hTO⟩, h1.at fun o q => k i1 (by simp) o q, h2.at fun o q => k i2 (by simp) o q⟩
  item := by
    intro X hP hw hK hc i pins s σ H E I hf st hg
    subst hP hw hK
    obtain ⟨hz, hTI, ⟨x0, y0, hTO⟩, h1, h2⟩ := st
    obtain ⟨xs, ys, x, y, hqx, hqy, hx, hy⟩ := hg
    obtain ⟨its, rv, p, _⟩ := I.list hqx
    obtain ⟨its2, rv2, p2, _⟩ := I.list hqy
    obtain ⟨u, hu, ru⟩ := rv.get hx
    obtain ⟨u2, hu2, ru2⟩ := rv2.get hy
    have hzl : z < s.heap.objs.size := Heap.lt_size hz
    refine wpAny_pyNext_zip_item D hz hTI hTO h1 h2 p.isList p2.isList (x := u) (y := u2) (by simpa using hu) (by simpa using hu2) fun h' z' TO' h1' h2' hT hsz hk => ?_
    refine ⟨_, rfl, wpAny_letOwnedTupleGo_zip (s := { s with heap := h' }) z' fun h'' z'' sb => ?_⟩
    have hT2 : h''.get? s.heap.objs.size = some { cls := .type "tuple", data := .seq #[u, u2] } := (sb.2 _ (Nat.ne_of_gt hzl)).trans hT
    have new : ObjOk X.prog X.w (upd H s.heap.objs.size (.tup [x, y])) h'' s.heap.objs.size (.tup [x, y]) :=
      ⟨by show 2 ≤ sizeLine; decide, [u, u2], .cons ru (.cons ru2 .nil), ⟨_, hT2, rfl, _, rfl⟩⟩
    have I1 : Inv X pins σ (upd H s.heap.objs.size (.tup [x, y])) { s with heap := h'' } :=
      I.turnedNew (t' := s.toks) (ch := [z, TI, TO, i1, i2]) (fun c o hb q => (sb.2 c (fun q' => hb (by simp [q']))).trans (hk c o (fun q' => hb (by simp [q'])) (fun q' => hb (by simp [q'])) (fun q' => hb (by simp [q'])) (fun q' => hb (by simp [q'])) q)) hf (Nat.le_refl _) new
    refine ⟨.ref s.heap.objs.size, _, I1, rfl, ⟨_, x, y, rfl, I.hok.fresh (Nat.le_refl _), rfl, fun l hl => by rw [I.list_inj hl hqx]; exact hx, fun l hl => by rw [I.list_inj hl hqy]; exact hy⟩, ⟨z'', ?_, ⟨u, u2, ?_⟩, ?_, ?_⟩, fun c hcm => ?_⟩
    · exact (sb.2 _ D.TIz).trans (hk _ _ D.TIz D.TITO D.TIi1 D.TIi2 hTI)
    · exact (sb.2 _ D.TOz).trans TO'
    · exact h1'.at fun o q => (sb.2 _ D.i1z).trans q
    · exact h2'.at fun o q => (sb.2 _ D.i2z).trans q
    · have hlt : c < s.heap.objs.size := by
        have e' : c = z ∨ c = TI ∨ c = TO ∨ c = i1 ∨ c = i2 := by simpa using hcm
        rcases e' with q | q | q | q | q
        · rw [q]; exact hzl
        · rw [q]; exact Heap.lt_size hTI
        · rw [q]; exact Heap.lt_size hTO
        · rw [q]; obtain ⟨_, e1, _⟩ := h1; exact Heap.lt_size e1
        · rw [q]; obtain ⟨_, e2, _⟩ := h2; exact Heap.lt_size e2
      rw [upd_ne (Nat.ne_of_lt hlt)]
      exact (hf c hcm).1
  done := by
    intro X hP hw hK hc i pins s σ H E I hf st hg
    subst hP hw hK
    obtain ⟨hz, hTI, ⟨x0, y0, hTO⟩, h1, h2⟩ := st
    obtain ⟨xs, ys, hqx, hqy, hend⟩ := hg
    obtain ⟨its, rv, p, _⟩ := I.list hqx
    obtain ⟨its2, rv2, p2, _⟩ := I.list hqy
    have l1 := rv.length
    have l2 := rv2.length
    have he : its.toArray[i]? = none ∨ its2.toArray[i]? = none := by
      rcases hend with q | q
      · exact .inl (by simp; omega)
      · exact .inr (by simp; omega)
    exact wpAny_pyNext_zip_end (I.ok.hd hc) D hz hTI hTO h1 h2 p.isList p2.isList he fun h' hk => ⟨rfl, I.turnedL (t' := s.toks) (ch := [z, TI, TO, i1, i2]) (fun c o hb q =>
      hk c o (fun q' => hb (by simp [q'])) (fun q' => hb (by simp [q'])) (fun q' => hb (by simp [q'])) (fun q' => hb (by simp [q'])) q) hf⟩
  self := fun A i s Q E st h => wpAny_pyIter_zip st.1 h
def iZip (K : PySem.W.Frag) (ta : TA) : TI := fun σ H R => ta σ H fun vs H1 => ∃ a b xs ys, vs = [.ref a, .ref b] ∧ SqL K H1 a xs ∧ SqL K H1 b ys ∧ R (Itz K a b) H1
theorem pi_zip {X : Cx} {e e2 : Expr} {ta : TA} {p pos tpos : Pos} {elts : List Expr} {kk : Nat} (hg : Gl X "zip") (hm : X.mg "zip" = none) (ha : PA X [e, e2] ta)
    (hs : starEach [e, e2] X.env = (false, eval e X.env) :: starEach [e2] X.env := by rfl) (hpl : (backTo pos (starEach [e2] X.env)).any (·.1) = false := by rfl) :
    PI X (.Tuple elts kk tpos) (.Call (.Name "zip" p) [e, e2] [] pos) (iZip X.K ta) := by
  intro pins s σ H R I h
  refine Call_ (ld_blt I hg hm boot_zip5 (PyProof.Rows.callWith_type1 (thn (ha pos pins s σ H _ I h) fun us s1 ⟨vs, H1, I1, r1, q1⟩ => ?_) hs hpl))
  obtain ⟨a, b, xs, ys, ex, hqx, hqy, q⟩ := q1
  subst ex
  cases r1 with
  | cons r rr =>
    cases rr with
    | cons r' rr =>
      cases rr
      cases r
      cases r'
      obtain ⟨its, rv, p1, _⟩ := I1.list hqx
      obtain ⟨its2, rv2, p2, _⟩ := I1.list hqy
      have la : a < s1.heap.objs.size := p1.lt
      have lb : b < s1.heap.objs.size := p2.lt
      refine call_zip_2 p1.isList p2.isList fun h' hz hTI hTO h1 h2 hsz hk => wpAny_pyIter_zip hz ?_
      have I2 : Inv X pins σ H1 { s1 with heap := h' } := I1.kept (t' := s1.toks) hk
      refine ⟨s1.heap.objs.size + 4, [s1.heap.objs.size + 4, s1.heap.objs.size + 2, s1.heap.objs.size + 3, s1.heap.objs.size, s1.heap.objs.size + 1], _, _, H1, rfl, I2, turn_zip (PySem.W.ktu_apart s1.heap.objs.size a b la lb), ⟨hz, hTI, ⟨_, _, hTO⟩, h1, h2⟩, fun c hcm => ?_, q⟩
      have e' : c = s1.heap.objs.size + 4 ∨ c = s1.heap.objs.size + 2 ∨ c = s1.heap.objs.size + 3 ∨ c = s1.heap.objs.size ∨ c = s1.heap.objs.size + 1 := by simpa using hcm
      have hle : s1.heap.objs.size ≤ c := by
        rcases e' with z | z | z | z | z
        · rw [z]; exact Nat.le_add_right _ _
        · rw [z]; exact Nat.le_add_right _ _
        · rw [z]; exact Nat.le_add_right _ _
        · rw [z]; exact Nat.le_refl _
        · rw [z]; exact Nat.le_add_right _ _
      exact I1.fpOk hle (I1.hok.fresh hle)
end L2

section 
namespace Bits
open PySem PyProof.Rows








end Bits
end 

section 
namespace TL
open PySem PySem.Builtin PySem.Builtin.Str PySem.StrLaws


/-! ### the list functions -/




/-! ### the model's split and partition are these -/




/-! ### computing spl and par -/


/-! ### digits -/

/-! ### words: x.split() -/
end TL
end 

namespace L2
open PySem PySem.Spec PyProof.Rows




section
variable {X : Cx} {pins : List (Addr × Obj)} {σ : St} {H : Hp} {s : Shared} {Q : VK}
end

section
variable {X : Cx}





/-! ### of a text alone -/

/-! ### of a text and a text -/

end

section
variable {X : Cx} {o e : Expr} {to te : TE}

end
end L2

namespace L2
open PySem PySem.Spec PyProof.Rows

section
variable {X : Cx}
end

/-! ### slices of a text -/


end L2

namespace Att
open PySem PySem.W PySem.Calls PyProof.Rows

/-! ### the script -/



/-! ### the attachment: holds_open's last premise (the goal 'hc' behind k_head) from a wpAny of the law's body -/



/-! ### rules over ANY heap (no ledger) from facts about the written part K: the library's own take a ledger (News) for what they write -/
section
variable {prog : Program} {w : World} {A : Around} {E : Value → Shared → Prop} {s : Shared} {K : Frag}





/-! the whole heap as the ledger: makes every rule that writes through a ledger a rule over any heap -/

end
end Att

namespace L2
open PySem PySem.Spec PyProof.Rows



end L2

namespace L2
open PySem PySem.Spec PyProof.Rows

abbrev KOf {K : PySem.W.Frag} {h : Heap} (_ : K.In h) : PySem.W.Frag := K

end L2

/- THE LAST THEOREM (shape; LID, My.* are yours):
   My.Adr: a structure of the addresses that your layer names (classes, functions); My.Txt K t: a structure (Prop) of the equations over K;
   My.txt_mk : {K} {implicit addresses ..} (e1 : nsIn K mainGlobals "law" = some (some (.ref f))) (e2 : K.lookup f = some ⟨oc, od, .func (fnOf "law" "law" params body scope dV kV doc pm an cdv ct), sl⟩) (e3 : codeIn K cdv "law" = true) .. : ∃ t, My.Txt K t

set_option maxRecDepth 100000 in
set_option maxHeartbeats 0 in
theorem PySem.Challenge.cw_LID_holds : PySem.Challenge.rw_LID.Holds := by
  w_on; o_law; k_head; (case hw => w_witness2)
  k_fill
  refine L2.walk_of (l := PySem.Challenge.rw_LID) (n := 63) (k := 40) (x := "script") (CX := fun w => ..) (sp := fun _ => My.sp_law) rfl (by decide) rfl ⟨rfl, by decide, by decide⟩ (fun w h Y => PySem.W.kIn_of Y) ?F ?S ?C
  case F =>
    intro w mg fa h KX G hmg
    have T : ∃ t, My.Txt (L2.KOf KX) t := by
      dsimp only [L2.KOf]                          -- K must stand as «<heap const> w.params» for k_is
      refine' My.txt_mk ?e1 ?e2 ?e3 ..
      (case e1 => PySem.W.k_is)                    -- in the order: a name -> its address -> its object -> its parts
      (case e2 => PySem.W.k_is)
      ..
    obtain ⟨t, T⟩ := T
    have e0 := hmg.symm.trans (PySem.W.mg_of KX G T.law)
    cases e0                                       -- fa is the law's own address
    exact ⟨_, fun s u => .of_eq rfl, fun base kb nb => My.law_fn T kb nb⟩     -- if «.of_eq rfl» comes too early: refine' ⟨_, ?b, fun base kb nb => My.law_fn T kb nb⟩; exact fun s u => .of_eq rfl
  case S => exact fun w H a ns hl hO hS => ..
  case C => exact ..
(the tactic k_is has no namespace: write k_is) -/

/-! SHORT WORDS over the layer: a def of the text, its body, what a loop and a test want. -/
namespace L2
open PySem PySem.Spec PyProof.Rows

/-! ### the text by places -/
/-- the j-th statement of a class's body -/
def inClass (s : Stmt) (j : Nat) : Stmt := match s with
  | .ClassDef _ _ _ body _ _ _ _ _ _ _ => body.getD j (.Pass ⟨0, 0, 0, 0⟩)
  | _ => .Pass ⟨0, 0, 0, 0⟩
def defArgs (s : Stmt) : Arguments := match s with
  | .FunctionDef _ a _ _ _ _ _ _ _ _ => a
  | _ => { posonlyargs := [], args := [], vararg := none, kwonlyargs := [], kw_defaults := [], kwarg := none, defaults := [] }
def defBody (s : Stmt) : List Stmt := match s with
  | .FunctionDef _ _ b _ _ _ _ _ _ _ => b
  | _ => []
def defScope (s : Stmt) : Scope := match s with
  | .FunctionDef _ _ _ _ _ _ sc _ _ _ => sc
  | _ => { kind := .function, names := [], isGenerator := false, isCoroutine := false }

/-! ### no exception leaves a def -/
abbrev CX0 : CXT := fun _ _ _ _ _ _ => False
abbrev E0 : XK := fun _ _ _ => False
theorem pass0 {X : Cx} : Passes CX0 X E0 := fun _ _ _ _ _ _ _ h => h.elim

/-! ### a def (or method) of the text as it stands behind the top -/
structure Fun (K : PySem.W.Frag) (x qual : Str) (st : Stmt) (f : Addr) (fd : FuncData) : Prop where
  ex : ∃ (oc : Value) (od : Option Addr) (kV doc pm : Value) (an : Option Addr) (cdv ct : Value) (osl : Array (Option Value)),
    fd = PySem.W.fnOf x qual (defArgs st) (defBody st) (defScope st) .none kV doc pm an cdv ct ∧ K.lookup f = some ⟨oc, od, .func fd, osl⟩ ∧ PySem.W.codeIn K cdv qual = true
  kp : PySem.W.keepIn K (.ref f) = true
section
variable {P : Program} {w : World} {K : PySem.W.Frag} {mg : Str → Option Value} {base : Heap}
/-- THE RULE for a def: its body as a term of rules, and the reading of that term -/
theorem Fun.ok {x qual : Str} {st : Stmt} {f : Addr} {fd : FuncData} {N ps : List Str} {k : Nat} {sp : Sp} (F : Fun K x qual st f fd) (S : FnScope N ps (defScope st)) (len : ∀ vs H Q E, sp vs H Q E → vs.length = ps.length)
    (hbody : ∀ (cdv : Value) (A : Around) (outer : List Env) (s : Shared) (H : Hp) (vs : List V) (Q : VK) (E : XK), Room k (A.deeper (envOfC qual (defScope st) s.heap.objs.size f cdv)) → sp vs H Q E →
      ∃ t, PSs (cxOf CX0 P w K mg base N qual (defScope st) f cdv A outer s H E).nox (defBody st) t ∧ t { nx := fun _ H' => Q .non H', rt := Q } (start N vs) H) : FnOk P w K mg base CX0 (k + 1) f fd ps sp := by
  obtain ⟨oc, od, kV, doc, pm, an, cdv, ct, osl, rfl, lk, hcd⟩ := F.ex
  refine fn_of lk hcd S len fun A outer s H vs Q E hr hsp => ?_
  obtain ⟨t, h, q⟩ := hbody cdv A outer s H vs Q E hr hsp
  exact ⟨t, h.nox, q⟩
/-- how its arguments bind (no defaults): h is «fun _ _ _ _ _ _ us hl => match us, hl with | [_, _], _ => rfl», one _ a parameter -/
theorem Fun.binds {x qual : Str} {st : Stmt} {f : Addr} {fd : FuncData} {ps : List Str} (F : Fun K x qual st f fd)
    (h : ∀ (kV doc pm : Value) (an : Option Addr) (cdv ct : Value) (us : List Value), us.length = ps.length → bindArgs (PySem.W.fnOf x qual (defArgs st) (defBody st) (defScope st) .none kV doc pm an cdv ct) ⟨us, []⟩ = pure (ps.zip us)) : Binds K fd ps [] := by
  obtain ⟨oc, od, kV, doc, pm, an, cdv, ct, osl, rfl, lk, hcd⟩ := F.ex
  exact .all (h kV doc pm an cdv ct)
theorem fun_mk {x qual : Str} {st : Stmt} {f : Addr} {oc : Value} {od an : Option Addr} {osl : Array (Option Value)} {kV doc pm cdv ct : Value} (l : K.lookup f = some ⟨oc, od, .func (PySem.W.fnOf x qual (defArgs st) (defBody st) (defScope st) .none kV doc pm an cdv ct), osl⟩)
    (c : PySem.W.codeIn K cdv qual = true) (k : PySem.W.keepIn K (.ref f) = true) : Fun K x qual st f (PySem.W.fnOf x qual (defArgs st) (defBody st) (defScope st) .none kV doc pm an cdv ct) := ⟨⟨oc, od, kV, doc, pm, an, cdv, ct, osl, rfl, l, c⟩, k⟩
end
theorem small1000 {n : Nat} (h : n ≤ 1000) : n < sizeLine := Nat.lt_of_le_of_lt h (by decide)

/-! ### expressions in short: the name that stands in the i-th slot -/
section
variable {X : Cx}
theorem pv (i : Nat) {x : Str} {pos : Pos} (hN : X.N[i]? = some x := by rfl) (hv : Vis X.env.scope x := by first | exact Or.inl rfl | exact Or.inr (Or.inl rfl) | exact Or.inr (Or.inr rfl)) (hd : (x == ("__debug__" : Str)) = false := by decide)
    (hcd : (x == ("__classdict__" : Str)) = false := by decide) : PE X (.Name x pos) (tVar i) := pe_var hN hv hd hcd
end

/-! ### tests -/
theorem iteF {A B : Prop} (h : B) : if false = true then A else B := by
  rw [if_neg Bool.false_ne_true]
  exact h
theorem iteT {A B : Prop} (h : A) : if true = true then A else B := by
  rw [if_pos rfl]
  exact h
theorem ite2 {c A B : Prop} [Decidable c] (h1 : c → A) (h2 : ¬ c → B) : if c then A else B := by
  by_cases h : c
  · rw [if_pos h]
    exact h1 h
  · rw [if_neg h]
    exact h2 h

/-! ### heaps -/
/-- all that was tracked is as it was -/
def Same (H H' : Hp) : Prop := ∀ b o, H b = some o → H' b = some o
theorem Same.refl (H : Hp) : Same H H := fun _ _ h => h
theorem Same.trans {H H1 H2 : Hp} (a : Same H H1) (b : Same H1 H2) : Same H H2 := fun c o h => b c o (a c o h)
theorem Same.free {H H' : Hp} (e : Same H H') {l : Addr} (h : H' l = Option.none) : H l = Option.none := by
  cases q : H l with
  | none => rfl
  | some o =>
    rw [e l o q] at h
    cases h
theorem Same.seq {K : PySem.W.Frag} {H H' : Hp} {a : Addr} {xs : List V} (e : Same H H') (h : SqL K H a xs) : SqL K H' a xs := by
  rcases h with (h | ⟨o, h⟩) | h
  · exact .inl (.inl (e _ _ h))
  · exact .inl (.inr ⟨o, e _ _ h⟩)
  · exact .inr h

/-! ### a dict's pairs: keys that differ -/
section
variable {κ : Type} [DecidableEq κ]
end
/-! ### lists -/
end L2

end
section
set_option Elab.async false
set_option linter.all false
set_option maxRecDepth 100000
set_option maxHeartbeats 2000000
namespace L2
open PySem PySem.Spec PyProof.Rows
open PySem.W (WData Codec OpenSpec Well WellAll ReadsW ReadsAllW)
/-! ### an answer as data -/
mutual
/-- x stands for the datum d, lists and tuples all the way -/
inductive Dw (K : PySem.W.Frag) (H : Hp) : V → WData → Prop
  | non : Dw K H .non .none
  | bl (b : Bool) : Dw K H (.bl b) (.bool b)
  | int (i : Int) : Dw K H (.int i) (.int i)
  | str (x : Str) : Dw K H (.str x) (.str x)
  | byt (b : Array UInt8) : Dw K H (.byt b) (.bytes b.toList)
  | lst {a : Addr} {xs : List V} {ds : List WData} : SqL K H a xs → DwAll K H xs ds → Dw K H (.ref a) (.list ds)
  | tup {a : Addr} {xs : List V} {ds : List WData} : SqT K H a xs → DwAll K H xs ds → Dw K H (.ref a) (.tuple ds)
inductive DwAll (K : PySem.W.Frag) (H : Hp) : List V → List WData → Prop
  | nil : DwAll K H [] []
  | cons {v : V} {vs : List V} {d : WData} {ds : List WData} : Dw K H v d → DwAll K H vs ds → DwAll K H (v :: vs) (d :: ds)
end
theorem dw_ints {K : PySem.W.Frag} {H : Hp} : ∀ ns : List Int, DwAll K H (ns.map V.int) (ns.map WData.int)
  | [] => .nil
  | n :: r => .cons (.int n) (dw_ints r)
theorem ints_dw {K : PySem.W.Frag} {H : Hp} : ∀ (ns : List Int) (xs : List V), DwAll K H xs (ns.map WData.int) → xs = ns.map V.int
  | [], xs, h => by
    cases h
    rfl
  | n :: r, xs, h => by
    cases h with
    | cons h1 h2 =>
      cases h1
      rw [ints_dw r _ h2] <;> rfl
section
variable {P : Program} {w : World} {K : PySem.W.Frag} {H : Hp} {h : Heap} {R : PySem.W.WRecords} {cl : Str → Option Addr}
theorem sqL_at {a : Addr} {xs : List V} (hok : HOk P w H h) (KX : K.In h) (q : SqL K H a xs) : ∃ (its : List Value) (o : Obj) (n : Nat), Vals xs its ∧ h.get? a = some o ∧ o.cls = .type "list" ∧ o.data = .seq its.toArray n := by
  rcases q with q | ⟨o, its, n, e, hc, _, hd, _, hv⟩
  · obtain ⟨_, its, n, hv, e⟩ := (show ObjOk P w H h a (.lst xs) from q.ok hok)
    exact ⟨its, _, n, hv, e, rfl, rfl⟩
  · exact ⟨its.toList, o, n, hv, KX _ _ e, hc, by simp [hd]⟩
theorem sqT_at {a : Addr} {xs : List V} (hok : HOk P w H h) (KX : K.In h) (q : SqT K H a xs) : ∃ (its : List Value) (o : Obj) (n : Nat), Vals xs its ∧ h.get? a = some o ∧ o.cls = .type "tuple" ∧ o.data = .seq its.toArray n := by
  rcases q with q | ⟨o, its, n, e, hc, hd, _, hv⟩
  · obtain ⟨_, its, hv, o, e, hc, n, hd⟩ := (show ObjOk P w H h a (.tup xs) from q.ok hok)
    exact ⟨its, o, n, hv, e, hc, hd⟩
  · exact ⟨its.toList, o, n, hv, KX _ _ e, hc, by simp [hd]⟩
mutual
theorem Dw.reads (hok : HOk P w H h) (KX : K.In h) : ∀ (d : WData) (v : V) (u : Value), Dw K H v d → RelV v u → ∃ as, ReadsW R cl h u d as
  | .none, _, _, x, r => by
    cases x
    cases r
    exact ⟨_, ReadsW.none⟩
  | .bool b, _, _, x, r => by
    cases x
    cases r
    exact ⟨_, ReadsW.bool b⟩
  | .int i, _, _, x, r => by
    cases x
    obtain ⟨t, rfl⟩ := r
    exact ⟨_, ReadsW.int i t⟩
  | .str s, _, _, x, r => by
    cases x
    obtain ⟨t, rfl⟩ := r
    exact ⟨_, ReadsW.str s t⟩
  | .bytes b, _, _, x, r => by
    cases x
    obtain ⟨t, rfl⟩ := r
    exact ⟨_, ReadsW.bytes _ t⟩
  | .list ds, _, _, x, r => by
    cases x with
    | lst hs ha =>
      cases r
      obtain ⟨its, o, n, rv, ho, hc, hd⟩ := sqL_at hok KX hs
      obtain ⟨as, hr⟩ := Dw.readsAll hok KX ds _ its ha rv
      exact ⟨_, ReadsW.list ho hc hd hr⟩
  | .tuple ds, _, _, x, r => by
    cases x with
    | tup hs ha =>
      cases r
      obtain ⟨its, o, n, rv, ho, hc, hd⟩ := sqT_at hok KX hs
      obtain ⟨as, hr⟩ := Dw.readsAll hok KX ds _ its ha rv
      exact ⟨_, ReadsW.tuple ho hc hd hr⟩
  | .float _, _, _, x, _ => by cases x
  | .dict _, _, _, x, _ => by cases x
  | .bytearray _, _, _, x, _ => by cases x
  | .set _, _, _, x, _ => by cases x
  | .frozenset _, _, _, x, _ => by cases x
  | .obj _ _, _, _, x, _ => by cases x
theorem Dw.readsAll (hok : HOk P w H h) (KX : K.In h) : ∀ (ds : List WData) (vs : List V) (us : List Value), DwAll K H vs ds → Vals vs us → ∃ as, ReadsAllW R cl h us ds as
  | [], _, _, x, r => by
    cases x
    cases r
    exact ⟨_, ReadsAllW.nil⟩
  | d :: ds, _, _, x, r => by
    cases x with
    | cons h1 h2 =>
      cases r with
      | cons r1 r2 =>
        obtain ⟨as, q1⟩ := Dw.reads hok KX d _ _ h1 r1
        obtain ⟨bs, q2⟩ := Dw.readsAll hok KX ds _ _ h2 r2
        exact ⟨_, ReadsAllW.cons q1 q2⟩
end
end
/-! ### the arguments -/
mutual
/-- data that a codec tells -/
def plW : WData → Bool
  | .none => true
  | .bool _ => true
  | .int _ => true
  | .str _ => true
  | .bytes _ => true
  | .list xs => plWs xs
  | .tuple xs => plWs xs
  | _ => false
def plWs : List WData → Bool
  | [] => true
  | x :: r => plW x && plWs r
end
theorem plWs_map {α : Type} {f : α → WData} (h : ∀ a, plW (f a) = true) : ∀ l : List α, plWs (l.map f) = true
  | [] => rfl
  | x :: r => by
    show (plW (f x) && plWs (r.map f)) = true
    rw [h x, plWs_map h r] <;> rfl
theorem pl_enc : ∀ (c : Codec) (a : c.denote), plW (c.enc a) = true
  | .unit, _ => rfl
  | .bool, _ => rfl
  | .int _ _, _ => rfl
  | .nat _ _, _ => rfl
  | .u8, _ => rfl
  | .bytes _ _, _ => rfl
  | .text _ _ _ _, _ => rfl
  | .list _ _ c, a => plWs_map (fun x => pl_enc c x) a
  | .pair c d, a => by
    show (plW (c.enc a.1) && (plW (d.enc a.2) && true)) = true
    rw [pl_enc c a.1, pl_enc d a.2] <;> rfl
  | .triple c d e, a => by
    show (plW (c.enc a.1) && (plW (d.enc a.2.1) && (plW (e.enc a.2.2) && true))) = true
    rw [pl_enc c a.1, pl_enc d a.2.1, pl_enc e a.2.2] <;> rfl
  | .option c, none => rfl
  | .option c, some x => pl_enc c x
theorem pl_encAll : ∀ (cs : List Codec) (a : Codec.denoteAll cs), plWs (Codec.encAll cs a) = true
  | [], _ => rfl
  | c :: cs, a => by
    show (plW (c.enc a.1) && plWs (Codec.encAll cs a.2)) = true
    rw [pl_enc c a.1, pl_encAll cs a.2] <;> rfl
theorem weight_mem : ∀ {xs : List WData} {d : WData}, d ∈ xs → d.weight ≤ WData.weightAll xs
  | [], d, h => absurd h (by simp)
  | x :: r, d, h => by
    show d.weight ≤ x.weight + 1 + WData.weightAll r
    rcases List.mem_cons.mp h with e | m
    · rw [e]
      omega
    · have z := weight_mem m
      omega
def toV : Value → V
  | .none => .non
  | .bool b => .bl b
  | .int i _ => .int i
  | .str x _ => .str x
  | .bytes b _ => .byt b
  | .ref a => .ref a
  | _ => .non
/-- a value of the arguments, its objects among A -/
def OkU (A : List Addr) : Value → Prop
  | .none => True
  | .bool _ => True
  | .int _ _ => True
  | .str _ _ => True
  | .bytes _ _ => True
  | .ref a => a ∈ A
  | _ => False
theorem OkU.mono {A B : List Addr} (h : ∀ a ∈ A, a ∈ B) : ∀ {u : Value}, OkU A u → OkU B u := fun {u} x => by
  cases u with
  | ref a => exact h a x
  | none => trivial
  | bool b => trivial
  | int i t => trivial
  | str s t => trivial
  | bytes b t => trivial
  | _ => exact False.elim x
theorem relV_toV {A : List Addr} {u : Value} (x : OkU A u) : RelV (toV u) u := by
  cases u with
  | ref a => rfl
  | none => rfl
  | bool b => rfl
  | int i t => exact ⟨t, rfl⟩
  | str s t => exact ⟨t, rfl⟩
  | bytes b t => exact ⟨t, rfl⟩
  | _ => exact False.elim x
theorem vals_toV {A : List Addr} : ∀ {vs : List Value}, (∀ u ∈ vs, OkU A u) → Vals (vs.map toV) vs
  | [], _ => .nil
  | u :: r, h => .cons (relV_toV (h u (List.mem_cons_self ..))) (vals_toV fun x hx => h x (List.mem_cons_of_mem _ hx))
/-- an object of the arguments -/
def ArgOb (h : Heap) (A : List Addr) (a : Addr) : Prop := ∃ vs : List Value, vs.length ≤ sizeLine ∧ (∀ u ∈ vs, OkU A u) ∧
  (h.get? a = some { cls := .type "list", data := .seq vs.toArray } ∨ h.get? a = some { cls := .type "tuple", data := .seq vs.toArray })
theorem ArgOb.mono {h : Heap} {A B : List Addr} {a : Addr} (k : ∀ a ∈ A, a ∈ B) (x : ArgOb h A a) : ArgOb h B a := by
  obtain ⟨vs, h1, h2, h3⟩ := x
  exact ⟨vs, h1, fun u hu => (h2 u hu).mono k, h3⟩
theorem wellAll_len {P : Params} {h : Heap} : ∀ {vs : List Value} {ds : List WData}, WellAll P h vs ds → vs.length = ds.length
  | _, _, .nil => rfl
  | _, _, .cons _ b => by
    show _ + 1 = _ + 1
    rw [wellAll_len b]
theorem well_list {P : Params} {h : Heap} {v : Value} {ds : List WData} (x : Well P h v (.list ds)) : ∃ (a : Addr) (vs : List Value), v = .ref a ∧ h.get? a = some { cls := .type "list", data := .seq vs.toArray } ∧ WellAll P h vs ds := by
  cases x with
  | list ho hall => exact ⟨_, _, rfl, ho, hall⟩
theorem well_tuple {P : Params} {h : Heap} {v : Value} {ds : List WData} (x : Well P h v (.tuple ds)) : ∃ (a : Addr) (vs : List Value), v = .ref a ∧ h.get? a = some { cls := .type "tuple", data := .seq vs.toArray } ∧ WellAll P h vs ds := by
  cases x with
  | tuple ho hall => exact ⟨_, _, rfl, ho, hall⟩
theorem well_cons {P : Params} {h : Heap} {us : List Value} {d : WData} {ds : List WData} (x : WellAll P h us (d :: ds)) : ∃ (v : Value) (vs : List Value), us = v :: vs ∧ Well P h v d ∧ WellAll P h vs ds := by
  cases x with
  | cons a b => exact ⟨_, _, rfl, a, b⟩
theorem line_of {n : Nat} (h : n ≤ 1048576) : n ≤ sizeLine := Nat.le_trans h (by decide)
section
variable {P : Params} {h : Heap}
mutual
theorem area_one : ∀ (d : WData) (v : Value), Well P h v d → plW d = true → d.weight ≤ 1048576 → ∃ A : List Addr, OkU A v ∧ ∀ a ∈ A, ArgOb h A a
  | .none, _, x, _, _ => by
    cases x
    exact ⟨[], trivial, fun a m => absurd m (by simp)⟩
  | .bool b, _, x, _, _ => by
    cases x
    exact ⟨[], trivial, fun a m => absurd m (by simp)⟩
  | .int i, _, x, _, _ => by
    cases x
    exact ⟨[], trivial, fun a m => absurd m (by simp)⟩
  | .str s, _, x, _, _ => by
    cases x
    exact ⟨[], trivial, fun a m => absurd m (by simp)⟩
  | .bytes b, _, x, _, _ => by
    cases x
    exact ⟨[], trivial, fun a m => absurd m (by simp)⟩
  | .list ds, _, x, p, z => by
    obtain ⟨a, vs, rfl, ho, hall⟩ := well_list x
    have z2 : WData.weightAll ds ≤ 1048576 := z
    obtain ⟨A, h1, h2⟩ := area_all ds _ hall p fun d hd => Nat.le_trans (weight_mem hd) z2
    have k : ∀ b ∈ A, b ∈ a :: A := fun b hb => List.mem_cons_of_mem _ hb
    refine ⟨a :: A, List.mem_cons_self .., fun b hb => ?_⟩
    rcases List.mem_cons.mp hb with e | m
    · rw [e]
      exact ⟨vs, line_of (by rw [wellAll_len hall]; exact Nat.le_trans (PySem.W.length_le_weightAllW ds) z2), fun u hu => (h1 u hu).mono k, .inl ho⟩
    · exact (h2 b m).mono k
  | .tuple ds, _, x, p, z => by
    obtain ⟨a, vs, rfl, ho, hall⟩ := well_tuple x
    have z2 : WData.weightAll ds ≤ 1048576 := z
    obtain ⟨A, h1, h2⟩ := area_all ds _ hall p fun d hd => Nat.le_trans (weight_mem hd) z2
    have k : ∀ b ∈ A, b ∈ a :: A := fun b hb => List.mem_cons_of_mem _ hb
    refine ⟨a :: A, List.mem_cons_self .., fun b hb => ?_⟩
    rcases List.mem_cons.mp hb with e | m
    · rw [e]
      exact ⟨vs, line_of (by rw [wellAll_len hall]; exact Nat.le_trans (PySem.W.length_le_weightAllW ds) z2), fun u hu => (h1 u hu).mono k, .inr ho⟩
    · exact (h2 b m).mono k
  | .float _, _, _, p, _ => Bool.noConfusion (show false = true from p)
  | .dict _, _, _, p, _ => Bool.noConfusion (show false = true from p)
  | .bytearray _, _, _, p, _ => Bool.noConfusion (show false = true from p)
  | .set _, _, _, p, _ => Bool.noConfusion (show false = true from p)
  | .frozenset _, _, _, p, _ => Bool.noConfusion (show false = true from p)
  | .obj _ _, _, _, p, _ => Bool.noConfusion (show false = true from p)
theorem area_all : ∀ (ds : List WData) (vs : List Value), WellAll P h vs ds → plWs ds = true → (∀ d ∈ ds, d.weight ≤ 1048576) → ∃ A : List Addr, (∀ u ∈ vs, OkU A u) ∧ ∀ a ∈ A, ArgOb h A a
  | [], _, x, _, _ => by
    cases x
    exact ⟨[], fun u m => absurd m (by simp), fun a m => absurd m (by simp)⟩
  | d :: ds, _, x, p, z => by
    obtain ⟨v, vs, rfl, x1, x2⟩ := well_cons x
    have q : plW d = true ∧ plWs ds = true := Bool.and_eq_true_iff.mp p
    obtain ⟨A, a1, a2⟩ := area_one d v x1 q.1 (z d (List.mem_cons_self ..))
    obtain ⟨B, b1, b2⟩ := area_all ds vs x2 q.2 fun e he => z e (List.mem_cons_of_mem _ he)
    have kA : ∀ b ∈ A, b ∈ A ++ B := fun b hb => List.mem_append.mpr (.inl hb)
    have kB : ∀ b ∈ B, b ∈ A ++ B := fun b hb => List.mem_append.mpr (.inr hb)
    refine ⟨A ++ B, fun u hu => ?_, fun b hb => ?_⟩
    · rcases List.mem_cons.mp hu with e | m
      · rw [e]
        exact a1.mono kA
      · exact (b1 u m).mono kB
    · rcases List.mem_append.mp hb with m | m
      · exact (a2 b m).mono kA
      · exact (b2 b m).mono kB
end
end
/-- what is tracked of an argument's object -/
def hoOf (o : Obj) : Option HO := match o.data with
  | .seq vs _ => if (o.cls == Value.type "list") = true then some (.frz o (.lst (vs.toList.map toV))) else some (.frz o (.tup (vs.toList.map toV)))
  | _ => none
def argH (K : PySem.W.Frag) (h : Heap) (A : List Addr) : Hp := fun b => if b ∈ A then (if (K.lookup b).isNone = true then (h.get? b).bind hoOf else none) else none
/-- nothing is tracked but what is known to the object -/
def OnlyF (H : Hp) : Prop := ∀ b, H b = none ∨ ∃ o u, H b = some (.frz o u)
theorem hoOf_lst (vs : List Value) : hoOf { cls := .type "list", data := .seq vs.toArray } = some (.frz { cls := .type "list", data := .seq vs.toArray } (.lst (vs.map toV))) := by
  show (if (Value.type "list" == Value.type "list") = true then some (HO.frz { cls := .type "list", data := .seq vs.toArray } (.lst (vs.toArray.toList.map toV))) else some (HO.frz { cls := .type "list", data := .seq vs.toArray } (.tup (vs.toArray.toList.map toV)))) = _
  rw [if_pos (beq_self_eq_true _)]
theorem hoOf_tup (vs : List Value) : hoOf { cls := .type "tuple", data := .seq vs.toArray } = some (.frz { cls := .type "tuple", data := .seq vs.toArray } (.tup (vs.map toV))) := by
  show (if (Value.type "tuple" == Value.type "list") = true then some (HO.frz { cls := .type "tuple", data := .seq vs.toArray } (.lst (vs.toArray.toList.map toV))) else some (HO.frz { cls := .type "tuple", data := .seq vs.toArray } (.tup (vs.toArray.toList.map toV)))) = _
  rw [if_neg (by decide)]
section
variable {P : Program} {w : World} {K : PySem.W.Frag} {h : Heap} {A : List Addr}
theorem argH_at {b : Addr} {o : Obj} (hb : b ∈ A) (hk : K.lookup b = none) (e : h.get? b = some o) : argH K h A b = hoOf o := by
  unfold argH
  rw [if_pos hb, hk, if_pos (show (none : Option Obj).isNone = true from rfl), e] <;> rfl
theorem of_argH {b : Addr} {u : HO} (q : argH K h A b = some u) : b ∈ A ∧ K.lookup b = none := by
  unfold argH at q
  by_cases hb : b ∈ A
  · rw [if_pos hb] at q
    cases hk : K.lookup b with
    | none => exact ⟨hb, rfl⟩
    | some o =>
      rw [hk, if_neg (by simp)] at q
      cases q
  · rw [if_neg hb] at q
    cases q
/-- what stands tracked -/
theorem argH_is (ar : ∀ a ∈ A, ArgOb h A a) {b : Addr} {u : HO} (q : argH K h A b = some u) : K.lookup b = none ∧ ∃ vs : List Value, vs.length ≤ sizeLine ∧ (∀ u ∈ vs, OkU A u) ∧
    ((h.get? b = some { cls := .type "list", data := .seq vs.toArray } ∧ u = .frz { cls := .type "list", data := .seq vs.toArray } (.lst (vs.map toV))) ∨
     (h.get? b = some { cls := .type "tuple", data := .seq vs.toArray } ∧ u = .frz { cls := .type "tuple", data := .seq vs.toArray } (.tup (vs.map toV)))) := by
  obtain ⟨hb, hk⟩ := of_argH q
  obtain ⟨vs, h1, h2, h3⟩ := ar b hb
  refine ⟨hk, vs, h1, h2, ?_⟩
  rcases h3 with e | e
  · rw [argH_at hb hk e, hoOf_lst] at q
    exact .inl ⟨e, (Option.some.inj q).symm⟩
  · rw [argH_at hb hk e, hoOf_tup] at q
    exact .inr ⟨e, (Option.some.inj q).symm⟩
theorem argH_only (ar : ∀ a ∈ A, ArgOb h A a) : OnlyF (argH K h A) := fun b => by
  cases q : argH K h A b with
  | none => exact .inl rfl
  | some u =>
    obtain ⟨_, vs, _, _, ⟨_, e⟩ | ⟨_, e⟩⟩ := argH_is ar q
    · exact .inr ⟨_, _, by rw [e]⟩
    · exact .inr ⟨_, _, by rw [e]⟩
theorem argH_ok (ar : ∀ a ∈ A, ArgOb h A a) : HOk P w (argH K h A) h := fun b u q => by
  obtain ⟨_, vs, h1, h2, ⟨e, rfl⟩ | ⟨e, rfl⟩⟩ := argH_is ar q
  · exact ⟨e, by rw [List.length_map]; exact h1, vs, _, vals_toV h2, e⟩
  · exact ⟨e, by rw [List.length_map]; exact h1, vs, vals_toV h2, _, e, rfl, _, rfl⟩
theorem seq_inj {c c' : Value} {vs us : List Value} (e : (some { cls := c, data := .seq vs.toArray } : Option Obj) = some { cls := c', data := .seq us.toArray }) : c = c' ∧ vs = us := by
  have e1 := Option.some.inj e
  have e2 : c = c' := congrArg Obj.cls e1
  have e3 : Data.seq vs.toArray = Data.seq us.toArray := congrArg Obj.data e1
  injection e3 with e4
  refine ⟨e2, ?_⟩
  have e5 := congrArg Array.toList e4
  simpa using e5
/-- a list argument -/
theorem argL (KX : K.In h) (ar : ∀ a ∈ A, ArgOb h A a) {a : Addr} {vs : List Value} (ha : a ∈ A) (e : h.get? a = some { cls := .type "list", data := .seq vs.toArray }) : (∀ u ∈ vs, OkU A u) ∧ SqL K (argH K h A) a (vs.map toV) := by
  obtain ⟨us, h1, h2, h3⟩ := ar a ha
  have hu : us = vs := by
    rcases h3 with q | q
    · rw [e] at q
      exact (seq_inj q).2.symm
    · rw [e] at q
      exact absurd (Value.type.inj (seq_inj q).1) (by decide)
  subst hu
  refine ⟨h2, ?_⟩
  cases hk : K.lookup a with
  | none => exact .inl (.inr ⟨_, by rw [argH_at ha hk e, hoOf_lst]⟩)
  | some o =>
    have e2 := KX a o hk
    rw [e] at e2
    obtain rfl := Option.some.inj e2
    exact .inr ⟨_, us.toArray, _, hk, rfl, rfl, rfl, by rw [List.size_toArray]; exact h1, by simpa using vals_toV h2⟩
theorem argT (KX : K.In h) (ar : ∀ a ∈ A, ArgOb h A a) {a : Addr} {vs : List Value} (ha : a ∈ A) (e : h.get? a = some { cls := .type "tuple", data := .seq vs.toArray }) : (∀ u ∈ vs, OkU A u) ∧ SqT K (argH K h A) a (vs.map toV) := by
  obtain ⟨us, h1, h2, h3⟩ := ar a ha
  have hu : us = vs := by
    rcases h3 with q | q
    · rw [e] at q
      exact absurd (Value.type.inj (seq_inj q).1) (by decide)
    · rw [e] at q
      exact (seq_inj q).2.symm
  subst hu
  refine ⟨h2, ?_⟩
  cases hk : K.lookup a with
  | none => exact .inl (.inr ⟨_, by rw [argH_at ha hk e, hoOf_tup]⟩)
  | some o =>
    have e2 := KX a o hk
    rw [e] at e2
    obtain rfl := Option.some.inj e2
    exact .inr ⟨_, us.toArray, _, hk, rfl, rfl, by rw [List.size_toArray]; exact h1, by simpa using vals_toV h2⟩
mutual
theorem dw_one {Pm : Params} (KX : K.In h) (ar : ∀ a ∈ A, ArgOb h A a) : ∀ (d : WData) (v : Value), Well Pm h v d → plW d = true → OkU A v → Dw K (argH K h A) (toV v) d
  | .none, _, x, _, _ => by
    cases x
    exact .non
  | .bool b, _, x, _, _ => by
    cases x
    exact .bl b
  | .int i, _, x, _, _ => by
    cases x
    exact .int i
  | .str s, _, x, _, _ => by
    cases x
    exact .str s
  | .bytes b, _, x, _, _ => by
    cases x
    have z := Dw.byt (K := K) (H := argH K h A) b.toArray
    exact z
  | .list ds, _, x, p, hu => by
    obtain ⟨a, vs, rfl, ho, hall⟩ := well_list x
    obtain ⟨h2, hs⟩ := argL KX ar hu ho
    exact .lst hs (dw_all KX ar ds _ hall p h2)
  | .tuple ds, _, x, p, hu => by
    obtain ⟨a, vs, rfl, ho, hall⟩ := well_tuple x
    obtain ⟨h2, hs⟩ := argT KX ar hu ho
    exact .tup hs (dw_all KX ar ds _ hall p h2)
  | .float _, _, _, p, _ => Bool.noConfusion (show false = true from p)
  | .dict _, _, _, p, _ => Bool.noConfusion (show false = true from p)
  | .bytearray _, _, _, p, _ => Bool.noConfusion (show false = true from p)
  | .set _, _, _, p, _ => Bool.noConfusion (show false = true from p)
  | .frozenset _, _, _, p, _ => Bool.noConfusion (show false = true from p)
  | .obj _ _, _, _, p, _ => Bool.noConfusion (show false = true from p)
theorem dw_all {Pm : Params} (KX : K.In h) (ar : ∀ a ∈ A, ArgOb h A a) : ∀ (ds : List WData) (vs : List Value), WellAll Pm h vs ds → plWs ds = true → (∀ u ∈ vs, OkU A u) → DwAll K (argH K h A) (vs.map toV) ds
  | [], _, x, _, _ => by
    cases x
    exact .nil
  | d :: ds, _, x, p, hu => by
    obtain ⟨v, vs, rfl, x1, x2⟩ := well_cons x
    have q : plW d = true ∧ plWs ds = true := Bool.and_eq_true_iff.mp p
    exact .cons (dw_one KX ar d v x1 q.1 (hu _ (List.mem_cons_self ..))) (dw_all KX ar ds vs x2 q.2 fun u m => hu u (List.mem_cons_of_mem _ m))
end
end
/-! ### the call -/
theorem spec_call {P : Program} {w : World} {K : PySem.W.Frag} {mg mb : Str → Option Value} {CX : CXT} {k : Nat} {fa : Addr} {fd : FuncData} {ps : List Str} {sp : Sp} {s₁ : Shared} {vals : List Value} {ds : List WData} {R : PySem.W.WRecords} {cl : Str → Option Addr} {d0 : WData}
    (KX : K.In s₁.heap) (hns : s₁.heap.Ns mainGlobals mg) (hb : s₁.heap.Ns builtinsNs mb) (hbb : ∀ x : Str, x ≠ "__name__" → mb x = bootBuiltins x) (hlim : s₁.heap.NoLimit) (hg : s₁.gens = #[])
    (hwl : WellAll w.params s₁.heap vals ds) (hpl : plWs ds = true) (hwt : ∀ d ∈ ds, d.weight ≤ 1048576) (hr : Room k callerA)
    (F : ∀ base : Heap, K.In base → base.Ns mainGlobals mg → FnOk P w K mg base CX k fa fd ps sp) (hbind : ∀ (s : Shared) (us : List Value), us.length = ps.length → BindsTo s fd ⟨us, []⟩ (ps.zip us)) (hlen : ds.length = ps.length)
    (hsp : ∀ (H : Hp) (xs : List V), OnlyF H → DwAll K H xs ds → sp xs H (fun v H' => Dw K H' v d0) fun _ _ _ => False)
    (hCX : ∀ H e s', CX [] H s₁ (fun _ _ _ => False) e s' → False) :
    codeAny (model P w) callerA (.call (.ref fa) ⟨vals, []⟩) (fun r s' => ∃ u as, r = .ok (.ret u) ∧ ReadsW R cl s'.heap u d0 as ∧ OldK s₁.heap s'.heap ∧ s'.os = s₁.os ∧ AllBare s'.gens) s₁ := by
  obtain ⟨A, ho, ar⟩ := area_all ds vals hwl hpl hwt
  have hO : OnlyF (argH K s₁.heap A) := argH_only ar
  have hok : HOk P w (argH K s₁.heap A) s₁.heap := argH_ok ar
  have hS := dw_all KX ar ds vals hwl hpl ho
  have hV := vals_toV ho
  have hK : ∀ b u, argH K s₁.heap A b = some u → K.lookup b = none := fun b u q => (argH_is ar q).1
  have noA : ∀ {b : Addr} {o : Obj} {es : Array DictEntry} {ep : Nat}, s₁.heap.get? b = some o → o.data = .dict es ep → argH K s₁.heap A b = none := fun {b o es ep} e d => by
    cases q : argH K s₁.heap A b with
    | none => rfl
    | some u =>
      obtain ⟨_, vs, _, _, ⟨e2, _⟩ | ⟨e2, _⟩⟩ := argH_is ar q
      · rw [e2] at e
        cases e
        have d' : Data.seq vs.toArray _ = Data.dict es ep := d
        cases d'
      · rw [e2] at e
        cases e
        have d' : Data.seq vs.toArray _ = Data.dict es ep := d
        cases d'
  generalize argH K s₁.heap A = H at hO hok hS hK noA
  have base_of : ∀ {b : Addr} {o : Obj}, s₁.heap.get? b = some o → H b = none → (hidT s₁.heap H).get? b = some o := fun e n => hidT_get e n
  have nsK : ∀ {b : Addr} {m : Str → Option Value}, s₁.heap.Ns b m → (hidT s₁.heap H).Ns b m := fun {b m} ⟨o, es, ep, e, d, r⟩ => ⟨o, es, ep, base_of e (noA e d), d, r⟩
  have nK : ∀ b o, K.lookup b = some o → H b = none := fun b o e => by
    cases q : H b with
    | none => rfl
    | some u =>
      rw [hK b u q] at e
      cases e
  have hKb : K.In (hidT s₁.heap H) := fun b o e => base_of (KX b o e) (nK b o e)
  have hM : Mod K mg (hidT s₁.heap H) := ⟨hKb, nsK hns, ⟨mb, nsK hb, hbb⟩, let ⟨mc, h1, h2⟩ := hlim; ⟨mc, nsK h1, h2⟩⟩
  have e0 : Env0 P w K mg (hidT s₁.heap H) callerA [] s₁ H := ⟨rfl, hM, fun b o e => of_hidT e, Nat.le_of_eq (hidT_size _ _), trivial, fun b hb => absurd (show b ∈ ([] : List Addr) from hb) (by simp), hok, .of_eq hg⟩
  have hl : vals.length = ps.length := by rw [wellAll_len hwl]; exact hlen
  refine codeAny_mono ((F _ hKb (nsK hns)).run callerA [] s₁ H ⟨vals, []⟩ vals (vals.map toV) _ _ hr e0 (hbind s₁ vals hl) hV (hsp H _ hO hS)) fun r s' x => ?_
  cases r with
  | error e => exact (hCX H e s' x).elim
  | ok fl =>
    cases fl with
    | next => exact False.elim x
    | brk => exact False.elim x
    | cont => exact False.elim x
    | ret u =>
      obtain ⟨v, H', os, bare, un, hok', r', q⟩ := x
      have kept : ∀ b o, s₁.heap.get? b = some o → s'.heap.get? b = some o := fun b o e => by
        cases q2 : H b with
        | none => exact un.keep b o e q2 (by intro z; exact absurd (show b ∈ ([] : List Addr) from z) (by simp)) (by simp)
        | some u2 =>
          rcases hO b with z | ⟨ob, u3, z⟩
          · rw [q2] at z
            cases z
          · have z2 := un.frzs b ob _ z
            obtain ⟨e1, _⟩ := hok b _ z
            obtain ⟨e2, _⟩ := hok' b _ z2
            rw [e] at e1
            cases e1
            exact e2
      have KX' : K.In s'.heap := fun b o e => kept b o (KX b o e)
      obtain ⟨as, hrd⟩ := Dw.reads (R := R) (cl := cl) hok' KX' d0 v u q r'
      exact ⟨u, as, rfl, hrd, OldK.of_keep kept, os, bare⟩
/-! ### the row -/
theorem layable_weight {ds : List WData} (h : WData.layableAll ds = true) : ∀ d ∈ ds, d.weight ≤ 1048576 := fun d hd =>
  (PySem.W.layableW_iff.mp (List.all_eq_true.mp h d hd)).2.2
theorem encAll_len : ∀ (cs : List Codec) (a : Codec.denoteAll cs), (Codec.encAll cs a).length = cs.length
  | [], _ => rfl
  | c :: cs, a => by
    show (Codec.encAll cs a.2).length + 1 = cs.length + 1
    rw [encAll_len cs a.2]
/-- the goal that k_headS leaves (case hc), from the promise of the row's def: whatever the arguments that the codecs let and the row asks for, the def gives what stands for enc (f ..) -/
theorem walk_spec {r : OpenSpec} {k : Nat} {q : Program} {loose : List Str} {XP : (Str → Option Value) → Heap → Prop} {YP : World → Heap → Prop} {d : DefRec} {K : Params → PySem.W.Frag} {CX : World → CXT} {ps : List Str} {sp : World → Sp}
    (hwell : r.wellSaid = true) (hdf : d.params.defaults = []) (hlen : r.args.length = ps.length) (hr : Room k callerA)
    (hY : ∀ (w : World) (h : Heap), YP w h → (K w.params).In h)
    (F : ∀ (w : World) (mg : Str → Option Value) (fa : Addr) (h : Heap), YP w h → (K w.params).In h → h.Ns mainGlobals mg → mg d.name = some (.ref fa) →
      ∃ fd : FuncData, (∀ (s : Shared) (us : List Value), us.length = ps.length → BindsTo s fd ⟨us, []⟩ (ps.zip us)) ∧
        ∀ base : Heap, (K w.params).In base → base.Ns mainGlobals mg → FnOk r.prog w (K w.params) mg base (CX w) k fa fd ps (sp w))
    (hsp : ∀ (w : World) (H : Hp) (xs : List V) (a : Codec.denoteAll r.args), OnlyF H → Codec.withinAll r.args a = true → Codec.app r.args r.asked a = true → DwAll (K w.params) H xs (Codec.encAll r.args a) →
      sp w xs H (fun v H' => Dw (K w.params) H' v (r.ret.enc (Codec.app r.args r.f a))) fun _ _ _ => False)
    (hCX : ∀ (w : World) (H : Hp) (s : Shared) (e : Value) (s' : Shared), CX w [] H s (fun _ _ _ => False) e s' → False) :
    PySem.W.WalkOS q loose XP YP r d [] (fun f vs => PySem.call f vs) := by
  intro w s_0 s₁ mg mb G Y fa o pm cd doc dV kV ho hd hcd hD hmg hg args vals as hpre hlay hrd hwl hlo
  obtain ⟨a, e1, e2⟩ := PySem.W.os_pre_some hpre
  obtain ⟨e3, hwi⟩ := Codec.encAll_of_decAll r.args args a e1
  subst e3
  have KX := hY w _ Y
  obtain ⟨fd, hb, hF⟩ := F w mg fa _ Y KX G.T.g hmg
  refine PySem.W.enter_call (codeAny_mono (spec_call (R := []) (cl := classAt s_0.heap) (d0 := r.ret.enc (Codec.app r.args r.f a)) KX G.T.g G.T.b G.T.builtins G.T.nolimit hg hwl (pl_encAll _ _) (layable_weight hlay) hr hF hb (by rw [encAll_len]; exact hlen)
    (fun H xs hO hS => hsp w H xs a hO hwi e2 hS) fun H e s' => hCX w H s₁ e s') fun r' s' hq => ?_)
  obtain ⟨u, as', rfl, h1, h2, h3, h4⟩ := hq
  exact ⟨.inl ⟨u, _, as', rfl, fun _ => rfl, h1, (OpenSpec.post_iff hwell hwi _ _).mpr rfl, fun z => Bool.noConfusion (show false = true from z)⟩, h2, h3, h4⟩
/-- the same where the promise hangs on the written part alone -/
theorem walk_specK {r : OpenSpec} {k : Nat} {q : Program} {loose : List Str} {XP : (Str → Option Value) → Heap → Prop} {YP : World → Heap → Prop} {d : DefRec} {K : Params → PySem.W.Frag} {CX : CXT} {ps : List Str} {sp : PySem.W.Frag → Sp}
    (hwell : r.wellSaid = true) (hdf : d.params.defaults = []) (hlen : r.args.length = ps.length) (hr : Room k callerA)
    (hY : ∀ (w : World) (h : Heap), YP w h → (K w.params).In h)
    (F : ∀ (w : World) (mg : Str → Option Value) (fa : Addr) (h : Heap), YP w h → (K w.params).In h → h.Ns mainGlobals mg → mg d.name = some (.ref fa) →
      ∃ fd : FuncData, (∀ (s : Shared) (us : List Value), us.length = ps.length → BindsTo s fd ⟨us, []⟩ (ps.zip us)) ∧
        ∀ base : Heap, (K w.params).In base → base.Ns mainGlobals mg → FnOk r.prog w (K w.params) mg base CX k fa fd ps (sp (K w.params)))
    (hsp : ∀ (K : PySem.W.Frag) (H : Hp) (xs : List V) (a : Codec.denoteAll r.args), OnlyF H → Codec.withinAll r.args a = true → Codec.app r.args r.asked a = true → DwAll K H xs (Codec.encAll r.args a) →
      sp K xs H (fun v H' => Dw K H' v (r.ret.enc (Codec.app r.args r.f a))) fun _ _ _ => False)
    (hCX : ∀ (H : Hp) (s : Shared) (e : Value) (s' : Shared), CX [] H s (fun _ _ _ => False) e s' → False) :
    PySem.W.WalkOS q loose XP YP r d [] (fun f vs => PySem.call f vs) :=
  walk_spec (K := K) (CX := fun _ => CX) (sp := fun w => sp (K w.params)) hwell hdf hlen hr hY F (fun w H xs a h1 h2 h3 h4 => hsp (K w.params) H xs a h1 h2 h3 h4) fun _ H s e s' => hCX H s e s'
end L2
end
section
set_option maxRecDepth 100000
namespace RL
open PySem
section
variable {prog : Program} {w : World} {A : Around} {R : Result → Shared → Prop} {I : Addr} {fp wr : List Addr} {n : Nat} {St : Nat → Heap → Prop} {P : Nat → Value → Prop}
/-- what stands outside, as at the start -/
def Kp (wr : List Addr) (S : Addr) (h h' : Heap) : Prop := ∀ b o, b ∉ wr → b ≠ S → h.get? b = some o → h'.get? b = some o
theorem Kp.trans {wr : List Addr} {S : Addr} {h h' h'' : Heap} (a : Kp wr S h h') (b : Kp wr S h' h'') : Kp wr S h h'' := fun x o p q e => b x o p q (a x o p q e)
/-- comparisons, as long as that stands -/
def CmpK (prog : Program) (w : World) (A : Around) (wr : List Addr) (S : Addr) (h0 : Heap) (P : Nat → Value → Prop) (bt : Nat → Nat → Bool) : Prop :=
  ∀ i j vi vj (s : Shared) (Q E : Value → Shared → Prop), Kp wr S h0 s.heap → P i vi → P j vj → Q (.bool (bt i j)) s → wpAny (model prog w) A (richCompare .Lt vi vj) Q E s
theorem min_turns (W : Walks prog w A.in1 I fp wr n P St) (bt : Nat → Nat → Bool) (S : Addr) (h0 : Heap) (hcmp : CmpK prog w A.in1 wr S h0 P bt) (hSf : S ∉ fp) : ∀ (k j : Nat) (s : Shared) (vb : Value) (c : Nat),
    n - (j + 1) = k → j + 1 ≤ n → St (j + 1) s.heap → P (argBest bt j) vb → Kp wr S h0 s.heap →
    (s.heap).get? S = some { cls := .type "list", dict := none, data := .seq #[vb, vb] c, slots := #[] } →
    (∀ v h' tk, P (argBest bt (n - 1)) v → Kp wr S h0 h' → R (.ok (.ret v)) { s with heap := h', toks := tk }) → codeAny (model prog w) A (.builtin "min.loop" ⟨[.ref I, .none, .ref S], []⟩) R s := by
  have hSw : S ∉ wr := fun hh => hSf (W.sub _ hh)
  have nm : (toString "min" ++ toString ".loop" : String) = "min.loop" := by decide
  intro k
  induction k with
  | zero =>
    intro j s vb c hk hj hst hPb hK hS hR
    have hin : j + 1 = n := (by omega)
    refine codeAny_builtin F.entry_min_loop ?_; rw [Around.under_plainId F.plain_min_loop _]
    show wpAny _ A.in1 (seqItems? (.ref S) >>= _) _ _ s; refine wpAny_bind (wpAny_seqItems hS rfl ?_)
    show wpAny _ A.in1 (tryCatch (pyNext (.ref I)) _ >>= _) _ _ s; refine wpAny_bind (wpAny_tryCatch (W.done s _ _ (hin ▸ hst) fun h' tk hk' => ?_))
    have hS' := hk' S _ hSw hS
    show wpAny _ A.in1 (updateSeq S (fun _ => #[]) >>= _) _ _ _; refine wpAny_bind (wpAny_updateSeq hS' rfl (wpAny_bind (wpAny_letGo (wpAny_pure ?_))))
    refine hR vb _ tk (by rw [← hin]; exact hPb) (hK.trans fun b o hbw hbS e => ?_)
    exact (Heap.get?_update_other _ _ (Ne.symm hbS)).trans (hk' b o hbw e)
  | succ k ih =>
    intro j s vb c hk hj hst hPb hK hS hR
    have lt : j + 1 < n := by omega
    refine codeAny_builtin F.entry_min_loop ?_; rw [Around.under_plainId F.plain_min_loop _]
    show wpAny _ A.in1 (seqItems? (.ref S) >>= _) _ _ s; refine wpAny_bind (wpAny_seqItems hS rfl ?_)
    show wpAny _ A.in1 (tryCatch (pyNext (.ref I)) _ >>= _) _ _ s; refine wpAny_bind (wpAny_tryCatch (W.item (j + 1) s _ _ lt hst fun v h' tk hP hst' hk' => ?_))
    have hS' := hk' S _ hSw hS
    have hK' : Kp wr S h0 h' := hK.trans fun b o hbw _ e => hk' b o hbw e
    show wpAny _ A.in1 (tryCatch (holding [v, v] (richCompare .Lt v vb >>= _)) _ >>= _) _ _ _; refine wpAny_bind (wpAny_tryCatch (wpAny_holding (wpAny_bind (hcmp (j + 1) (argBest bt j) v vb _ _ _ hK' hP hPb ?_))))
    refine wpAny_bind (wpAny_holding (wpAny_truthy_bool (wpAny_bind (wpAny_letGo (wpAny_pure ?_)))))
    cases hb : (bt (j + 1) (argBest bt j) : Bool) with
    | true =>
      simp only [if_true]; refine wpAny_bind (wpAny_updateSeq hS' rfl (wpAny_bind (wpAny_letGo ?_)))
      rw [nm]
      refine wpAny_pure ⟨plainId_quiet F.plain_min_loop _, ih (j + 1) _ v _ (by omega) lt (W.frame _ _ _ hst' fun b hbf o e => (Heap.get?_update_other _ _ (fun h : S = b => hSf (by rw [h]; exact hbf))).trans e) (by simp only [argBest, hb, if_true]; exact hP) (hK'.trans fun b o _ hbS e => (Heap.get?_update_other _ _ (Ne.symm hbS)).trans e) (Heap.get?_update_self _ hS' rfl) fun v' h'' tk'' hP' hk'' => hR v' h'' tk'' hP' hk''⟩
    | false =>
      simp only [Bool.false_eq_true, if_false]; refine wpAny_bind (wpAny_letGo ?_)
      rw [nm]
      exact wpAny_pure ⟨plainId_quiet F.plain_min_loop _, ih (j + 1) _ vb c (by omega) lt hst' (by simp only [argBest, hb, Bool.false_eq_true, if_false]; exact hPb) hK' hS' fun v' h'' tk'' hP' hk'' => hR v' h'' tk'' hP' hk''⟩
end
section
variable {prog : Program} {w : World} {A : Around} {E : Value → Shared → Prop} {s : Shared}
theorem call_min_kept {x : Value} {Q : Value → Shared → Prop}
    (h : wpAny (model prog w) A.in1 (pyIter x) (fun it s₂ => ∃ I fp wr n P St bt, it = .ref I ∧ Walks prog w A.in1 I fp wr n P St ∧ St 0 s₂.heap ∧ (∀ b ∈ fp, b < s₂.heap.objs.size) ∧ 0 < n ∧ CmpK prog w A.in1 wr s₂.heap.objs.size s₂.heap P bt ∧
      ∀ (v) (h') (tk), P (argBest bt (n - 1)) v → (∀ b o, b ∉ wr → s₂.heap.get? b = some o → h'.get? b = some o) → Q v { s₂ with heap := h', toks := tk }) E s) :
    (wpAny (model prog w) A) (call (.builtin "min") [x]) Q E s := by
  have nm : (toString "min" ++ toString ".loop" : String) = "min.loop" := by decide
  refine call_function_tree F.kind_min F.plain_min F.entry_min (F.args_min1 _) ?_; show wpAny _ A.in1 (Builtin.Builtins.bindParams "min" ["key", "default"] 0 ⟨[], []⟩ >>= _) _ _ s
  refine wpAny_bind (wpAny_of_eq (show Builtin.Builtins.bindParams "min" ["key", "default"] 0 ⟨[], []⟩ = pure [none, none] from rfl) (wpAny_bind (wpAny_pure ?_)))
  refine wpAny_bind (wpAny_mono h (fun it s₂ h₂ => ?_) fun _ _ e => e); obtain ⟨I, fp, wr, n, P, St, bt, rfl, W, hst, hfp, hn, hcmp, hQ⟩ := h₂
  refine wpAny_bind (wpAny_newObj_type ?_); have hSf : s₂.heap.objs.size ∉ fp := fun hm => Nat.lt_irrefl _ (hfp _ hm)
  have hSw : s₂.heap.objs.size ∉ wr := fun h => hSf (W.sub _ h)
  rw [nm]
  have fin : ∀ v h' tk, P (argBest bt (n - 1)) v → Kp wr s₂.heap.objs.size s₂.heap h' → Q v { s₂ with heap := h', toks := tk } := fun v h' tk hP hk => hQ v h' tk hP fun b o hbw e => hk b o hbw (Nat.ne_of_lt (Heap.lt_size e)) e
  generalize hs3 : s₂.heap.push { cls := .type "list", data := .seq #[] } = h3
  have k3 : Kp wr s₂.heap.objs.size s₂.heap h3 := fun b o _ _ e => by rw [← hs3]; exact Heap.get?_push_of_some _ e
  have hS : h3.get? s₂.heap.objs.size = some { cls := .type "list", dict := none, data := .seq #[] 0, slots := #[] } := by rw [← hs3]; exact Heap.get?_push_size _ rfl
  have st3 : St 0 h3 := W.frame _ _ _ hst fun b _ o e => by rw [← hs3]; exact Heap.get?_push_of_some _ e
  refine wpAny_pure ⟨plainId_quiet F.plain_min_loop _, codeAny_builtin F.entry_min_loop ?_⟩
  rw [(Around.under_plainId F.plain_min_loop _)]
  show wpAny _ A.in1 (seqItems? (.ref s₂.heap.objs.size) >>= _) _ _ _; refine wpAny_bind (wpAny_seqItems hS rfl ?_)
  show wpAny _ A.in1 (tryCatch (pyNext (.ref I)) _ >>= _) _ _ _; refine wpAny_bind (wpAny_tryCatch (W.item 0 _ _ _ hn st3 fun v h' tk hP hst' hk' => ?_))
  have hS' := hk' s₂.heap.objs.size _ hSw hS
  show wpAny _ A.in1 (updateSeq s₂.heap.objs.size (fun _ => #[v, v]) >>= _) _ _ _; refine wpAny_bind (wpAny_updateSeq hS' rfl ?_)
  rw [nm]
  have kk : Kp wr s₂.heap.objs.size s₂.heap (h'.update s₂.heap.objs.size (Obj.mapSeq fun _ => #[v, v])) := k3.trans fun b o hbw hbS e => (Heap.get?_update_other _ _ (Ne.symm hbS)).trans (hk' b o hbw e)
  refine wpAny_pure ⟨plainId_quiet F.plain_min_loop _, min_turns W bt _ s₂.heap hcmp hSf _ 0 _ v _ rfl hn (W.frame _ _ _ hst' fun b hbf o e => ?_) hP kk (Heap.get?_update_self _ hS' rfl) fun v' h'' tk'' hP' hk'' => fin v' h'' tk'' hP' hk''⟩
  exact (Heap.get?_update_other _ _ (fun h : s₂.heap.objs.size = b => hSf (by rw [h]; exact hbf))).trans e
end
end RL

end
section
set_option maxRecDepth 100000
namespace RL
open PySem
section
variable {prog : Program} {w : World} {A : Around} {E : Value → Shared → Prop} {s : Shared}
/-- the next of a tuple, by the small types' way -/
theorem nextOf_tup_item {it t : Addr} {i : Nat} {items : Array Value} {x : Value} {Q : Value → Shared → Prop} (hit : s.heap.IsTupleIter it t i) (ht : s.heap.IsTuple t items) (hx : items[i]? = some x)
    (hQ : ∀ h', h'.IsTupleIter it t (i + 1) → Heap.SameBut it s.heap h' → Q x { s with heap := h' }) : wpAny (model prog w) A (Builtin.SmallTypes.nextOf (.ref it)) Q E s := by
  obtain ⟨o, ho, hc, hd⟩ := id hit; obtain ⟨ot, hot, _, nt, hdt⟩ := ht
  (unfold Builtin.SmallTypes.nextOf)
  refine wpAny_bind (wpAny_callSpecial?_slot (name := Str.ofString "__next__") hit.typeIs F.slot_tuple_iterator_next (wpAny_call_entry F.slot_tuple_iterator_next hit.typeIs F.entry_tuple_iterator_next ?_ (F.args_tuple_iterator_next_1 _)))
  show wpAny _ _ (field (.ref it) 0 >>= _) _ _ s; refine wpAny_bind (wpAny_field ho hd (x := .ref t) rfl ?_)
  show wpAny _ _ (if (Value.ref t == Value.none) = true then _ else _) _ _ s; rw [if_neg (show ¬ ((Value.ref t == Value.none) = true) from Bool.false_ne_true)]
  show wpAny _ _ (field (.ref it) 1 >>= _) _ _ s; refine wpAny_bind (wpAny_field ho hd (x := .int i 0) rfl ?_)
  show wpAny _ _ (seqItems? (.ref t) >>= _) _ _ s; refine wpAny_bind (wpAny_seqItems hot hdt ?_)
  simp only [Int.toNat_natCast, hx]; refine wpAny_bind (wpAny_setField ho hd (by simp) (wpAny_pure ⟨x, rfl, wpAny_pure (hQ _ ?_ (Heap.SameBut.update ..))⟩))
  refine ⟨_, Heap.get?_update_self _ ho (Obj.isFreed_of_fields (Obj.data_mapFields hd _)), (Obj.cls_mapFields ..).trans hc, ?_⟩
  rw [Obj.data_mapFields hd]; simp [rawInt]
theorem nextOf_tup_end {it t : Addr} {i : Nat} {items : Array Value} {Q : Value → Shared → Prop} (hh : A.handled = none) (hit : s.heap.IsTupleIter it t i) (ht : s.heap.IsTuple t items) (hx : items[i]? = none)
    (hE : ∀ h' e, Heap.ExtBut it s.heap h' → (∃ o, h'.get? e = some o ∧ o.cls = .type "StopIteration") → E (.ref e) { s with heap := h' }) : wpAny (model prog w) A (Builtin.SmallTypes.nextOf (.ref it)) Q E s := by
  obtain ⟨o, ho, hc, hd⟩ := id hit; obtain ⟨ot, hot, _, nt, hdt⟩ := ht
  (unfold Builtin.SmallTypes.nextOf)
  refine wpAny_bind (wpAny_callSpecial?_slot (name := Str.ofString "__next__") hit.typeIs F.slot_tuple_iterator_next (wpAny_call_entry F.slot_tuple_iterator_next hit.typeIs F.entry_tuple_iterator_next ?_ (F.args_tuple_iterator_next_1 _)))
  show wpAny _ _ (field (.ref it) 0 >>= _) _ _ s; refine wpAny_bind (wpAny_field ho hd (x := .ref t) rfl ?_)
  show wpAny _ _ (if (Value.ref t == Value.none) = true then _ else _) _ _ s; rw [if_neg (show ¬ ((Value.ref t == Value.none) = true) from Bool.false_ne_true)]
  show wpAny _ _ (field (.ref it) 1 >>= _) _ _ s; refine wpAny_bind (wpAny_field ho hd (x := .int i 0) rfl ?_)
  show wpAny _ _ (seqItems? (.ref t) >>= _) _ _ s; refine wpAny_bind (wpAny_seqItems hot hdt ?_)
  simp only [Int.toNat_natCast, hx]; refine wpAny_bind (wpAny_rule (wpAny_bind (wpAny_setField ho hd (by simp) ?_)))
  show wpAny _ _ (newExc (.type "StopIteration") [] >>= _) _ _ _; refine wpAny_bind ?_
  simp only [newExc, newTuple]; refine wpAny_bind (wpAny_newObj_type ?_ (by size_fits))
  refine wpAny_bind (m := firstArgMember _ _) (wpAny_of_eq (a := Value.none) (by first | rfl | (simp only [firstArgMember]; rfl)) (wpAny_newObj_type ?_ (by size_fits)))
  simp only [raiseNew]; refine wpAny_bind (wpAny_handled ?_)
  first | rw [show A.in1.handled = none from hh] | rw [(hh : _)]
  refine wpAny_bind (wpAny_pure (wpAny_throw (hE _ _ (((Heap.SameBut.update ..).extBut.push _).push _) ⟨_, Heap.get?_push_size _ rfl, rfl⟩)))
theorem tupIter_at {h h' : Heap} {a t : Addr} {i : Nat} (x : h.IsTupleIter a t i) (k : ∀ o, h.get? a = some o → h'.get? a = some o) : h'.IsTupleIter a t i := let ⟨o, ho, r⟩ := x; ⟨o, k o ho, r⟩
theorem zipT_item {z TI TO i1 i2 l1 l2 : Addr} {k1 k2 : Nat} {xs ys : Array Value} {x y a b : Value} {Q : Option Value → Shared → Prop} (D : ZipApart z TI TO i1 i2 l1 l2) (hz : IsZip s.heap z TI TO .none) (hTI : IsPair s.heap TI (.ref i1) (.ref i2)) (hTO : IsPair s.heap TO a b)
    (h1 : s.heap.IsListIter i1 l1 k1) (h2 : s.heap.IsTupleIter i2 l2 k2) (hl1 : s.heap.IsList l1 xs) (hl2 : s.heap.IsTuple l2 ys) (hx : xs[k1]? = some x) (hy : ys[k2]? = some y)
    (hQ : ∀ h', IsZip h' z TI TO (rawInt s.heap.objs.size) → IsPair h' TO x y → h'.IsListIter i1 l1 (k1 + 1) → h'.IsTupleIter i2 l2 (k2 + 1) → IsPair h' s.heap.objs.size x y → h'.objs.size = s.heap.objs.size + 1 →
      (∀ c o, c ≠ z → c ≠ TO → c ≠ i1 → c ≠ i2 → s.heap.get? c = some o → h'.get? c = some o) → Q (some (.ref s.heap.objs.size)) { s with heap := h' }) : wpAny (model prog w) A (pyNext (.ref z)) Q E s := by
  have hT : s.TypeIs (Value.ref z) "zip" := ⟨_, hz, rfl⟩
  unfold pyNext
  refine wpAny_bind (wpAny_attempt (wpAny_callSpecial?_slot (name := Str.ofString "__next__") hT F.slot_zip_next (wpAny_call_entry F.slot_zip_next hT F.entry_zip_next ?_ (F.args_zip_next_1 _))))
  show wpAny _ _ (field (.ref z) 2 >>= _) _ _ _; refine wpAny_bind (wpAny_field hz rfl (x := .bool false) rfl ?_)
  show wpAny _ _ (field (.ref z) 3 >>= _) _ _ _; refine wpAny_bind (wpAny_field hz rfl (x := .ref TI) rfl (wpAny_bind (wpAny_seqItems hTI rfl ?_)))
  show wpAny _ _ (Builtin.SmallTypes.ownedTupleIsFree (.ref z) >>= _) _ _ _; refine wpAny_bind ?_
  (unfold Builtin.SmallTypes.ownedTupleIsFree)
  refine wpAny_bind (wpAny_field hz rfl (x := .none) rfl (wpAny_pure ?_)); simp only [if_true]
  refine wpAny_bind (wpAny_rule (wpAny_bind (wpAny_field hz rfl (x := .ref TO) rfl (wpAny_bind (wpAny_setField_rec hz (by simp) fun hA zA sA => ?_)))))
  replace zA : IsZip hA z TI TO .ellipsis := zA
  refine wpAny_bind ?_; simp only [List.zipIdx_cons, List.zipIdx_nil, List.forIn_cons, List.forIn_nil]
  refine wpAny_bind (wpAny_bind (wpAny_onRaise ?_)); show wpAny _ _ (Builtin.SmallTypes.nextOf (.ref i1) >>= _) _ _ _
  refine wpAny_bind (wpAny_nextOf_list_item (h1.extBut sA.extBut D.i1z) (hl1.extBut sA.extBut D.l1z) hx fun hB h1B sB => wpAny_pure ?_)
  have toB : IsPair hB TO a b := sB.extBut _ _ D.TOi1 (sA.extBut _ _ D.TOz hTO)
  refine wpAny_bind (wpAny_seqItems toB rfl (wpAny_bind (wpAny_updateSeq_pair toB fun hC toC sC => ?_)))
  replace toC : IsPair hC TO x b := toC
  refine wpAny_bind (wpAny_letGo (wpAny_pure (wpAny_bind (wpAny_bind (wpAny_onRaise ?_))))); show wpAny _ _ (Builtin.SmallTypes.nextOf (.ref i2) >>= _) _ _ _
  have i2C := ((h2.extBut sA.extBut D.i2z).extBut sB.extBut D.i12.symm).extBut sC.extBut D.TOi2.symm
  have l2C := ((hl2.extBut sA.extBut D.l2z).extBut sB.extBut D.l2i1).extBut sC.extBut D.l2TO
  refine wpAny_bind (nextOf_tup_item i2C l2C hy fun hD h2D sD => wpAny_pure ?_)
  have toD : IsPair hD TO x b := sD.extBut _ _ D.TOi2 toC
  refine wpAny_bind (wpAny_seqItems toD rfl (wpAny_bind (wpAny_updateSeq_pair toD fun hF toF sF => ?_)))
  replace toF : IsPair hF TO x y := toF
  refine wpAny_bind (wpAny_letGo (wpAny_pure (wpAny_pure (wpAny_bind (wpAny_seqItems toF rfl (wpAny_bind (wpAny_newTuple ?_)))))))
  have hsz : hF.objs.size = s.heap.objs.size := by rw [sF.1, sD.1, sC.1, sB.1, sA.1]
  have zF : IsZip hF z TI TO .ellipsis := sF.extBut _ _ D.TOz.symm (sD.extBut _ _ D.i2z.symm (sC.extBut _ _ D.TOz.symm (sB.extBut _ _ D.i1z.symm zA)))
  have kF : ∀ c o, c ≠ z → c ≠ TO → c ≠ i1 → c ≠ i2 → s.heap.get? c = some o → hF.get? c = some o := fun c o c1 c2 c3 c4 e => sF.extBut _ _ c2 (sD.extBut _ _ c4 (sC.extBut _ _ c2 (sB.extBut _ _ c3 (sA.extBut _ _ c1 e))))
  have i1F : hF.IsListIter i1 l1 (k1 + 1) := ((h1B.extBut sC.extBut D.TOi1.symm).extBut sD.extBut D.i12).extBut sF.extBut D.TOi1.symm
  have i2F : hF.IsTupleIter i2 l2 (k2 + 1) := h2D.extBut sF.extBut D.TOi2.symm
  have zlt : z < hF.objs.size := Heap.lt_size zF
  show wpAny _ _ (Builtin.SmallTypes.ownedTupleHandOut (.ref z) (.ref hF.objs.size) >>= _) _ _ _; refine wpAny_bind ?_
  (unfold Builtin.SmallTypes.ownedTupleHandOut)
  have zG : IsZip (hF.push { cls := .type "tuple", data := .seq #[x, y] }) z TI TO .ellipsis := Heap.get?_push_of_some _ zF
  refine wpAny_bind (wpAny_setField_rec zG (by simp) fun hI zI sI => ?_)
  replace zI : IsZip hI z TI TO (rawInt hF.objs.size) := zI
  refine wpAny_setField_rec zI (by simp) fun hJ zJ sJ => ?_
  replace zJ : IsZip hJ z TI TO (rawInt hF.objs.size) := zJ
  have up : ∀ c o, c ≠ z → hF.get? c = some o → hJ.get? c = some o := fun c o c1 e => sJ.extBut _ _ c1 (sI.extBut _ _ c1 (Heap.get?_push_of_some _ e))
  have tJ : IsPair hJ hF.objs.size x y := sJ.extBut _ _ (Nat.ne_of_gt zlt) (sI.extBut _ _ (Nat.ne_of_gt zlt) (Heap.get?_push_size _ rfl))
  have nJ : hJ.objs.size = hF.objs.size + 1 := by rw [sJ.1, sI.1, Heap.size_push]
  rw [hsz] at zJ tJ nJ
  refine wpAny_pure ⟨_, rfl, wpAny_pure ?_⟩
  show Q (some (.ref hF.objs.size)) _
  rw [hsz]
  exact hQ hJ zJ (up _ _ D.TOz toF) (i1F.at fun o e => up _ o D.i1z e) (tupIter_at i2F fun o e => up _ o D.i2z e) tJ nJ fun c o c1 c2 c3 c4 e => up c o c1 (kF c o c1 c2 c3 c4 e)
theorem zipT_end {z TI TO i1 i2 l1 l2 : Addr} {k1 k2 : Nat} {xs ys : Array Value} {a b : Value} {Q : Option Value → Shared → Prop} (hh : A.handled = none) (D : ZipApart z TI TO i1 i2 l1 l2) (hz : IsZip s.heap z TI TO .none) (hTI : IsPair s.heap TI (.ref i1) (.ref i2)) (hTO : IsPair s.heap TO a b)
    (h1 : s.heap.IsListIter i1 l1 k1) (h2 : s.heap.IsTupleIter i2 l2 k2) (hl1 : s.heap.IsList l1 xs) (hl2 : s.heap.IsTuple l2 ys) (hend : xs[k1]? = none ∨ ys[k2]? = none)
    (hQ : ∀ (h'), (∀ c o, c ≠ z → c ≠ TO → c ≠ i1 → c ≠ i2 → s.heap.get? c = some o → h'.get? c = some o) → Q none { s with heap := h' }) : wpAny (model prog w) A (pyNext (.ref z)) Q E s := by
  have hT : s.TypeIs (Value.ref z) "zip" := ⟨_, hz, rfl⟩
  unfold pyNext
  refine wpAny_bind (wpAny_attempt (wpAny_callSpecial?_slot (name := Str.ofString "__next__") hT F.slot_zip_next (wpAny_call_entry F.slot_zip_next hT F.entry_zip_next ?_ (F.args_zip_next_1 _))))
  show wpAny _ _ (field (.ref z) 2 >>= _) _ _ _; refine wpAny_bind (wpAny_field hz rfl (x := .bool false) rfl ?_)
  show wpAny _ _ (field (.ref z) 3 >>= _) _ _ _; refine wpAny_bind (wpAny_field hz rfl (x := .ref TI) rfl (wpAny_bind (wpAny_seqItems hTI rfl ?_)))
  show wpAny _ _ (Builtin.SmallTypes.ownedTupleIsFree (.ref z) >>= _) _ _ _; refine wpAny_bind ?_
  (unfold Builtin.SmallTypes.ownedTupleIsFree)
  refine wpAny_bind (wpAny_field hz rfl (x := .none) rfl (wpAny_pure ?_)); simp only [if_true]
  refine wpAny_bind (wpAny_rule (wpAny_bind (wpAny_field hz rfl (x := .ref TO) rfl (wpAny_bind (wpAny_setField_rec hz (by simp) fun hA zA sA => ?_)))))
  replace zA : IsZip hA z TI TO .ellipsis := zA
  refine wpAny_bind ?_; simp only [List.zipIdx_cons, List.zipIdx_nil, List.forIn_cons, List.forIn_nil]
  refine wpAny_bind (wpAny_bind (wpAny_onRaise ?_)); show wpAny _ _ (Builtin.SmallTypes.nextOf (.ref i1) >>= _) _ _ _
  cases hx : xs[k1]? with
  | none =>
    refine wpAny_bind (wpAny_nextOf_list_end hh (h1.extBut sA.extBut D.i1z) (hl1.extBut sA.extBut D.l1z) hx fun hB e sB he => ?_)
    obtain ⟨oe, hoe, hce⟩ := he
    have zB : IsZip hB z TI TO .ellipsis := sB _ _ D.i1z.symm zA
    have hez : e ≠ z := fun x => by subst x; rw [zB] at hoe; cases hoe; simp at hce
    refine wpAny_setField_rec zB (by simp) fun hC _ sC => wpAny_bind (wpAny_isInstance (T := "StopIteration") (b := true) ⟨oe, sC.extBut _ _ hez hoe, hce⟩ isSubtype_stop (wpAny_pure (hQ hC fun c o c1 _ c3 _ x => sC.extBut _ _ c1 (sB _ _ c3 (sA.extBut _ _ c1 x)))))
  | some x =>
    have hy : ys[k2]? = none := by rcases hend with hh2 | hh2; rw [hx] at hh2; cases hh2; exact hh2
    refine wpAny_bind (wpAny_nextOf_list_item (h1.extBut sA.extBut D.i1z) (hl1.extBut sA.extBut D.l1z) hx fun hB h1B sB => wpAny_pure ?_)
    have toB : IsPair hB TO a b := sB.extBut _ _ D.TOi1 (sA.extBut _ _ D.TOz hTO)
    refine wpAny_bind (wpAny_seqItems toB rfl (wpAny_bind (wpAny_updateSeq_pair toB fun hC toC sC => ?_)))
    refine wpAny_bind (wpAny_letGo (wpAny_pure (wpAny_bind (wpAny_bind (wpAny_onRaise ?_))))); show wpAny _ _ (Builtin.SmallTypes.nextOf (.ref i2) >>= _) _ _ _
    have i2C := ((h2.extBut sA.extBut D.i2z).extBut sB.extBut D.i12.symm).extBut sC.extBut D.TOi2.symm
    have l2C := ((hl2.extBut sA.extBut D.l2z).extBut sB.extBut D.l2i1).extBut sC.extBut D.l2TO
    refine wpAny_bind (nextOf_tup_end hh i2C l2C hy fun hD e sD he => ?_)
    obtain ⟨oe, hoe, hce⟩ := he
    have zD : IsZip hD z TI TO .ellipsis := sD _ _ D.i2z.symm (sC.extBut _ _ D.TOz.symm (sB.extBut _ _ D.i1z.symm zA))
    have hez : e ≠ z := fun x => by subst x; rw [zD] at hoe; cases hoe; simp at hce
    refine wpAny_setField_rec zD (by simp) fun hF _ sF => wpAny_bind (wpAny_isInstance (T := "StopIteration") (b := true) ⟨oe, sF.extBut _ _ hez hoe, hce⟩ isSubtype_stop (wpAny_pure (hQ hF fun c o c1 c2 c3 c4 x => sF.extBut _ _ c1 (sD _ _ c4 (sC.extBut _ _ c2 (sB.extBut _ _ c3 (sA.extBut _ _ c1 x)))))))
end
/-! ### zip(list, tuple) itself -/
abbrev zt1 (h : Heap) (l1 : Addr) : Heap := h.push { cls := .type "list_iterator", data := .fields #[.ref l1, .int 0 0] }
abbrev zt2 (h : Heap) (l1 l2 : Addr) : Heap := (zt1 h l1).push { cls := .type "tuple_iterator", data := .fields #[.ref l2, .int 0 0] }
abbrev zt3 (h : Heap) (l1 l2 : Addr) : Heap := (zt2 h l1 l2).push { cls := .type "tuple", data := .seq #[.ref h.objs.size, .ref (zt1 h l1).objs.size] }
abbrev zt4 (h : Heap) (l1 l2 : Addr) : Heap := (zt3 h l1 l2).push { cls := .type "tuple", data := .seq #[.none, .none] }
abbrev zt5 (h : Heap) (l1 l2 : Addr) : Heap := (zt4 h l1 l2).push { cls := .type "zip", data := .fields #[.none, .bool false, .bool false, .ref (zt2 h l1 l2).objs.size, .ref (zt3 h l1 l2).objs.size] }
theorem meets_zipT (l1 l2 : Addr) (xs ys : Array Value) : Meets (Builtin.«zip.__new__» ⟨[.type "zip", .ref l1, .ref l2], []⟩) (fun _ R s => s.heap.IsList l1 xs ∧ s.heap.IsTuple l2 ys ∧ R (.ok (.ret (.ref (zt4 s.heap l1 l2).objs.size))) { s with heap := zt5 s.heap l1 l2 }) :=
  .of_wp fun prog w A R s h => by
    obtain ⟨hp, g, d, tk, os⟩ := s; obtain ⟨hl1, hl2, h⟩ := h; have hsub := sub_zip
    have hL1 : Heap.IsList (Shared.heap ⟨hp, g, d, tk, os⟩) l1 xs := hl1; have hL2 : Heap.IsTuple (Shared.heap ⟨hp.push { cls := .type "list_iterator", data := .fields #[.ref l1, .int 0 0] }, g, d, tk, os⟩) l2 ys := Heap.IsTuple.push hl2 _
    wp_walk using wpAny_pyIter_list hL1, wpAny_pyIter_tuple hL2
    exact ⟨_, rfl, h⟩
section
variable {prog : Program} {w : World} {A : Around} {E : Value → Shared → Prop} {s : Shared}
theorem call_zipT {l1 l2 : Addr} {xs ys : Array Value} {Q : Value → Shared → Prop} (hl1 : s.heap.IsList l1 xs) (hl2 : s.heap.IsTuple l2 ys)
    (h : ∀ h', IsZip h' (s.heap.objs.size + 4) (s.heap.objs.size + 2) (s.heap.objs.size + 3) .none → IsPair h' (s.heap.objs.size + 2) (.ref s.heap.objs.size) (.ref (s.heap.objs.size + 1)) → IsPair h' (s.heap.objs.size + 3) .none .none → h'.IsListIter s.heap.objs.size l1 0 → h'.IsTupleIter (s.heap.objs.size + 1) l2 0 →
      (∀ c o, s.heap.get? c = some o → h'.get? c = some o) → Q (.ref (s.heap.objs.size + 4)) { s with heap := h' }) : wpAny (model prog w) A (call (.type "zip") [.ref l1, .ref l2]) Q E s := by
  refine callType_new F.called_zip (by decide) (F.typeCall_zip_2 _ _) (F.newCall_zip_2 _ _) (fun obj => F.args_object_init_3 obj _ _) F.entry_zip_new (meets_zipT l1 l2 xs ys) ⟨hl1, hl2, ?_⟩
  have z1 : (zt1 s.heap l1).objs.size = s.heap.objs.size + 1 := Heap.size_push ..
  have z2 : (zt2 s.heap l1 l2).objs.size = s.heap.objs.size + 2 := by rw [Heap.size_push, z1]
  have z3 : (zt3 s.heap l1 l2).objs.size = s.heap.objs.size + 3 := by rw [Heap.size_push, z2]
  have z4 : (zt4 s.heap l1 l2).objs.size = s.heap.objs.size + 4 := by rw [Heap.size_push, z3]
  have g5 : (zt5 s.heap l1 l2).get? (zt4 s.heap l1 l2).objs.size = some _ := Heap.get?_push_size _ rfl
  have g4 : (zt5 s.heap l1 l2).get? (zt3 s.heap l1 l2).objs.size = some _ := Heap.get?_push_of_some _ (Heap.get?_push_size _ rfl)
  have g3 : (zt5 s.heap l1 l2).get? (zt2 s.heap l1 l2).objs.size = some _ := Heap.get?_push_of_some _ (Heap.get?_push_of_some _ (Heap.get?_push_size _ rfl))
  have g2 : (zt5 s.heap l1 l2).get? (zt1 s.heap l1).objs.size = some _ := Heap.get?_push_of_some _ (Heap.get?_push_of_some _ (Heap.get?_push_of_some _ (Heap.get?_push_size _ rfl)))
  have g1 : (zt5 s.heap l1 l2).get? s.heap.objs.size = some _ := Heap.get?_push_of_some _ (Heap.get?_push_of_some _ (Heap.get?_push_of_some _ (Heap.get?_push_of_some _ (Heap.get?_push_size _ rfl))))
  show _ ∧ _
  rw [z2, z3, z4] at g5
  rw [z1, z2] at g3
  rw [z3] at g4
  rw [z1] at g2
  rw [z4]
  refine ⟨⟨_, g5, rfl⟩, h _ g5 g3 g4 ⟨_, g1, rfl, rfl⟩ ⟨_, g2, rfl, rfl⟩ fun c o x => ?_⟩
  exact Heap.get?_push_of_some _ (Heap.get?_push_of_some _ (Heap.get?_push_of_some _ (Heap.get?_push_of_some _ (Heap.get?_push_of_some _ x))))
end
end RL

end
section
set_option maxRecDepth 100000
namespace RL
open PySem
theorem nolen_lri : typeLookup (.type "list_reverseiterator") "__len__" = pure none := by rw [typeLookup_type, builtinLookup_eq_fast]; kernel_rfl
theorem hint_lri : typeLookup (.type "list_reverseiterator") "__length_hint__" = pure (some (.builtin "list_reverseiterator.__length_hint__")) := by rw [typeLookup_type, builtinLookup_eq_fast]; kernel_rfl
section
variable {prog : Program} {w : World} {A : Around} {s : Shared} {R : Result → Shared → Prop} {I : Addr} {fp wr : List Addr} {G : Array GenState → Array GenState → Prop} {n : Nat} {P : Nat → Value → Prop} {St : Nat → Shared → Prop}
theorem extend_rev (W : WalksS prog w A.in1 I fp wr G n P St) (hT : ∀ i s, St i s → s.TypeIs (.ref I) "list_reverseiterator") (S : Addr) (res : Value) (c₀ : Nat) (hst : St 0 s) (hSf : S ∉ fp) (hI : I ∈ fp) (hS : s.heap.get? S = some { cls := .type "list", data := .seq #[] c₀ })
    (hR : ∀ s' acc' c', Moved (S :: wr) G s s' → s'.heap.get? S = some { cls := .type "list", dict := none, data := .seq acc' c', slots := #[] } → ItemsOf P acc' n → R (.ok (.ret res)) s') (hn : n ≤ sizeLine) :
    wpAny (model prog w) A.in1 (Builtin.List.listExtendWith (.ref S) (.ref I) res) (fun fin s' => match fin with | .done f => R (.ok f) s' | .again c' => c'.quiet = true ∧ codeAny (model prog w) A c' R s') (fun e s' => R (.error e) s') s := by
  have hSI : S ≠ I := fun ee => hSf (ee ▸ hI)
  (unfold Builtin.List.listExtendWith)
  refine wpAny_bind (wpAny_typeOf ((hT 0 _ hst)) ?_)
  have h1 : Builtin.List.listSameRef (.ref S) (.ref I) = false := by simp [hSI, Builtin.List.listSameRef]
  rw [if_neg (by (rw [h1]); decide)]
  refine wpAny_bind (W.self 0 _ _ _ hst (wpAny_bind (wpAny_holding ?_)))
  (unfold Builtin.List.listLengthHint)
  refine wpAny_bind (wpAny_specialOf (hT 0 _ hst) nolen_lri ?_)
  show wpAny _ A.in1 (specialOf (Value.ref I) (Str.ofString "__length_hint__") >>= _) _ _ _; refine wpAny_bind (wpAny_specialOf (hT 0 _ hst) hint_lri ?_)
  generalize hid : ("list_reverseiterator.__length_hint__" : String) = id0
  wp_delta
  rw [show splitId id0 = some ("list_reverseiterator", "__length_hint__") from by subst hid; decide +kernel]
  subst hid
  refine wpAny_bind (wpAny_isInstance (b := true) (hT 0 _ hst) (by rw [isSubtype_type]; kernel_rfl) (wpAny_pure ?_))
  rw [if_neg (by decide)]
  exact wpAny_pure ⟨plainId_quiet F.plain_extend_loop _, codeAny_extend_loopS W hn _ hSf _ n 0 _ _ _ rfl (Nat.zero_le _) hst hS (ItemsOf.nil P) fun s' acc' c' hm hS' hacc => hR s' acc' c' hm hS' hacc⟩
theorem list_init_rev (W : WalksS prog w A.in1 I fp wr G n P St) (hT : ∀ i s, St i s → s.TypeIs (.ref I) "list_reverseiterator") (S : Addr) (hst : St 0 s) (hSf : S ∉ fp) (hI : I ∈ fp) (hS : s.heap.get? S = some { cls := .type "list", data := .seq #[] })
    (hR : ∀ s' acc' c', Moved (S :: wr) G s s' → s'.heap.get? S = some { cls := .type "list", dict := none, data := .seq acc' c', slots := #[] } → ItemsOf P acc' n → R (.ok (.ret .none)) s') (hn : n ≤ sizeLine) :
    wpAny (model prog w) A.in1 (Builtin.«list.__init__» ⟨[.ref S, .ref I], []⟩) (fun fin s' => match fin with | .done f => R (.ok f) s' | .again c' => c'.quiet = true ∧ codeAny (model prog w) A c' R s') (fun e s' => R (.error e) s') s := by
  show wpAny _ A.in1 (do let old ← Builtin.List.listItems (.ref S); Builtin.List.listUpdate (.ref S) (fun _ => #[]); letGo old.toList.reverse; Builtin.List.listExtendWith (.ref S) (.ref I) .none) _ _ s; refine wpAny_bind ?_
  unfold Builtin.List.listItems
  refine wpAny_bind (wpAny_seqItems hS rfl (wpAny_pure ?_)); show wpAny _ A.in1 (updateSeq S (fun _ => #[]) >>= fun _ => letGo (#[] : Array Value).toList.reverse >>= fun _ => Builtin.List.listExtendWith (.ref S) (.ref I) .none) _ _ s
  refine wpAny_bind (wpAny_updateSeq hS rfl (wpAny_bind (wpAny_letGo ?_)))
  have hS2 := Heap.get?_update_self (Obj.mapSeq (fun _ => (#[] : Array Value))) hS rfl
  have oth : ∀ b o, b ≠ S → s.heap.get? b = some o → (s.heap.update S (Obj.mapSeq (fun _ => (#[] : Array Value)))).get? b = some o := fun b o hb e => (Heap.get?_update_other _ _ (Ne.symm hb)).trans e
  refine extend_rev W hT S .none _ (W.frame 0 s _ s.toks hst (Nat.le_refl _) fun b hb o e => oth b o (fun h => hSf (h ▸ hb)) e) hSf hI hS2 (fun s' acc' c' hm hS' hacc => hR s' acc' c' ?_ hS' hacc) hn
  exact Moved.trans W.gtrans ((Moved.refl W.grefl).then_heap (Nat.le_refl _) fun b o hb e => oth b o (fun h => hb (h ▸ List.mem_cons_self)) e) hm
end
section
variable {prog : Program} {w : World} {A : Around} {E : Value → Shared → Prop} {s : Shared} {I : Addr} {fp wr : List Addr} {G : Array GenState → Array GenState → Prop} {n : Nat} {St : Nat → Shared → Prop} {P : Nat → Value → Prop}
theorem call_list_rev {Q : Value → Shared → Prop} (W : WalksS prog w A.in1.in1 I fp wr G n P St) (hT : ∀ i s, St i s → s.TypeIs (.ref I) "list_reverseiterator") (hst : St 0 s) (hfp : ∀ b ∈ fp, b < s.heap.objs.size) (hI : I ∈ fp)
    (hQ : ∀ s' acc' c', Moved (s.heap.objs.size :: wr) G { s with heap := s.heap.push { cls := .type "list", data := .seq #[] } } s' → s'.heap.get? s.heap.objs.size = some { cls := .type "list", dict := none, data := .seq acc' c', slots := #[] } → ItemsOf P acc' n → Q (.ref s.heap.objs.size) s') (hn : n ≤ sizeLine) :
    (wpAny (model prog w) A) (call (.type "list") [.ref I]) Q E s := by
  have hSf : s.heap.objs.size ∉ fp := fun hm' => Nat.lt_irrefl _ (hfp _ hm')
  have hS : ((s.heap).push { cls := .type "list", data := .seq #[] }).get? s.heap.objs.size = some { cls := .type "list", data := .seq #[] } := Heap.get?_push_size _ rfl
  refine callType_codes (Q₁ := fun obj s₁ => obj = .ref s.heap.objs.size ∧ s₁ = { s with heap := s.heap.push { cls := .type "list", data := .seq #[] } }) F.called_list (F.typeCall_list_1 _) F.entry_list_init (code_list_new _ ⟨rfl, rfl⟩) fun obj s₁ h₁ => ?_
  obtain ⟨rfl, rfl⟩ := h₁
  have st1 := W.frame 0 s (s.heap.push { cls := .type "list", data := .seq #[] }) s.toks hst (Nat.le_refl _) fun b _ o e => Heap.get?_push_of_some _ e
  exact ⟨⟨_, hS, rfl⟩, F.args_list_init_2 _ _, list_init_rev W hT _ st1 hSf hI hS (fun s' acc' c' hm hS' hacc => ⟨rfl, hQ s' acc' c' hm hS' hacc⟩) hn⟩
end
end RL

end
section
set_option maxRecDepth 100000
namespace RL
open PySem
/-- a < b, here -/
def RcLt (A : Around) (s : Shared) (y x : Value) (b : Bool) : Prop := ∀ (prog : Program) (w : World) (E Q : Value → Shared → Prop), Q (.bool b) s → wpAny (model prog w) A (richCompare .Lt y x) Q E s
/-- two rows as long as one another, the first that differs -/
inductive LtIs (A : Around) (s : Shared) : List Value → List Value → Bool → Prop
  | nil : LtIs A s [] [] false
  | same {v w : Value} {vs ws : List Value} {k : Bool} : SeqAt.EqAt A s v w true → LtIs A s vs ws k → LtIs A s (v :: vs) (w :: ws) k
  | diff {v w : Value} {vs ws : List Value} {k : Bool} : SeqAt.EqAt A s v w false → RcLt A s v w k → vs.length = ws.length → LtIs A s (v :: vs) (w :: ws) k
theorem LtIs.len {A : Around} {s : Shared} : ∀ {vs ws : List Value} {k : Bool}, LtIs A s vs ws k → vs.length = ws.length
  | _, _, _, .nil => rfl
  | _, _, _, .same _ h => by rw [List.length_cons, List.length_cons, h.len]
  | _, _, _, .diff _ _ h => by rw [List.length_cons, List.length_cons, h]
section
open PySem.SeqAt
open PySem.AutoSeq1 (wpAny_loadPart')
open PySem.MeetsSeq PySem.MeetsSeq2 PySem.MeetsSeq3
theorem tuple_ltAt (l b : Addr) (items items2 : Array Value) (n n2 : Nat) (dd dd2 : Option Addr) (sl sl2 : Array (Option Value)) (k : Bool) : Meets (Builtin.«tuple.__lt__» ⟨[.ref l, .ref b], []⟩)
    (fun A R s => s.heap.get? l = some { cls := .type "tuple", dict := dd, data := .seq items n, slots := sl } ∧ s.heap.get? b = some { cls := .type "tuple", dict := dd2, data := .seq items2 n2, slots := sl2 } ∧ LtIs A.in1 s items.toList items2.toList k ∧ R (.ok (.ret (.bool k))) s) :=
  .of_wp fun prog w A R s h => by
    obtain ⟨hp, g, d, tk, os⟩ := s; obtain ⟨hl, hb, hk, h⟩ := h; have f2 := AutoSeq1.sub_tuple_tuple
    have zs : items.size = items2.size := by have := hk.len; simpa using this
    wp_walk using wpAny_loadPart' hl, wpAny_loadPart' hb, wpAny_forIn_list _ (fun rest b s' => b.1 = none ∧ s' = ⟨hp, g, d, tk, os⟩ ∧ ∃ (vs ws : List Value), rest = vs.zip ws ∧ LtIs A.in1 ⟨hp, g, d, tk, os⟩ vs ws k) _
    case turn =>
      rintro ⟨y, x⟩ rest b s' ⟨hb', rfl, vs, ws, hz, hlt⟩
      cases hlt with
      | nil => cases hz
      | same he hr =>
        rw [List.zip_cons_cons] at hz
        injection hz with hyx hrest
        injection hyx with hy hx
        subst hy hx
        refine wpAny_bind (he prog w _ _ ?_)
        wp_walk
        exact ⟨rfl, rfl, _, _, hrest, hr⟩
      | diff he hd hn =>
        rw [List.zip_cons_cons] at hz
        injection hz with hyx hrest
        injection hyx with hy hx
        subst hy hx
        refine wpAny_bind (he prog w _ _ ?_)
        have hri := hd prog w
        wp_walk using hri
        exact ⟨_, rfl, (by simpa using h)⟩
    case fin =>
      rintro ⟨b1, b2⟩ s' ⟨hb', rfl, vs, ws, hz, hlt⟩
      simp only at hb'
      subst hb'
      have hv : k = false := by
        cases hlt with
        | nil => rfl
        | same _ _ => rw [List.zip_cons_cons] at hz; cases hz
        | diff _ _ _ => rw [List.zip_cons_cons] at hz; cases hz
      subst hv
      wp_walk
      exact ⟨_, rfl, by simpa [Builtin.Tuple.tupleCompareSizes, zs] using h⟩
    case h =>
      exact ⟨rfl, rfl, items.toList, items2.toList, rfl, hk⟩
end
theorem RcLt.tuples {A : Around} {s : Shared} {l b : Addr} {items items2 : Array Value} {k : Bool} (hl : s.heap.IsTuple l items) (hb : s.heap.IsTuple b items2) (hu : A.units < cLine) (hk : LtIs A.in1 s items.toList items2.toList k) : RcLt A s (.ref l) (.ref b) k := fun prog w E Q h => by
  obtain ⟨⟨cls, dd, data, sl⟩, ho, hc, n, hd⟩ := id hl
  obtain ⟨⟨cls2, dd2, data2, sl2⟩, ho2, hc2, n2, hd2⟩ := id hb
  simp only at hc hd hc2 hd2; subst hc hd hc2 hd2
  exact richCompare_meets_room (op := .Lt) ⟨_, ho, rfl⟩ ⟨_, ho2, rfl⟩ PySem.F.slot_tuple_lt PySem.F.entry_tuple_lt (PySem.F.args_tuple_lt_2 _ _) (tuple_ltAt l b items items2 n n2 dd dd2 sl sl2 k) ⟨ho, ho2, hk, show Value.bool k ≠ Value.notImplemented ∧ Q (.bool k) s from ⟨(fun x => nomatch x), h⟩⟩ hu
end RL

end
section
namespace RL
/-- whole numbers of naturals -/
def iz (l : List Nat) : List Int := l.map fun (n : Nat) => (n : Int)
theorem iz_cons (a : Nat) (l : List Nat) : iz (a :: l) = (a : Int) :: iz l := rfl
theorem iz_append (a b : List Nat) : iz (a ++ b) = iz a ++ iz b := by
  unfold iz
  exact List.map_append
theorem iz_length (a : List Nat) : (iz a).length = a.length := by
  unfold iz
  exact List.length_map ..
theorem iz_toNat : ∀ {l : List Int}, (∀ z ∈ l, 0 ≤ z) → iz (l.map Int.toNat) = l
  | [], _ => rfl
  | a :: l, h => by
    show ((a.toNat : Nat) : Int) :: iz (l.map Int.toNat) = a :: l
    rw [iz_toNat fun z hz => h z (List.mem_cons_of_mem _ hz), Int.toNat_of_nonneg (h a List.mem_cons_self)]
def haulE : Uw09.Plan → List Nat
  | [] => []
  | h :: p => h.from_ :: h.to :: h.loads :: haulE p
theorem haulE_length : ∀ p : Uw09.Plan, (haulE p).length = 3 * p.length
  | [] => rfl
  | h :: p => by
    show (haulE p).length + 1 + 1 + 1 = 3 * (p.length + 1)
    rw [haulE_length p]
    omega
/-- a call's numbers as handed in -/
def enc : Uw17.Call → List Nat
  | .begins s b d f => [0, s, b, d, f]
  | .point g => [1, g]
  | .fix i h => [2, i, h]
  | .free i => [3, i]
  | .pit i t d => [4, i, t, d]
  | .close i => [5, i]
  | .best => [6]
  | .check l p => 7 :: l.length :: (l ++ (haulE p).length :: haulE p)
def Sm (n : Nat) : Prop := n ≤ 4294967295
def CallOk : Uw17.Call → Prop
  | .begins s b d f => Sm s ∧ Sm b ∧ Sm d ∧ Sm f
  | .point g => Sm g
  | .fix i h => Sm i ∧ Sm h
  | .free i => Sm i
  | .pit i t d => Sm i ∧ Sm t ∧ Sm d
  | .close i => Sm i
  | .best => True
  | .check l p => l.length ≤ 20 ∧ p.length ≤ 40 ∧ (∀ x ∈ l, Sm x) ∧ (∀ x ∈ haulE p, Sm x)
theorem haulsIn_inv : ∀ (n : Nat) (l : List Nat) (p : Uw09.Plan), Uw17Neutral.haulsIn n l = some p → l = haulE p ∧ p.length = n
  | 0, [], p, h => by
    have e : ([] : Uw09.Plan) = p := Option.some.inj h
    subst e
    exact ⟨rfl, rfl⟩
  | 0, a :: l, p, h => by
    cases h
  | n + 1, a :: b :: c :: l, p, h => by
    have h' : (Uw17Neutral.haulsIn n l).map (fun r => (⟨a, b, c⟩ : Uw09.Haul) :: r) = some p := h
    cases e : Uw17Neutral.haulsIn n l with
    | none =>
      rw [e] at h'
      cases h'
    | some q =>
      rw [e] at h'
      have e2 : (⟨a, b, c⟩ : Uw09.Haul) :: q = p := Option.some.inj h'
      subst e2
      obtain ⟨h1, h2⟩ := haulsIn_inv n l q e
      subst h1
      exact ⟨rfl, by show q.length + 1 = n + 1; rw [h2]⟩
  | n + 1, [], p, h => by cases h
  | n + 1, [_], p, h => by cases h
  | n + 1, [_, _], p, h => by cases h
theorem nat_of {z : Int} (h : Uw17Neutral.nat z = true) : 0 ≤ z ∧ Sm z.toNat := by
  have h' : (decide (0 ≤ z) && decide (z < 2 ^ 32)) = true := h
  rw [Bool.and_eq_true] at h'
  have h1 := of_decide_eq_true h'.1
  have h2 : z < 4294967296 := of_decide_eq_true h'.2
  refine ⟨h1, ?_⟩
  show z.toNat ≤ 4294967295
  omega
theorem callOf_inv {l : List Int} {x : Uw17.Call} (h : Uw17Neutral.callOf l = some x) : (∀ z ∈ l, 0 ≤ z ∧ Sm z.toNat) ∧ Uw17Neutral.callIn (l.map Int.toNat) = some x := by
  have h' : (if l.all Uw17Neutral.nat = false then none else Uw17Neutral.callIn (l.map Int.toNat)) = some x := h
  cases e : l.all Uw17Neutral.nat with
  | false =>
    rw [if_pos e] at h'
    cases h'
  | true =>
    rw [if_neg (by rw [e]; decide)] at h'
    rw [List.all_eq_true] at e
    exact ⟨fun z hz => nat_of (e z hz), h'⟩
theorem len1 {a : List Int} (h : a.length = 1) : ∃ x, a = [x] := by
  match a, h with
  | [x], _ => exact ⟨x, rfl⟩
theorem len2 {α : Type} {a : List α} (h : a.length = 2) : ∃ x y, a = [x, y] := by
  match a, h with
  | [x, y], _ => exact ⟨x, y, rfl⟩
theorem len3 {a : List Int} (h : a.length = 3) : ∃ x y z, a = [x, y, z] := by
  match a, h with
  | [x, y, z], hw => exact ⟨x, y, z, rfl⟩
theorem len4 {a : List Int} (h : a.length = 4) : ∃ x y z w, a = [x, y, z, w] := by
  match a, h with
  | [x, y, z, w], _ => exact ⟨x, y, z, w, rfl⟩
theorem call_ok {c : List (List Int)} (hs : PyFlat.okCall PyUw17.shape c) {x : Uw17.Call} (h : Uw17Neutral.callOf ((PyUw17.whole c).headD []) = some x) : PyFlat.put1 c = iz (enc x) ∧ CallOk x := by
  obtain ⟨p, a, xs, e, hp⟩ := hs
  subst e
  have hp' : (if p = 0 then some (4, 0) else if p = 1 then some (1, 0) else if p = 2 then some (2, 0) else if p = 3 then some (1, 0) else if p = 4 then some (3, 0) else if p = 5 then some (1, 0) else if p = 6 then some (0, 0) else if p = 7 then some (0, 2) else none) = some (a.length, xs.length) := hp
  by_cases p0 : p = 0
  · subst p0
    obtain ⟨e1, e2⟩ := Prod.mk.inj (Option.some.inj hp')
    obtain ⟨s, b, d, f, rfl⟩ := len4 e1.symm
    obtain rfl := List.length_eq_zero_iff.mp e2.symm
    obtain ⟨h1, h2⟩ := callOf_inv (l := [0, s, b, d, f]) h
    have e3 : Uw17.Call.begins s.toNat b.toNat d.toNat f.toNat = x := Option.some.inj h2
    subst e3
    refine ⟨?_, (h1 s (by simp)).2, (h1 b (by simp)).2, (h1 d (by simp)).2, (h1 f (by simp)).2⟩
    exact (iz_toNat (l := [0, s, b, d, f]) fun z hz => (h1 z hz).1).symm
  rw [if_neg p0] at hp'
  by_cases p1 : p = 1
  · subst p1
    obtain ⟨e1, e2⟩ := Prod.mk.inj (Option.some.inj hp')
    obtain ⟨s, rfl⟩ := len1 e1.symm
    obtain rfl := List.length_eq_zero_iff.mp e2.symm
    obtain ⟨h1, h2⟩ := callOf_inv (l := [1, s]) h
    have e3 : Uw17.Call.point s.toNat = x := Option.some.inj h2
    subst e3
    exact ⟨(iz_toNat (l := [1, s]) fun z hz => (h1 z hz).1).symm, (h1 s (by simp)).2⟩
  rw [if_neg p1] at hp'
  by_cases p2 : p = 2
  · subst p2
    obtain ⟨e1, e2⟩ := Prod.mk.inj (Option.some.inj hp')
    obtain ⟨s, b, rfl⟩ := len2 e1.symm
    obtain rfl := List.length_eq_zero_iff.mp e2.symm
    obtain ⟨h1, h2⟩ := callOf_inv (l := [2, s, b]) h
    have e3 : Uw17.Call.fix s.toNat b.toNat = x := Option.some.inj h2
    subst e3
    exact ⟨(iz_toNat (l := [2, s, b]) fun z hz => (h1 z hz).1).symm, (h1 s (by simp)).2, (h1 b (by simp)).2⟩
  rw [if_neg p2] at hp'
  by_cases p3 : p = 3
  · subst p3
    obtain ⟨e1, e2⟩ := Prod.mk.inj (Option.some.inj hp')
    obtain ⟨s, rfl⟩ := len1 e1.symm
    obtain rfl := List.length_eq_zero_iff.mp e2.symm
    obtain ⟨h1, h2⟩ := callOf_inv (l := [3, s]) h
    have e3 : Uw17.Call.free s.toNat = x := Option.some.inj h2
    subst e3
    exact ⟨(iz_toNat (l := [3, s]) fun z hz => (h1 z hz).1).symm, (h1 s (by simp)).2⟩
  rw [if_neg p3] at hp'
  by_cases p4 : p = 4
  · subst p4
    obtain ⟨e1, e2⟩ := Prod.mk.inj (Option.some.inj hp')
    obtain ⟨s, b, d, rfl⟩ := len3 e1.symm
    obtain rfl := List.length_eq_zero_iff.mp e2.symm
    obtain ⟨h1, h2⟩ := callOf_inv (l := [4, s, b, d]) h
    have e3 : Uw17.Call.pit s.toNat b.toNat d.toNat = x := Option.some.inj h2
    subst e3
    exact ⟨(iz_toNat (l := [4, s, b, d]) fun z hz => (h1 z hz).1).symm, (h1 s (by simp)).2, (h1 b (by simp)).2, (h1 d (by simp)).2⟩
  rw [if_neg p4] at hp'
  by_cases p5 : p = 5
  · subst p5
    obtain ⟨e1, e2⟩ := Prod.mk.inj (Option.some.inj hp')
    obtain ⟨s, rfl⟩ := len1 e1.symm
    obtain rfl := List.length_eq_zero_iff.mp e2.symm
    obtain ⟨h1, h2⟩ := callOf_inv (l := [5, s]) h
    have e3 : Uw17.Call.close s.toNat = x := Option.some.inj h2
    subst e3
    exact ⟨(iz_toNat (l := [5, s]) fun z hz => (h1 z hz).1).symm, (h1 s (by simp)).2⟩
  rw [if_neg p5] at hp'
  by_cases p6 : p = 6
  · subst p6
    obtain ⟨e1, e2⟩ := Prod.mk.inj (Option.some.inj hp')
    obtain rfl := List.length_eq_zero_iff.mp e1.symm
    obtain rfl := List.length_eq_zero_iff.mp e2.symm
    obtain ⟨h1, h2⟩ := callOf_inv (l := [6]) h
    have e3 : Uw17.Call.best = x := Option.some.inj h2
    subst e3
    exact ⟨rfl, trivial⟩
  rw [if_neg p6] at hp'
  by_cases p7 : p = 7
  · subst p7
    obtain ⟨e1, e2⟩ := Prod.mk.inj (Option.some.inj hp')
    obtain rfl := List.length_eq_zero_iff.mp e1.symm
    obtain ⟨r0, r1, rfl⟩ := len2 e2.symm
    obtain ⟨h1, h2⟩ := callOf_inv (l := [7] ++ [(r0.length : Int)] ++ r0 ++ [((r1.length : Int) / 3)] ++ r1) h
    have hr0 : ∀ z ∈ r0, 0 ≤ z ∧ Sm z.toNat := fun z hz => h1 z (by simp [hz])
    have hr1 : ∀ z ∈ r1, 0 ≤ z ∧ Sm z.toNat := fun z hz => h1 z (by simp [hz])
    have e3 : ([7] ++ [(r0.length : Int)] ++ r0 ++ [((r1.length : Int) / 3)] ++ r1).map Int.toNat = 7 :: r0.length :: (r0.map Int.toNat ++ (r1.length / 3) :: r1.map Int.toNat) := by
      have q : ((r1.length : Int) / 3).toNat = r1.length / 3 := by omega
      simp [q]
    rw [e3] at h2
    have h3 : (if 20 < r0.length ∨ (r0.map Int.toNat ++ (r1.length / 3) :: r1.map Int.toNat).length < r0.length then none else match (r0.map Int.toNat ++ (r1.length / 3) :: r1.map Int.toNat).drop r0.length with
      | m :: r => if m ≤ 40 then (Uw17Neutral.haulsIn m r).map (Uw17.Call.check ((r0.map Int.toNat ++ (r1.length / 3) :: r1.map Int.toNat).take r0.length)) else none
      | [] => none) = some x := h2
    have hl : (r0.map Int.toNat).length = r0.length := List.length_map ..
    have k1 : (r0.map Int.toNat ++ (r1.length / 3) :: r1.map Int.toNat).drop r0.length = (r1.length / 3) :: r1.map Int.toNat := by
      rw [← hl]
      exact List.drop_left ..
    have k2 : (r0.map Int.toNat ++ (r1.length / 3) :: r1.map Int.toNat).take r0.length = r0.map Int.toNat := by
      rw [← hl]
      exact List.take_left ..
    rw [k1, k2] at h3
    by_cases c1 : 20 < r0.length ∨ (r0.map Int.toNat ++ (r1.length / 3) :: r1.map Int.toNat).length < r0.length
    · rw [if_pos c1] at h3
      cases h3
    rw [if_neg c1] at h3
    have h4 : (if r1.length / 3 ≤ 40 then (Uw17Neutral.haulsIn (r1.length / 3) (r1.map Int.toNat)).map (Uw17.Call.check (r0.map Int.toNat)) else none) = some x := h3
    by_cases c2 : r1.length / 3 ≤ 40
    · rw [if_pos c2] at h4
      cases eh : Uw17Neutral.haulsIn (r1.length / 3) (r1.map Int.toNat) with
      | none =>
        rw [eh] at h4
        cases h4
      | some q =>
        rw [eh] at h4
        have e5 : Uw17.Call.check (r0.map Int.toNat) q = x := Option.some.inj h4
        subst e5
        obtain ⟨g1, g2⟩ := haulsIn_inv _ _ _ eh
        have g3 : iz (haulE q) = r1 := by
          rw [← g1]
          exact iz_toNat fun z hz => (hr1 z hz).1
        have g4 : (haulE q).length = r1.length := by
          rw [← g1]
          exact List.length_map ..
        refine ⟨?_, ?_, ?_, ?_, ?_⟩
        · show [7] ++ ((r0.length : Int) :: r0 ++ ((r1.length : Int) :: r1 ++ [])) = (7 : Int) :: (((r0.map Int.toNat).length : Nat) : Int) :: iz (r0.map Int.toNat ++ (haulE q).length :: haulE q)
          rw [iz_append, iz_cons, g3, g4, hl, iz_toNat fun z hz => (hr0 z hz).1]
          simp
        · rw [hl]
          omega
        · omega
        · intro y hy
          obtain ⟨z, hz, rfl⟩ := List.mem_map.mp hy
          exact (hr0 z hz).2
        · rw [← g1]
          intro y hy
          obtain ⟨z, hz, rfl⟩ := List.mem_map.mp hy
          exact (hr1 z hz).2
    · rw [if_neg c2] at h4
      cases h4
  · rw [if_neg p7] at hp'
    cases hp'
/-- what is answered from a state on -/
def told : Uw17.Build → List Uw17.Call → List Int
  | _, [] => []
  | b, c :: cs => (((Uw17.step b c).2.l.length : Int) + 1) :: (Uw17.step b c).2.v :: ((Uw17.step b c).2.l ++ told (Uw17.step b c).1 cs)
def encs (cs : List Uw17.Call) : List Int := cs.flatMap fun c => iz (enc c)
theorem told_eq : ∀ (ws : List (List (List Int))) (b : Uw17.Build) (cs : List Uw17.Call), ws.map (fun c => Uw17Neutral.callOf (c.headD [])) = cs.map some → PyFlat.told (PyFlat.played (fun s c => Uw17Neutral.step s (c.headD [])) b ws) = told b cs
  | [], b, [], _ => rfl
  | [], b, _ :: _, h => by cases h
  | _ :: _, b, [], h => by cases h
  | w :: ws, b, c :: cs, h => by
    obtain ⟨h1, h2⟩ := List.cons.inj (show Uw17Neutral.callOf (w.headD []) :: ws.map (fun c => Uw17Neutral.callOf (c.headD [])) = some c :: cs.map some from h)
    have e : Uw17Neutral.step b (w.headD []) = ((Uw17.step b c).1, Uw17Neutral.out (Uw17.step b c).2) := by
      unfold Uw17Neutral.step
      rw [h1]
    show ((Uw17Neutral.step b (w.headD [])).2.length : Int) :: (Uw17Neutral.step b (w.headD [])).2 ++ PyFlat.told (PyFlat.played (fun s c => Uw17Neutral.step s (c.headD [])) (Uw17Neutral.step b (w.headD [])).1 ws) = _
    rw [told_eq ws _ cs h2, e]
    rfl
theorem put_encs : ∀ (raw : List (List (List Int))) (cs : List Uw17.Call), (∀ c ∈ raw, PyFlat.okCall PyUw17.shape c) → raw.map (fun c => Uw17Neutral.callOf ((PyUw17.whole c).headD [])) = cs.map some → PyFlat.put raw = encs cs ∧ ∀ c ∈ cs, CallOk c
  | [], [], _, _ => ⟨rfl, fun _ h => by cases h⟩
  | [], _ :: _, _, h => by cases h
  | _ :: _, [], _, h => by cases h with | _ => skip
  | w :: ws, c :: cs, ho, h => by
    obtain ⟨h1, h2⟩ := List.cons.inj (show Uw17Neutral.callOf ((PyUw17.whole w).headD []) :: ws.map (fun c => Uw17Neutral.callOf ((PyUw17.whole c).headD [])) = some c :: cs.map some from h)
    obtain ⟨g1, g2⟩ := put_encs ws cs (fun d hd => ho d (List.mem_cons_of_mem _ hd)) h2
    obtain ⟨g3, g4⟩ := call_ok (ho w List.mem_cons_self) h1
    refine ⟨?_, fun d hd => ?_⟩
    · show PyFlat.put1 w ++ PyFlat.put ws = iz (enc c) ++ encs cs
      rw [g1, g3]
    · cases hd with
      | head => exact g4
      | tail _ hd => exact g2 d hd
theorem all_some {α β : Type} {f : α → Option β} : ∀ {l : List α}, (∀ a ∈ l, (f a).isSome = true) → ∃ m : List β, l.map f = m.map some
  | [], _ => ⟨[], rfl⟩
  | a :: l, h => by
    obtain ⟨m, hm⟩ := all_some (l := l) fun b hb => h b (List.mem_cons_of_mem _ hb)
    obtain ⟨y, hy⟩ := Option.isSome_iff_exists.mp (h a List.mem_cons_self)
    exact ⟨y :: m, by rw [List.map_cons, List.map_cons, hm, hy]⟩
/-- **What is handed in, and what is due.** -/
theorem asked_calls {l : List Int} (h : PyUw17.answers_asked l = true) : ∃ cs : List Uw17.Call, l = encs cs ∧ 1 ≤ cs.length ∧ cs.length ≤ 60 ∧ (∀ c ∈ cs, CallOk c) ∧ PyUw17.answers l = told Uw17.init cs := by
  unfold PyUw17.answers_asked at h
  cases e : PyFlat.calls PyUw17.shape l.length l with
  | none =>
    rw [e] at h
    cases h
  | some raw =>
    rw [e] at h
    have h' : (!raw.isEmpty && PyFlat.atMost 60 raw && PyInside.calls PyUw17.bound raw && Uw17Neutral.asked ((raw.map PyUw17.whole).map fun c => c.headD []) && PyFlat.short 10000000 (PyUw17.answers l)) = true := h
    rw [Bool.and_eq_true, Bool.and_eq_true, Bool.and_eq_true, Bool.and_eq_true] at h'
    obtain ⟨⟨⟨⟨h1, h2⟩, h3⟩, h4⟩, h5⟩ := h'
    obtain ⟨g1, g2⟩ := PyFlat.put_calls _ _ _ e
    have h4' : (((raw.map PyUw17.whole).map fun c => c.headD []).all Uw17Neutral.asked1 && _) = true := h4
    rw [Bool.and_eq_true] at h4'
    have a1 := List.all_eq_true.mp h4'.1
    have a2 : ∀ c ∈ raw, (Uw17Neutral.callOf ((PyUw17.whole c).headD [])).isSome = true := fun c hc => a1 _ (List.mem_map.mpr ⟨_, List.mem_map.mpr ⟨c, hc, rfl⟩, rfl⟩)
    obtain ⟨cs, hcs⟩ := all_some a2
    obtain ⟨b1, b2⟩ := put_encs raw cs g2 hcs
    have hlen : raw.length = cs.length := by
      have q := congrArg List.length hcs
      rw [List.length_map, List.length_map] at q
      exact q
    refine ⟨cs, g1.trans b1, ?_, ?_, b2, ?_⟩
    · rw [← hlen]
      cases raw with
      | nil => cases h1
      | cons _ _ => exact Nat.succ_le_succ (Nat.zero_le _)
    · rw [← hlen]
      exact of_decide_eq_true h2
    · unfold PyUw17.answers PyUw17.calls
      rw [e]
      exact told_eq (raw.map PyUw17.whole) _ cs (by rw [List.map_map]; exact hcs)
end RL

end
section
namespace RL
open Uw09 (Road Section price Best better spread table most total)
/-- What flows over the right borders cost (the last one beyond the end), so much coming in. -/
def fc : Uw09.Road → Int → List Int → Option Nat
  | [], f, [] => if f = 0 then some 0 else none
  | s :: l, f, y :: ys => match price s.pit (f + s.over - y), fc l y ys with
    | some k, some c => some (y.natAbs + k + c)
    | _, _ => none
  | [], _, _ :: _ => none
  | _ :: _, _, [] => none
def lexle : List Int → List Int → Prop
  | [], _ => True
  | _ :: _, [] => False
  | x :: xs, y :: ys => x < y ∨ (x = y ∧ lexle xs ys)
theorem lexle_refl : ∀ l, lexle l l
  | [] => trivial
  | _ :: l => .inr ⟨rfl, lexle_refl l⟩
theorem lexle_antisymm : ∀ {a b : List Int}, lexle a b → lexle b a → a = b
  | [], [], _, _ => rfl
  | [], _ :: _, _, h => h.elim
  | _ :: _, [], h, _ => h.elim
  | x :: xs, y :: ys, h1, h2 => by
    rcases h1 with h1 | ⟨rfl, h1⟩
    · rcases h2 with h2 | ⟨rfl, h2⟩
      · omega
      · omega
    · rcases h2 with h2 | ⟨_, h2⟩
      · omega
      · rw [lexle_antisymm h1 h2]
theorem fc_len : ∀ {r : Uw09.Road} {f : Int} {ys : List Int} {c : Nat}, fc r f ys = some c → ys.length = r.length
  | [], _, [], _, _ => rfl
  | [], _, _ :: _, _, h => by cases h
  | _ :: _, _, [], _, h => by cases h
  | s :: l, f, y :: ys, c, h => by
    have h' : (match price s.pit (f + s.over - y), fc l y ys with
      | some k, some c => some (y.natAbs + k + c)
      | _, _ => none) = some c := h
    cases e : fc l y ys with
    | none =>
      rw [e] at h'
      cases e2 : price s.pit (f + s.over - y) with
      | none => rw [e2] at h'; cases h'
      | some k => rw [e2] at h'; cases h'
    | some d =>
      show ys.length + 1 = l.length + 1
      rw [fc_len e]
theorem fc_cons {s : Uw09.Section} {l : Uw09.Road} {f y : Int} {ys : List Int} {c : Nat} : fc (s :: l) f (y :: ys) = some c ↔ ∃ k d, price s.pit (f + s.over - y) = some k ∧ fc l y ys = some d ∧ c = y.natAbs + k + d := by
  show (match price s.pit (f + s.over - y), fc l y ys with
      | some k, some c => some (y.natAbs + k + c)
      | _, _ => none) = some c ↔ _
  cases e2 : price s.pit (f + s.over - y) with
  | none => exact ⟨fun h => (by cases h), fun ⟨_, _, h, _⟩ => (by cases h)⟩
  | some k =>
    cases e : fc l y ys with
    | none => exact ⟨fun h => (by cases h), fun ⟨_, _, _, h, _⟩ => (by cases h)⟩
    | some d =>
      constructor
      · intro h
        exact ⟨k, d, rfl, rfl, (Option.some.inj h).symm⟩
      · rintro ⟨k', d', h1, h2, h3⟩
        cases h1
        cases h2
        rw [h3]
/-! ### Within bounds -/
def Bd (m : Nat) (ys : List Int) : Prop := ∀ y ∈ ys, -(m : Int) ≤ y ∧ y ≤ (m : Int)
/-- the best of those within bounds -/
def OptB (m : Nat) (r : Uw09.Road) (f : Int) (o : Option Uw09.Best) : Prop :=
  (o = none ∧ ∀ ys, Bd m ys → fc r f ys = none) ∨
  (∃ b, o = some b ∧ Bd m b.flows ∧ fc r f b.flows = some b.cost ∧ ∀ ys c, Bd m ys → fc r f ys = some c → b.cost < c ∨ (b.cost = c ∧ lexle b.flows ys))
/-- the entry for what comes in -/
def ent (m : Nat) : Uw09.Road → Int → Option Uw09.Best
  | [], f => if f = 0 then some ⟨0, 1, []⟩ else none
  | s :: l, f => match s.pit with
      | none => let o := f + s.over
        if o < -(m : Int) ∨ (m : Int) < o then none else ((table m l).getD (o + m).toNat none).map fun x => ⟨o.natAbs + x.cost, x.many, o :: x.flows⟩
      | some _ => ((spread m).zip (table m l)).foldl (fun (r : Option Best) y => better r (match price s.pit (f + s.over - y.1) with
        | none => none
        | some k => y.2.map fun x => ⟨y.1.natAbs + k + x.cost, x.many, y.1 :: x.flows⟩)) none
theorem table_eq (m : Nat) : ∀ r, table m r = (spread m).map (ent m r)
  | [] => rfl
  | _ :: _ => rfl
theorem spread_at (m : Nat) {f : Int} (h1 : -(m : Int) ≤ f) (h2 : f ≤ (m : Int)) : (spread m)[(f + m).toNat]? = some f := by
  unfold spread
  rw [List.getElem?_map, List.getElem?_range (by omega)]
  show some ((((f + m).toNat : Nat) : Int) - (m : Int)) = some f
  congr 1
  omega
theorem spread_mem (m : Nat) {f : Int} : f ∈ spread m ↔ -(m : Int) ≤ f ∧ f ≤ (m : Int) := by
  constructor
  · intro h
    unfold spread at h
    obtain ⟨i, hi, rfl⟩ := (List.mem_map.mp h : _)
    rw [List.mem_range] at hi
    omega
  · intro ⟨h1, h2⟩
    exact List.mem_of_getElem? (spread_at m h1 h2)
theorem spread_lt (m : Nat) : (spread m).Pairwise (· < ·) := by
  unfold spread
  rw [List.pairwise_map]
  exact List.Pairwise.imp (fun {a b} h => by omega) List.pairwise_lt_range
theorem table_at (m : Nat) (r : Uw09.Road) {f : Int} (h1 : -(m : Int) ≤ f) (h2 : f ≤ (m : Int)) : (table m r).getD (f + m).toNat none = ent m r f := by
  rw [List.getD_eq_getElem?_getD, table_eq, List.getElem?_map, spread_at m h1 h2]
  rfl
theorem zip_map {α β : Type} (g : α → β) : ∀ l : List α, l.zip (l.map g) = l.map fun a => (a, g a)
  | [] => rfl
  | a :: l => by
    show (a, g a) :: l.zip (l.map g) = _
    rw [zip_map g l]
    rfl
/-- the fold over candidates, in order -/
def FInv (g : Int → Option Uw09.Best) (acc : Option Uw09.Best) (pre : List Int) : Prop :=
  (acc = none ∧ ∀ y ∈ pre, g y = none) ∨
  (∃ b y c, acc = some b ∧ y ∈ pre ∧ g y = some c ∧ b.cost = c.cost ∧ b.flows = c.flows ∧ ∀ y' ∈ pre, ∀ c', g y' = some c' → b.cost < c'.cost ∨ (b.cost = c'.cost ∧ y ≤ y'))
theorem FInv.step {g : Int → Option Uw09.Best} {acc : Option Uw09.Best} {pre : List Int} {z : Int} (h : FInv g acc pre) (hz : ∀ y ∈ pre, y < z) : FInv g (better acc (g z)) (pre ++ [z]) := by
  rcases h with ⟨rfl, h⟩ | ⟨b, y, c, rfl, hy, hg, e1, e2, hm⟩
  · have e : better none (g z) = g z := by cases g z <;> rfl
    rw [e]
    cases eg : g z with
    | none =>
      refine .inl ⟨rfl, fun y hy => ?_⟩
      rcases List.mem_append.mp hy with hy | hy
      · exact h y hy
      · rw [List.mem_singleton.mp hy]; exact eg
    | some c =>
      refine .inr ⟨c, z, c, rfl, List.mem_append_right _ (List.mem_singleton.mpr rfl), eg, rfl, rfl, fun y' hy' c' hc' => ?_⟩
      rcases List.mem_append.mp hy' with hy' | hy'
      · rw [h y' hy'] at hc'; cases hc'
      · rw [List.mem_singleton.mp hy', eg] at hc'
        cases hc'
        rw [List.mem_singleton.mp hy']
        exact .inr ⟨rfl, Int.le_refl _⟩
  · cases eg : g z with
    | none =>
      refine .inr ⟨b, y, c, rfl, List.mem_append_left _ hy, hg, e1, e2, fun y' hy' c' hc' => ?_⟩
      rcases List.mem_append.mp hy' with hy' | hy'
      · exact hm y' hy' c' hc'
      · rw [List.mem_singleton.mp hy', eg] at hc'
        cases hc'
    | some d =>
      have e : better (some b) (some d) = if d.cost < b.cost then some d else if b.cost < d.cost then some b else some ⟨b.cost, b.many + d.many, b.flows⟩ := rfl
      rw [e]
      by_cases k1 : d.cost < b.cost
      · rw [if_pos k1]
        refine .inr ⟨d, z, d, rfl, List.mem_append_right _ (List.mem_singleton.mpr rfl), eg, rfl, rfl, fun y' hy' c' hc' => ?_⟩
        rcases List.mem_append.mp hy' with hy' | hy'
        · have := hm y' hy' c' hc'
          left
          omega
        · rw [List.mem_singleton.mp hy', eg] at hc'
          cases hc'
          rw [List.mem_singleton.mp hy']
          exact .inr ⟨rfl, Int.le_refl _⟩
      · rw [if_neg k1]
        have last : ∀ y' ∈ pre ++ [z], ∀ c', g y' = some c' → b.cost < c'.cost ∨ (b.cost = c'.cost ∧ y ≤ y') := by
          intro y' hy' c' hc'
          rcases List.mem_append.mp hy' with hy' | hy'
          · exact hm y' hy' c' hc'
          · rw [List.mem_singleton.mp hy', eg] at hc'
            cases hc'
            rw [List.mem_singleton.mp hy']
            have := hz y hy
            omega
        by_cases k2 : b.cost < d.cost
        · rw [if_pos k2]
          exact .inr ⟨b, y, c, rfl, List.mem_append_left _ hy, hg, e1, e2, last⟩
        · rw [if_neg k2]
          exact .inr ⟨_, y, c, rfl, List.mem_append_left _ hy, hg, e1, e2, last⟩
theorem FInv.all {g : Int → Option Uw09.Best} : ∀ (L pre : List Int) (acc : Option Uw09.Best), FInv g acc pre → (pre ++ L).Pairwise (· < ·) → FInv g (L.foldl (fun r y => better r (g y)) acc) (pre ++ L)
  | [], pre, acc, h, _ => by rw [List.append_nil]; exact h
  | z :: L, pre, acc, h, hp => by
    have e : pre ++ z :: L = (pre ++ [z]) ++ L := by simp
    rw [e] at hp ⊢
    refine FInv.all L (pre ++ [z]) _ (h.step fun y hy => ?_) hp
    have := (List.pairwise_append.mp (List.pairwise_append.mp hp).1).2.2 y hy z (List.mem_singleton.mpr rfl)
    exact this
theorem bd_cons {m : Nat} {y : Int} {ys : List Int} : Bd m (y :: ys) ↔ (-(m : Int) ≤ y ∧ y ≤ (m : Int)) ∧ Bd m ys := by
  constructor
  · intro h
    exact ⟨h y List.mem_cons_self, fun z hz => h z (List.mem_cons_of_mem _ hz)⟩
  · rintro ⟨h1, h2⟩ z hz
    cases hz with
    | head => exact h1
    | tail _ hz => exact h2 z hz
/-- **The table's entries are the best within bounds.** -/
theorem ent_opt (m : Nat) : ∀ (r : Uw09.Road) (f : Int), OptB m r f (ent m r f)
  | [], f => by
    by_cases h : f = 0
    · refine .inr ⟨⟨0, 1, []⟩, if_pos h, fun y hy => (by cases hy), if_pos h, fun ys c _ hc => ?_⟩
      cases ys with
      | nil =>
        rw [show fc [] f [] = some 0 from if_pos h] at hc
        cases hc
        exact .inr ⟨rfl, trivial⟩
      | cons _ _ => cases hc
    · refine .inl ⟨if_neg h, fun ys _ => ?_⟩
      cases ys with
      | nil => exact if_neg h
      | cons _ _ => rfl
  | s :: l, f => by
    have ih := ent_opt m l
    cases hp : s.pit with
    | none =>
      have e0 : ent m (s :: l) f = if f + s.over < -(m : Int) ∨ (m : Int) < f + s.over then none else ((table m l).getD (f + s.over + m).toNat none).map fun x => ⟨(f + s.over).natAbs + x.cost, x.many, (f + s.over) :: x.flows⟩ := by
        show (match s.pit with
          | none => _
          | some _ => _) = _
        rw [hp]
      have hpr : ∀ y : Int, price s.pit (f + s.over - y) = if f + s.over - y = 0 then some 0 else none := fun y => by rw [hp]; rfl
      -- whatever is right carries just what is over
      have only : ∀ ys c, fc (s :: l) f ys = some c → ∃ zs d, ys = (f + s.over) :: zs ∧ fc l (f + s.over) zs = some d ∧ c = (f + s.over).natAbs + d := by
        intro ys c hc
        cases ys with
        | nil => cases hc
        | cons y zs =>
          obtain ⟨k, d, h1, h2, h3⟩ := fc_cons.mp hc
          rw [hpr] at h1
          by_cases q : f + s.over - y = 0
          · rw [if_pos q] at h1
            cases h1
            have e : y = f + s.over := by omega
            subst e
            exact ⟨zs, d, rfl, h2, by omega⟩
          · rw [if_neg q] at h1
            cases h1
      rw [e0]
      by_cases q : f + s.over < -(m : Int) ∨ (m : Int) < f + s.over
      · rw [if_pos q]
        refine .inl ⟨rfl, fun ys hb => ?_⟩
        cases e : fc (s :: l) f ys with
        | none => rfl
        | some c =>
          obtain ⟨zs, d, rfl, _, _⟩ := only ys c e
          have := (bd_cons.mp hb).1
          omega
      · rw [if_neg q, table_at m l (by omega) (by omega)]
        rcases ih (f + s.over) with ⟨e1, h⟩ | ⟨b, e1, h1, h2, h3⟩
        · rw [e1]
          refine .inl ⟨rfl, fun ys hb => ?_⟩
          cases e : fc (s :: l) f ys with
          | none => rfl
          | some c =>
            obtain ⟨zs, d, rfl, h5, _⟩ := only ys c e
            rw [h zs (bd_cons.mp hb).2] at h5
            cases h5
        · rw [e1]
          refine .inr ⟨_, rfl, bd_cons.mpr ⟨by omega, h1⟩, ?_, fun ys c hb hc => ?_⟩
          · refine fc_cons.mpr ⟨0, b.cost, ?_, h2, rfl⟩
            rw [hpr, if_pos (by omega)]
          · obtain ⟨zs, d, rfl, h5, h6⟩ := only ys c hc
            have := h3 zs d (bd_cons.mp hb).2 h5
            show (f + s.over).natAbs + b.cost < c ∨ ((f + s.over).natAbs + b.cost = c ∧ lexle ((f + s.over) :: b.flows) ((f + s.over) :: zs))
            rcases this with this | ⟨t1, t2⟩
            · left
              omega
            · right
              exact ⟨by omega, .inr ⟨rfl, t2⟩⟩
    | some pp =>
      let g : Int → Option Uw09.Best := fun y => match price s.pit (f + s.over - y) with
        | none => none
        | some k => (ent m l y).map fun x => ⟨y.natAbs + k + x.cost, x.many, y :: x.flows⟩
      have e0 : ent m (s :: l) f = (spread m).foldl (fun r y => better r (g y)) none := by
        show (match s.pit with
          | none => _
          | some _ => _) = _
        rw [hp]
        show ((spread m).zip (table m l)).foldl _ none = _
        rw [table_eq, zip_map, List.foldl_map, ← hp]
      have gv : ∀ y c, g y = some c ↔ ∃ k x, price s.pit (f + s.over - y) = some k ∧ ent m l y = some x ∧ c = ⟨y.natAbs + k + x.cost, x.many, y :: x.flows⟩ := by
        intro y c
        show (match price s.pit (f + s.over - y) with
          | none => none
          | some k => (ent m l y).map fun x => (⟨y.natAbs + k + x.cost, x.many, y :: x.flows⟩ : Uw09.Best)) = some c ↔ _
        cases e1 : price s.pit (f + s.over - y) with
        | none => exact ⟨fun h => (by cases h), fun ⟨_, _, h, _⟩ => (by cases h)⟩
        | some k =>
          cases e2 : ent m l y with
          | none => exact ⟨fun h => (by cases h), fun ⟨_, _, _, h, _⟩ => (by cases h)⟩
          | some x =>
            constructor
            · intro h
              exact ⟨k, x, rfl, rfl, (Option.some.inj h).symm⟩
            · rintro ⟨k', x', h1, h2, h3⟩
              cases h1
              cases h2
              rw [h3]
              rfl
      rw [e0]
      have F := FInv.all (g := g) (spread m) [] none (.inl ⟨rfl, fun _ h => by cases h⟩) (spread_lt m)
      rw [List.nil_append] at F
      rcases F with ⟨e1, h⟩ | ⟨b, y, c, e1, hy, hg, c1, c2, hm⟩
      · rw [e1]
        refine .inl ⟨rfl, fun ys hb => ?_⟩
        cases ys with
        | nil => rfl
        | cons y zs =>
          obtain ⟨hy, hb⟩ := bd_cons.mp hb
          cases e : fc (s :: l) f (y :: zs) with
          | none => rfl
          | some c =>
            obtain ⟨k, d, h1, h2, h3⟩ := fc_cons.mp e
            rcases ih y with ⟨e2, h4⟩ | ⟨b, e2, _⟩
            · rw [h4 zs hb] at h2
              cases h2
            · have := (gv y _).mpr ⟨k, b, h1, e2, rfl⟩
              rw [h y ((spread_mem m).mpr hy)] at this
              cases this
      · rw [e1]
        obtain ⟨k, x, p1, p2, p3⟩ := (gv y c).mp hg
        subst p3
        have hb0 := (spread_mem m).mp hy
        rcases ih y with ⟨e2, _⟩ | ⟨x', e2, x1, x2, x3⟩
        · rw [p2] at e2
          cases e2
        · rw [p2] at e2
          cases e2
          refine .inr ⟨b, rfl, ?_, ?_, fun ys c hb hc => ?_⟩
          · rw [c2]
            exact bd_cons.mpr ⟨hb0, x1⟩
          · rw [c2, c1]
            exact fc_cons.mpr ⟨k, x.cost, p1, x2, rfl⟩
          · cases ys with
            | nil => cases hc
            | cons y' zs =>
              obtain ⟨hy', hb⟩ := bd_cons.mp hb
              obtain ⟨k', d, h1, h2, h3⟩ := fc_cons.mp hc
              rcases ih y' with ⟨e3, h4⟩ | ⟨x', e3, z1, z2, z3⟩
              · rw [h4 zs hb] at h2
                cases h2
              · have g' := (gv y' _).mpr ⟨k', x', h1, e3, rfl⟩
                have q1 := hm y' ((spread_mem m).mpr hy') _ g'
                have q2 := z3 zs d hb h2
                have q1' : b.cost < y'.natAbs + k' + x'.cost ∨ (b.cost = y'.natAbs + k' + x'.cost ∧ y ≤ y') := q1
                rw [c2]
                by_cases lt : b.cost < c
                · exact .inl lt
                · right
                  rcases q2 with q2 | ⟨q2, q4⟩
                  · omega
                  · refine ⟨by omega, ?_⟩
                    show y < y' ∨ (y = y' ∧ lexle x.flows zs)
                    by_cases yy : y = y'
                    · subst yy
                      rw [p2] at e3
                      cases e3
                      exact .inr ⟨rfl, q4⟩
                    · left
                      omega
/-! ### Beyond the bounds nothing is better -/
def pos : Uw09.Road → Int
  | [] => 0
  | s :: l => max s.over 0 + pos l
def neg : Uw09.Road → Int
  | [] => 0
  | s :: l => max (-s.over) 0 + neg l
theorem pos_nn : ∀ r, 0 ≤ pos r
  | [] => Int.le_refl _
  | s :: l => by
    have := pos_nn l
    show 0 ≤ max s.over 0 + pos l
    omega
theorem neg_nn : ∀ r, 0 ≤ neg r
  | [] => Int.le_refl _
  | s :: l => by
    have := neg_nn l
    show 0 ≤ max (-s.over) 0 + neg l
    omega
theorem foldl_add (l : List Nat) : ∀ a, l.foldl (fun a b => a + b) a = a + l.foldl (fun a b => a + b) 0 := by
  induction l with
  | nil => intro a; rfl
  | cons x l ih =>
    intro a
    rw [List.foldl_cons, List.foldl_cons, ih (a + x), ih (0 + x)]
    omega
theorem total_cons (x : Nat) (l : List Nat) : Uw09.total (x :: l) = x + Uw09.total l := by
  unfold Uw09.total
  rw [List.foldl_cons, foldl_add]
  omega
theorem most_cons (s : Uw09.Section) (l : Uw09.Road) : most (s :: l) = s.over.natAbs + most l := by
  unfold most
  rw [List.map_cons, total_cons]
theorem most_eq : ∀ r : Uw09.Road, ((most r : Nat) : Int) = pos r + neg r
  | [] => rfl
  | s :: l => by
    have := most_eq l
    rw [most_cons]
    show ((s.over.natAbs + most l : Nat) : Int) = (max s.over 0 + pos l) + (max (-s.over) 0 + neg l)
    omega
theorem price_less {p : Option (Nat × Nat)} {t t' : Int} {k : Nat} (h : price p t = some k) (ht : t' = 0 ∨ (0 < t' ∧ t' ≤ t) ∨ (t' < 0 ∧ t ≤ t')) : ∃ k', price p t' = some k' ∧ k' ≤ k := by
  by_cases h0 : t' = 0
  · exact ⟨0, if_pos h0, Nat.zero_le _⟩
  · have hne : ¬ t = 0 := by omega
    have h1 : price p t = p.map fun x => if 0 < t then t.toNat * x.1 else (-t).toNat * x.2 := if_neg hne
    have h2 : price p t' = p.map fun x => if 0 < t' then t'.toNat * x.1 else (-t').toNat * x.2 := if_neg h0
    rw [h1] at h
    rw [h2]
    cases p with
    | none => cases h
    | some x =>
      have h' : (if 0 < t then t.toNat * x.1 else (-t).toNat * x.2) = k := Option.some.inj h
      refine ⟨_, rfl, ?_⟩
      rw [← h']
      show (if 0 < t' then t'.toNat * x.1 else (-t').toNat * x.2) ≤ _
      by_cases hp : 0 < t'
      · rw [if_pos hp, if_pos (by omega)]
        exact Nat.mul_le_mul_right _ (show _ ≤ _ by omega)
      · rw [if_neg hp, if_neg (by omega)]
        exact Nat.mul_le_mul_right _ (show _ ≤ _ by omega)
def capHi : Int → Uw09.Road → List Int → List Int
  | h, s :: l, y :: ys => min y (h + s.over) :: capHi (h + s.over) l ys
  | _, _, ys => ys
theorem capHi_le : ∀ (r : Uw09.Road) (h : Int) (ys : List Int) (f : Int) (c : Nat), neg r ≤ h → fc r f ys = some c →
    ∃ c', fc r (min f h) (capHi h r ys) = some c' ∧ c' ≤ c ∧ (capHi h r ys = ys ∨ c' < c)
  | [], h, [], f, c, hh, e => by
    have e' : (if f = 0 then some 0 else none) = some c := e
    by_cases f0 : f = 0
    · rw [if_pos f0] at e'
      have hh' : (0 : Int) ≤ h := hh
      refine ⟨0, if_pos (by omega), Nat.zero_le _, .inl rfl⟩
    · rw [if_neg f0] at e'
      cases e'
  | [], _, _ :: _, _, _, _, e => by cases e
  | _ :: _, _, [], _, _, _, e => by cases e
  | s :: l, h, y :: ys, f, c, hh, e => by
    have hh' : max (-s.over) 0 + neg l ≤ h := hh
    have nn := neg_nn l
    obtain ⟨k, d, h1, h2, h3⟩ := fc_cons.mp e
    obtain ⟨d', i1, i2, i3⟩ := capHi_le l (h + s.over) ys y d (by omega) h2
    obtain ⟨k', j1, j2⟩ := price_less (t' := min f h + s.over - min y (h + s.over)) h1 (by omega)
    refine ⟨_, fc_cons.mpr ⟨k', d', j1, i1, rfl⟩, ?_, ?_⟩
    · omega
    · by_cases q : y ≤ h + s.over
      · rcases i3 with i3 | i3
        · left
          show min y (h + s.over) :: capHi (h + s.over) l ys = y :: ys
          rw [i3, show min y (h + s.over) = y by omega]
        · right
          omega
      · right
        omega
theorem capHi_bd : ∀ (r : Uw09.Road) (h M : Int) (ys : List Int), ys.length = r.length → h + pos r ≤ M → ∀ y ∈ capHi h r ys, y ≤ M
  | [], h, M, [], _, _ => fun y hy => by cases hy
  | [], _, _, _ :: _, hl, _ => by cases hl
  | _ :: _, _, _, [], hl, _ => by cases hl
  | s :: l, h, M, y :: ys, hl, hh => by
    intro z hz
    have hh' : h + (max s.over 0 + pos l) ≤ M := hh
    have nn := pos_nn l
    cases hz with
    | head =>
      show min y (h + s.over) ≤ M
      omega
    | tail _ hz => exact capHi_bd l (h + s.over) M ys (Nat.succ.inj hl) (by omega) z hz
def capLo : Int → Uw09.Road → List Int → List Int
  | h, s :: l, y :: ys => max y (h + s.over) :: capLo (h + s.over) l ys
  | _, _, ys => ys
theorem capLo_le : ∀ (r : Uw09.Road) (h : Int) (ys : List Int) (f : Int) (c : Nat), h ≤ -pos r → fc r f ys = some c →
    ∃ c', fc r (max f h) (capLo h r ys) = some c' ∧ c' ≤ c ∧ (capLo h r ys = ys ∨ c' < c)
  | [], h, [], f, c, hh, e => by
    have e' : (if f = 0 then some 0 else none) = some c := e
    by_cases f0 : f = 0
    · rw [if_pos f0] at e'
      have hh' : h ≤ -(0 : Int) := hh
      refine ⟨0, if_pos (by omega), Nat.zero_le _, .inl rfl⟩
    · rw [if_neg f0] at e'
      cases e'
  | [], _, _ :: _, _, _, _, e => by cases e
  | _ :: _, _, [], _, _, _, e => by cases e
  | s :: l, h, y :: ys, f, c, hh, e => by
    have hh' : h ≤ -(max s.over 0 + pos l) := hh
    have nn := pos_nn l
    obtain ⟨k, d, h1, h2, h3⟩ := fc_cons.mp e
    obtain ⟨d', i1, i2, i3⟩ := capLo_le l (h + s.over) ys y d (by omega) h2
    obtain ⟨k', j1, j2⟩ := price_less (t' := max f h + s.over - max y (h + s.over)) h1 (by omega)
    refine ⟨_, fc_cons.mpr ⟨k', d', j1, i1, rfl⟩, ?_, ?_⟩
    · omega
    · by_cases q : h + s.over ≤ y
      · rcases i3 with i3 | i3
        · left
          show max y (h + s.over) :: capLo (h + s.over) l ys = y :: ys
          rw [i3, show max y (h + s.over) = y by omega]
        · right
          omega
      · right
        omega
theorem capLo_bd : ∀ (r : Uw09.Road) (h M : Int) (ys : List Int), ys.length = r.length → -M ≤ h - neg r → h ≤ -pos r → 0 ≤ M → (∀ y ∈ ys, y ≤ M) → ∀ y ∈ capLo h r ys, -M ≤ y ∧ y ≤ M
  | [], h, M, [], _, _, _, _, _ => fun y hy => by cases hy
  | [], _, _, _ :: _, hl, _, _, _, _ => by cases hl
  | _ :: _, _, _, [], hl, _, _, _, _ => by cases hl
  | s :: l, h, M, y :: ys, hl, h1, h2, h3, h4 => by
    intro z hz
    have h1' : -M ≤ h - (max (-s.over) 0 + neg l) := h1
    have h2' : h ≤ -(max s.over 0 + pos l) := h2
    have nn := neg_nn l
    have np := pos_nn l
    cases hz with
    | head =>
      have := h4 y List.mem_cons_self
      show -M ≤ max y (h + s.over) ∧ max y (h + s.over) ≤ M
      omega
    | tail _ hz => exact capLo_bd l (h + s.over) M ys (Nat.succ.inj hl) (by omega) (by omega) h3 (fun y hy => h4 y (List.mem_cons_of_mem _ hy)) z hz
/-- whatever flows: some within bounds cost no more, and less if they're others -/
theorem within {r : Uw09.Road} {ys : List Int} {c : Nat} (h : fc r 0 ys = some c) : ∃ zs d, Bd (most r) zs ∧ fc r 0 zs = some d ∧ d ≤ c ∧ (zs = ys ∨ d < c) := by
  have np := pos_nn r
  have nn := neg_nn r
  have hm := most_eq r
  obtain ⟨c1, h1, h2, h3⟩ := capHi_le r (neg r) ys 0 c (Int.le_refl _) h
  rw [show min 0 (neg r) = 0 by omega] at h1
  obtain ⟨c2, g1, g2, g3⟩ := capLo_le r (-pos r) _ 0 c1 (Int.le_refl _) h1
  rw [show max 0 (-pos r) = 0 by omega] at g1
  refine ⟨_, c2, ?_, g1, by omega, ?_⟩
  · have b1 := capHi_bd r (neg r) (most r) ys (fc_len h) (by omega)
    exact capLo_bd r (-pos r) (most r) _ (fc_len h1) (by omega) (Int.le_refl _) (by omega) b1
  · rcases h3 with h3 | h3
    · rcases g3 with g3 | g3
      · left
        rw [g3, h3]
      · right
        omega
    · right
      omega
/-- **The least, and the earliest way of it: of all ways.** -/
def IsLeast (r : Uw09.Road) (c : Nat) (ys : List Int) : Prop := fc r 0 ys = some c ∧ ∀ zs d, fc r 0 zs = some d → c < d ∨ (c = d ∧ lexle ys zs)
theorem IsLeast.uniq {r : Uw09.Road} {c d : Nat} {ys zs : List Int} (h : IsLeast r c ys) (g : IsLeast r d zs) : c = d ∧ ys = zs := by
  have a := h.2 zs d g.1
  have b := g.2 ys c h.1
  rcases a with a | ⟨a1, a2⟩
  · rcases b with b | ⟨b1, b2⟩ <;> omega
  · rcases b with b | ⟨b1, b2⟩
    · omega
    · exact ⟨a1, lexle_antisymm a2 b2⟩
theorem least_is (r : Uw09.Road) : (Uw09.least r = none ∧ ∀ ys, fc r 0 ys = none) ∨ (∃ b, Uw09.least r = some b ∧ IsLeast r b.cost b.flows) := by
  have e : Uw09.least r = ent (most r) r 0 := by
    unfold Uw09.least
    have := table_at (most r) r (f := 0) (by omega) (by omega)
    rw [show ((0 : Int) + (most r : Int)).toNat = most r by omega] at this
    exact this
  rw [e]
  rcases ent_opt (most r) r 0 with ⟨h1, h2⟩ | ⟨b, h1, h2, h3, h4⟩
  · refine .inl ⟨h1, fun ys => ?_⟩
    cases k : fc r 0 ys with
    | none => rfl
    | some c =>
      obtain ⟨zs, d, g1, g2, _⟩ := within k
      rw [h2 zs g1] at g2
      cases g2
  · refine .inr ⟨b, h1, h3, fun ys c hc => ?_⟩
    obtain ⟨zs, d, g1, g2, g3, g4⟩ := within hc
    have q := h4 zs d g1 g2
    rcases g4 with g4 | g4
    · subst g4
      rw [hc] at g2
      cases g2
      exact q
    · left
      omega
/-- what a program has found to be the least is the specification's -/
theorem IsLeast.spec {r : Uw09.Road} {c : Nat} {ys : List Int} (h : IsLeast r c ys) : ∃ b, Uw09.least r = some b ∧ b.cost = c ∧ b.flows = ys := by
  rcases least_is r with ⟨_, h2⟩ | ⟨b, h1, h2⟩
  · have h0 := h.1
    rw [h2 ys] at h0
    cases h0
  · obtain ⟨e1, e2⟩ := h2.uniq h
    exact ⟨b, h1, e1, e2⟩
end RL

end
section
namespace RL
open Uw17 (Build Ans)
/-- what holds of a road between two calls -/
structure Ok (b : Uw17.Build) : Prop where
  few : b.road.points.length ≤ 5
  pl : b.pits.length = b.road.points.length
  st : b.road.slope ≤ 2
  bd : b.road.bend ≤ 4
  dg : b.road.dig ≤ 100
  fl : b.road.fill ≤ 100
  pt : ∀ q ∈ b.road.points, q.ground ≤ 6 ∧ ∀ f, q.fixed = some f → f ≤ 6
  pr : ∀ t d, some (t, d) ∈ b.pits → t ≤ 100 ∧ d ≤ 100
theorem ok_init : Ok Uw17.init := ⟨Nat.zero_le _, rfl, Nat.zero_le _, Nat.zero_le _, Nat.zero_le _, Nat.zero_le _, fun _ h => (by cases h), fun _ _ h => (by cases h)⟩
/-! ### each call's step, in short -/
theorem step_begins (b : Uw17.Build) (s t d f : Nat) : Uw17.step b (.begins s t d f) = if 2 < s ∨ 4 < t ∨ 100 < d ∨ 100 < f then (b, Uw17.ok (-1)) else (⟨⟨s, t, d, f, []⟩, []⟩, Uw17.ok 0) := by
  show (if 2 < s ∨ 2 * 2 < t then (b, Uw17.ok (-1)) else if (Uw16.step b.road (.begins s t d f)).2.v < 0 then (b, Uw17.ok (-1)) else (⟨(Uw16.step b.road (.begins s t d f)).1, []⟩, Uw17.ok 0)) = _
  have e : Uw16.step b.road (.begins s t d f) = if 10 < s ∨ 2 * 10 < t ∨ 100 < d ∨ 100 < f then (b.road, Uw16.ok (-1)) else (⟨s, t, d, f, []⟩, Uw16.ok 0) := rfl
  rw [e]
  by_cases h1 : 2 < s ∨ 2 * 2 < t
  · rw [if_pos h1, if_pos (by omega)]
  · rw [if_neg h1]
    by_cases h2 : 100 < d ∨ 100 < f
    · rw [if_pos (show 10 < s ∨ 2 * 10 < t ∨ 100 < d ∨ 100 < f by omega), if_pos (show (Uw16.ok (-1)).v < 0 by decide), if_pos (by omega)]
    · rw [if_neg (show ¬ (10 < s ∨ 2 * 10 < t ∨ 100 < d ∨ 100 < f) by omega), if_neg (show ¬ (Uw16.ok 0).v < 0 by decide), if_neg (by omega)]
theorem step_point {b : Uw17.Build} (g : Nat) (_ : Ok b) : Uw17.step b (.point g) = if 6 < g then (b, Uw17.ok (-1)) else if 5 ≤ b.road.points.length then (b, Uw17.ok (-5)) else (⟨{ b.road with points := b.road.points ++ [⟨g, none⟩] }, b.pits ++ [none]⟩, Uw17.ok (b.road.points.length : Nat)) := by
  show (if 6 < g then (b, Uw17.ok (-1)) else if 5 ≤ b.road.points.length then (b, Uw17.ok (-5)) else (⟨(Uw16.step b.road (.point g)).1, b.pits ++ [none]⟩, Uw17.ok (b.road.points.length : Nat))) = _
  by_cases h1 : 6 < g
  · rw [if_pos h1, if_pos h1]
  · rw [if_neg h1, if_neg h1]
    by_cases h2 : 5 ≤ b.road.points.length
    · rw [if_pos h2, if_pos h2]
    · rw [if_neg h2, if_neg h2]
      have e : Uw16.step b.road (.point g) = if 30 < g then (b.road, Uw16.ok (-1)) else if 10 ≤ b.road.points.length then (b.road, Uw16.ok (-5)) else ({ b.road with points := b.road.points ++ [⟨g, none⟩] }, Uw16.ok (b.road.points.length : Nat)) := rfl
      rw [e, if_neg (by omega), if_neg (by omega)]
theorem step_fix (b : Uw17.Build) (i h : Nat) : Uw17.step b (.fix i h) = if b.road.points.length ≤ i then (b, Uw17.ok (-2)) else if 6 < h then (b, Uw17.ok (-1)) else (⟨{ b.road with points := b.road.points.set i ⟨(b.road.point i).ground, some h⟩ }, b.pits⟩, Uw17.ok 0) := by
  show (if b.road.points.length ≤ i then (b, Uw17.ok (-2)) else if 6 < h then (b, Uw17.ok (-1)) else Uw17.ofRoad b (.fix i h)) = _
  by_cases h1 : b.road.points.length ≤ i
  · rw [if_pos h1, if_pos h1]
  · rw [if_neg h1, if_neg h1]
    by_cases h2 : 6 < h
    · rw [if_pos h2, if_pos h2]
    · rw [if_neg h2, if_neg h2]
      have e : Uw16.step b.road (.fix i h) = if b.road.points.length ≤ i then (b.road, Uw16.ok (-2)) else if 30 < h then (b.road, Uw16.ok (-1)) else ({ b.road with points := b.road.points.set i ⟨(b.road.point i).ground, some h⟩ }, Uw16.ok 0) := rfl
      show (({ b with road := (Uw16.step b.road (.fix i h)).1 }, Uw17.ok (Uw16.step b.road (.fix i h)).2.v) : Uw17.Build × Uw17.Ans) = _
      rw [e, if_neg h1, if_neg (by omega)]
      rfl
theorem step_free (b : Uw17.Build) (i : Nat) : Uw17.step b (.free i) = if b.road.points.length ≤ i then (b, Uw17.ok (-2)) else if (b.road.point i).fixed = none then (b, Uw17.ok (-4)) else (⟨{ b.road with points := b.road.points.set i ⟨(b.road.point i).ground, none⟩ }, b.pits⟩, Uw17.ok 0) := by
  show (({ b with road := (Uw16.step b.road (.free i)).1 }, Uw17.ok (Uw16.step b.road (.free i)).2.v) : Uw17.Build × Uw17.Ans) = _
  have e : Uw16.step b.road (.free i) = if b.road.points.length ≤ i then (b.road, Uw16.ok (-2)) else if (b.road.point i).fixed = none then (b.road, Uw16.ok (-4)) else ({ b.road with points := b.road.points.set i ⟨(b.road.point i).ground, none⟩ }, Uw16.ok 0) := rfl
  rw [e]
  by_cases h1 : b.road.points.length ≤ i
  · rw [if_pos h1, if_pos h1]
    rfl
  · rw [if_neg h1, if_neg h1]
    by_cases h2 : (b.road.point i).fixed = none
    · rw [if_pos h2, if_pos h2]
      rfl
    · rw [if_neg h2, if_neg h2]
      rfl
theorem step_pit (b : Uw17.Build) (i t d : Nat) : Uw17.step b (.pit i t d) = if b.road.points.length ≤ i then (b, Uw17.ok (-2)) else if 100 < t ∨ 100 < d then (b, Uw17.ok (-1)) else ({ b with pits := b.pits.set i (some (t, d)) }, Uw17.ok 0) := rfl
theorem step_close (b : Uw17.Build) (i : Nat) : Uw17.step b (.close i) = if b.road.points.length ≤ i then (b, Uw17.ok (-2)) else if b.pits.getD i none = none then (b, Uw17.ok (-4)) else ({ b with pits := b.pits.set i none }, Uw17.ok 0) := rfl
theorem step_best (b : Uw17.Build) : Uw17.step b .best = (b, match b.best with
    | none => Uw17.ok (-6)
    | some x => ⟨(x.cost : Nat), (x.many : Int) :: (Uw17.ints x.line ++ b.flows x.line)⟩) := rfl
theorem step_check1 (b : Uw17.Build) (l : List Nat) (p : Uw09.Plan) : (Uw17.step b (.check l p)).1 = b := by
  show (if _ then (b, Uw17.ok (-1)) else (b, _) : Uw17.Build × Uw17.Ans).1 = b
  split <;> rfl
theorem point_mem {r : Uw16.Road} {i : Nat} (h : i < r.points.length) : r.point i ∈ r.points := by
  unfold Uw16.Road.point
  rw [List.getD_eq_getElem?_getD, List.getElem?_eq_getElem h]
  exact List.getElem_mem h
theorem mem_set {α : Type} {l : List α} {i : Nat} {x y : α} (h : y ∈ l.set i x) : y ∈ l ∨ y = x := List.mem_or_eq_of_mem_set h
theorem Ok.step {b : Uw17.Build} (o : Ok b) (c : Uw17.Call) : Ok (Uw17.step b c).1 := by
  cases c with
  | begins s t d f =>
    rw [step_begins]
    split
    · exact o
    · exact ⟨Nat.zero_le _, rfl, by show s ≤ 2; omega, by show t ≤ 4; omega, by show d ≤ 100; omega, by show f ≤ 100; omega, fun _ h => (by cases h), fun _ _ h => (by cases h)⟩
  | point g =>
    rw [step_point g o]
    split
    · exact o
    · split
      · exact o
      · refine ⟨?_, ?_, o.st, o.bd, o.dg, o.fl, fun q hq => ?_, fun t d h => ?_⟩
        · show (b.road.points ++ [_]).length ≤ 5
          rw [List.length_append]
          show b.road.points.length + 1 ≤ 5
          omega
        · show (b.pits ++ [none]).length = (b.road.points ++ [_]).length
          rw [List.length_append, List.length_append, o.pl]
          rfl
        · rcases (List.mem_append.mp hq : _) with hq | hq
          · exact o.pt q hq
          · rw [(List.mem_singleton.mp hq : _)]
            exact ⟨by show g ≤ 6; omega, fun f h => by cases h⟩
        · rcases (List.mem_append.mp h : _) with h | h
          · exact o.pr t d h
          · have := List.mem_singleton.mp h
            cases this
  | fix i h =>
    rw [step_fix]
    split
    · exact o
    · split
      · exact o
      · refine ⟨?_, ?_, o.st, o.bd, o.dg, o.fl, fun q hq => ?_, o.pr⟩
        · show (b.road.points.set i _).length ≤ 5
          rw [List.length_set]
          exact o.few
        · show b.pits.length = (b.road.points.set i _).length
          rw [List.length_set]
          exact o.pl
        · rcases mem_set hq with hq | rfl
          · exact o.pt q hq
          · refine ⟨(o.pt _ (point_mem (by omega))).1, fun f hf => ?_⟩
            cases hf
            omega
  | free i =>
    rw [step_free]
    split
    · exact o
    · split
      · exact o
      · refine ⟨?_, ?_, o.st, o.bd, o.dg, o.fl, fun q hq => ?_, o.pr⟩
        · show (b.road.points.set i _).length ≤ 5
          rw [List.length_set]
          exact o.few
        · show b.pits.length = (b.road.points.set i _).length
          rw [List.length_set]
          exact o.pl
        · rcases mem_set hq with hq | rfl
          · exact o.pt q hq
          · exact ⟨(o.pt _ (point_mem (by omega))).1, fun f hf => by cases hf⟩
  | pit i t d =>
    rw [step_pit]
    split
    · exact o
    · split
      · exact o
      · refine ⟨o.few, ?_, o.st, o.bd, o.dg, o.fl, o.pt, fun t' d' h => ?_⟩
        · show (b.pits.set i _).length = b.road.points.length
          rw [List.length_set]
          exact o.pl
        · rcases mem_set h with h | h
          · exact o.pr t' d' h
          · cases h
            omega
  | close i =>
    rw [step_close]
    split
    · exact o
    · split
      · exact o
      · refine ⟨o.few, ?_, o.st, o.bd, o.dg, o.fl, o.pt, fun t' d' h => ?_⟩
        · show (b.pits.set i _).length = b.road.points.length
          rw [List.length_set]
          exact o.pl
        · rcases mem_set h with h | h
          · exact o.pr t' d' h
          · cases h
  | best => exact o
  | check l p =>
    rw [step_check1]
    exact o
end RL

end
section
namespace RL
/-! ### the first place, by a loop over the places -/
theorem find_none {p : Nat → Bool} {n : Nat} : (List.range n).find? p = none ↔ ∀ j, j < n → p j = false := by
  rw [List.find?_eq_none]
  constructor
  · intro h j hj
    have := h j (List.mem_range.mpr hj)
    cases e : p j with
    | false => rfl
    | true => exact absurd e this
  · intro h j hj e
    rw [h j (List.mem_range.mp hj)] at e
    cases e
theorem find_some {p : Nat → Bool} {n i : Nat} (hi : i < n) (h : p i = true) (hn : ∀ j, j < i → p j = false) : (List.range n).find? p = some i := by
  cases e : (List.range n).find? p with
  | none =>
    rw [find_none.mp e i hi] at h
    cases h
  | some k =>
    have h1 : p k = true := List.find?_some e
    have h2 : k < n := List.mem_range.mp (List.mem_of_find?_eq_some e)
    by_cases c : k < i
    · rw [hn k c] at h1
      cases h1
    · by_cases d : i < k
      · -- i lies ahead of k in the range, and is found first
        exfalso
        obtain ⟨_, as, bs, e1, e2⟩ := List.find?_eq_some_iff_append.mp e
        have hk : as.length = k := by
          have q : (List.range n)[as.length]? = some k := by rw [e1]; simp
          have q2 : as.length < n := by
            have := congrArg List.length e1
            rw [List.length_range, List.length_append, List.length_cons] at this
            omega
          rw [List.getElem?_range q2] at q
          exact Option.some.inj q
        have hm : i ∈ as := by
          have q : (List.range n)[i]? = some i := List.getElem?_range hi
          rw [e1, List.getElem?_append_left (by omega)] at q
          exact List.mem_of_getElem? q
        have := e2 i hm
        rw [h] at this
        cases this
      · have : k = i := by omega
        rw [this]
/-! ### a sum by a loop -/
/-! ### what's wrong with a line first, where its heights are low -/
def bad1 (r : Uw16.Road) (l : List Nat) (i : Nat) : Bool := match (r.point i).fixed with
  | some f => !(f == l.getD i 0)
  | none => false
def bad2 (r : Uw16.Road) (l : List Nat) (i : Nat) : Bool := decide (r.slope < Uw16.apart (l.getD i 0) (l.getD (i + 1) 0))
def bad3 (r : Uw16.Road) (l : List Nat) (i : Nat) : Bool := decide (r.bend < Uw16.apart (l.getD i 0 + l.getD (i + 2) 0) (2 * l.getD (i + 1) 0))
theorem find_congr {p q : Nat → Bool} {n : Nat} (h : ∀ i, i < n → p i = q i) : (List.range n).find? p = (List.range n).find? q := by
  cases e : (List.range n).find? q with
  | none => exact find_none.mpr fun j hj => by rw [h j hj]; exact find_none.mp e j hj
  | some k =>
    have h1 : q k = true := List.find?_some e
    have h2 : k < n := List.mem_range.mp (List.mem_of_find?_eq_some e)
    refine find_some h2 (by rw [h k h2]; exact h1) fun j hj => ?_
    rw [h j (by omega)]
    cases c : q j with
    | false => rfl
    | true =>
      exfalso
      -- then j would be found first
      have : (List.range n).find? q ≠ some k := by
        intro e'
        obtain ⟨_, as, bs, e1, e2⟩ := List.find?_eq_some_iff_append.mp e'
        have hk : as.length = k := by
          have q' : (List.range n)[as.length]? = some k := by rw [e1]; simp
          have q2 : as.length < n := by
            have := congrArg List.length e1
            rw [List.length_range, List.length_append, List.length_cons] at this
            omega
          rw [List.getElem?_range q2] at q'
          exact Option.some.inj q'
        have hm : j ∈ as := by
          have q' : (List.range n)[j]? = some j := List.getElem?_range (by omega)
          rw [e1, List.getElem?_append_left (by omega)] at q'
          exact List.mem_of_getElem? q'
        have := e2 j hm
        rw [c] at this
        cases this
      exact this e
theorem low_at {l : List Nat} (h : ∀ x ∈ l, x ≤ 6) (i : Nat) : l.getD i 0 ≤ 6 := by
  rw [List.getD_eq_getElem?_getD (i := i)]
  cases e : l[i]? with
  | none => exact Nat.zero_le _
  | some x => exact h x (List.mem_of_getElem? e)
theorem wrong_low (r : Uw16.Road) {l : List Nat} (h : ∀ x ∈ l, x ≤ 6) : r.wrong l = match (List.range l.length).find? (bad1 r l) with
    | some i => some (1, i)
    | none => match (List.range (l.length - 1)).find? (bad2 r l) with
      | some i => some (2, i)
      | none => ((List.range (l.length - 2)).find? (bad3 r l)).map fun i => (3, i + 1) := by
  have e1 : (List.range l.length).find? (fun i => !r.fits i (l.getD i 0)) = (List.range l.length).find? (bad1 r l) := find_congr fun i _ => by
    have hl := low_at h i
    unfold Uw16.Road.fits bad1
    rw [decide_eq_true (show l.getD i 0 ≤ Uw16.TOP from Nat.le_trans hl (by decide)), Bool.true_and]
    cases (r.point i).fixed <;> rfl
  have e2 : (List.range (l.length - 1)).find? (fun i => !r.rises (l.getD i 0) (l.getD (i + 1) 0)) = (List.range (l.length - 1)).find? (bad2 r l) := find_congr fun i _ => by
    show (!decide (Uw16.apart (l.getD i 0) (l.getD (i + 1) 0) ≤ r.slope)) = decide (r.slope < Uw16.apart (l.getD i 0) (l.getD (i + 1) 0))
    rw [← decide_not]
    exact decide_eq_decide.mpr (by omega)
  have e3 : (List.range (l.length - 2)).find? (fun i => !r.bends (l.getD i 0) (l.getD (i + 1) 0) (l.getD (i + 2) 0)) = (List.range (l.length - 2)).find? (bad3 r l) := find_congr fun i _ => by
    show (!decide (Uw16.apart (l.getD i 0 + l.getD (i + 2) 0) (2 * l.getD (i + 1) 0) ≤ r.bend)) = decide (r.bend < Uw16.apart (l.getD i 0 + l.getD (i + 2) 0) (2 * l.getD (i + 1) 0))
    rw [← decide_not]
    exact decide_eq_decide.mpr (by omega)
  unfold Uw16.Road.wrong
  rw [e1, e2, e3]
  cases (List.range l.length).find? (bad1 r l) with
  | some i => rfl
  | none =>
    cases (List.range (l.length - 1)).find? (bad2 r l) <;> rfl
theorem apart9_int (a b : Nat) : ((Uw09.apart a b : Nat) : Int) = (((a : Int) - (b : Int)).natAbs : Int) := by
  unfold Uw09.apart
  omega
/-! ### what is left behind hauls -/
def inAt (p : Uw09.Plan) (i : Nat) : Int := (p.map fun h => if h.to = i then (h.loads : Int) else 0).sum
def outAt (p : Uw09.Plan) (i : Nat) : Int := (p.map fun h => if h.from_ = i then (h.loads : Int) else 0).sum
theorem rest_eq (r : Uw09.Road) (p : Uw09.Plan) (i : Nat) : Uw09.rest r p i = ((r.getD i ⟨0, none⟩).over + inAt p i) - outAt p i := rfl
theorem sum_snoc (l : List Int) (x : Int) : (l ++ [x]).sum = l.sum + x := by
  induction l with
  | nil => show x + 0 = 0 + x; omega
  | cons a l ih =>
    show a + (l ++ [x]).sum = (a + l.sum) + x
    rw [ih]
    omega
theorem inAt_snoc (p : Uw09.Plan) (h : Uw09.Haul) (i : Nat) : inAt (p ++ [h]) i = inAt p i + if h.to = i then (h.loads : Int) else 0 := by
  unfold inAt
  rw [List.map_append]
  exact sum_snoc _ _
theorem outAt_snoc (p : Uw09.Plan) (h : Uw09.Haul) (i : Nat) : outAt (p ++ [h]) i = outAt p i + if h.from_ = i then (h.loads : Int) else 0 := by
  unfold outAt
  rw [List.map_append]
  exact sum_snoc _ _
/-! ### the earth of a line -/
theorem earth_len (b : Uw17.Build) (l : List Nat) : (b.earth l).length = l.length := by
  unfold Uw17.Build.earth
  rw [List.length_map, List.length_range]
theorem earth_at (b : Uw17.Build) {l : List Nat} {i : Nat} (h : i < l.length) : (b.earth l)[i]? = some ⟨((b.road.point i).ground : Int) - (l.getD i 0 : Int), b.pits.getD i none⟩ := by
  unfold Uw17.Build.earth
  rw [List.getElem?_map, List.getElem?_range h]
  rfl
end RL

end
section
namespace RL
/-- one line more looked at -/
def bstep (v : List Nat → Option Nat) (m : Option Uw17.Best) (l : List Nat) : Option Uw17.Best := match v l, m with
  | none, m => m
  | some n, none => some ⟨n, 1, l⟩
  | some n, some x => if n < x.cost then some ⟨n, 1, l⟩ else if n = x.cost then some ⟨x.cost, x.many + 1, x.line⟩ else some x
theorem best_fold (b : Uw17.Build) : b.best = b.lines.foldl (bstep b.cost) none := rfl
theorem bstep_none {v : List Nat → Option Nat} {m : Option Uw17.Best} {l : List Nat} (h : v l = none) : bstep v m l = m := by
  unfold bstep
  rw [h]
theorem bstep_first {v : List Nat → Option Nat} {l : List Nat} {n : Nat} (h : v l = some n) : bstep v none l = some ⟨n, 1, l⟩ := by
  unfold bstep
  rw [h]
theorem bstep_some {v : List Nat → Option Nat} {x : Uw17.Best} {l : List Nat} {n : Nat} (h : v l = some n) : bstep v (some x) l = if n < x.cost then some ⟨n, 1, l⟩ else if n = x.cost then some ⟨x.cost, x.many + 1, x.line⟩ else some x := by
  unfold bstep
  rw [h]
/-- how many lines cost just so much -/
def cnt (v : List Nat → Option Nat) (c : Nat) (L : List (List Nat)) : Nat := (L.filter fun l => v l == some c).length
def BInv (v : List Nat → Option Nat) (m : Option Uw17.Best) (pre : List (List Nat)) : Prop :=
  (m = none ∧ ∀ l ∈ pre, v l = none) ∨
  (∃ x, m = some x ∧ v x.line = some x.cost ∧ x.line ∈ pre ∧ (∀ l ∈ pre, ∀ c, v l = some c → x.cost ≤ c) ∧ x.many = cnt v x.cost pre ∧ pre.find? (fun l => v l == some x.cost) = some x.line)
theorem cnt_snoc (v : List Nat → Option Nat) (c : Nat) (L : List (List Nat)) (l : List Nat) : cnt v c (L ++ [l]) = cnt v c L + (if v l = some c then 1 else 0) := by
  unfold cnt
  rw [List.filter_append, List.length_append]
  congr 1
  by_cases h : v l = some c
  · rw [if_pos h, List.filter_cons, if_pos (by rw [h]; exact beq_self_eq_true _)]
    rfl
  · rw [if_neg h, List.filter_cons, if_neg (by intro e; exact h (eq_of_beq e))]
    rfl
theorem cnt_zero {v : List Nat → Option Nat} {c : Nat} {L : List (List Nat)} (h : ∀ l ∈ L, v l ≠ some c) : cnt v c L = 0 := by
  unfold cnt
  rw [List.filter_eq_nil_iff.mpr fun l hl e => h l hl (eq_of_beq e)]
  rfl
theorem BInv.step {v : List Nat → Option Nat} {m : Option Uw17.Best} {pre : List (List Nat)} (l : List Nat) (h : BInv v m pre) : BInv v (bstep v m l) (pre ++ [l]) := by
  rcases h with ⟨rfl, h⟩ | ⟨x, rfl, h1, h2, h3, h4, h5⟩
  · cases e : v l with
    | none =>
      rw [bstep_none e]
      refine .inl ⟨rfl, fun k hk => ?_⟩
      rcases (List.mem_append.mp hk : _) with hk | hk
      · exact h k hk
      · rw [List.mem_singleton.mp hk]; exact e
    | some n =>
      rw [bstep_first e]
      refine .inr ⟨_, rfl, e, List.mem_append_right _ (List.mem_singleton.mpr rfl), fun k hk c hc => ?_, ?_, ?_⟩
      · rcases List.mem_append.mp hk with hk | hk
        · rw [h k hk] at hc; cases hc
        · rw [List.mem_singleton.mp hk, e] at hc
          cases hc
          exact Nat.le_refl _
      · show 1 = cnt v n (pre ++ [l])
        rw [cnt_snoc, if_pos e, cnt_zero fun k hk => by rw [h k hk]; exact fun q => by cases q]
      · show (pre ++ [l]).find? (fun l => v l == some n) = some l
        rw [List.find?_append, List.find?_eq_none.mpr fun k hk => by rw [h k hk]; exact fun q => by cases q]
        show [l].find? (fun l => v l == some n) = some l
        rw [List.find?_cons_of_pos (by rw [e]; exact beq_self_eq_true _)]
  · cases e : v l with
    | none =>
      rw [bstep_none e]
      refine .inr ⟨x, rfl, h1, List.mem_append_left _ h2, fun k hk c hc => ?_, ?_, ?_⟩
      · rcases List.mem_append.mp hk with hk | hk
        · exact h3 k hk c hc
        · rw [List.mem_singleton.mp hk, e] at hc
          cases hc
      · rw [cnt_snoc, if_neg (by rw [e]; exact fun q => by cases q)]
        exact h4
      · rw [List.find?_append, h5]
        rfl
    | some n =>
      rw [bstep_some e]
      by_cases k1 : n < x.cost
      · rw [if_pos k1]
        have none' : ∀ k ∈ pre, v k ≠ some n := fun k hk q => by
          have := h3 k hk n q
          omega
        refine .inr ⟨_, rfl, e, List.mem_append_right _ (List.mem_singleton.mpr rfl), fun k hk c hc => ?_, ?_, ?_⟩
        · show n ≤ c
          rcases (List.mem_append.mp hk : _) with hk | hk
          · have := h3 k hk c hc
            omega
          · rw [List.mem_singleton.mp hk, e] at hc
            cases hc
            exact Nat.le_refl _
        · show 1 = cnt v n (pre ++ [l])
          rw [cnt_snoc, if_pos e, cnt_zero none']
        · show (pre ++ [l]).find? (fun l => v l == some n) = some l
          rw [List.find?_append, List.find?_eq_none.mpr fun k hk q => none' k hk (eq_of_beq q)]
          show [l].find? (fun l => v l == some n) = some l
          rw [List.find?_cons_of_pos (by rw [e]; exact beq_self_eq_true _)]
      · rw [if_neg k1]
        by_cases k2 : n = x.cost
        · rw [if_pos k2]
          subst k2
          refine .inr ⟨_, rfl, h1, List.mem_append_left _ h2, fun k hk c hc => ?_, ?_, ?_⟩
          · show x.cost ≤ c
            rcases (List.mem_append.mp hk : _) with hk | hk
            · exact h3 k hk c hc
            · rw [List.mem_singleton.mp hk, e] at hc
              cases hc
              exact Nat.le_refl _
          · show x.many + 1 = cnt v x.cost (pre ++ [l])
            rw [cnt_snoc, if_pos e, h4]
          · show (pre ++ [l]).find? (fun l => v l == some x.cost) = some x.line
            rw [List.find?_append, h5]
            rfl
        · rw [if_neg k2]
          refine .inr ⟨x, rfl, h1, List.mem_append_left _ h2, fun k hk c hc => ?_, ?_, ?_⟩
          · rcases List.mem_append.mp hk with hk | hk
            · exact h3 k hk c hc
            · rw [List.mem_singleton.mp hk, e] at hc
              cases hc
              omega
          · rw [cnt_snoc, if_neg (by rw [e]; intro q; exact k2 (Option.some.inj q)), h4]
            rfl
          · rw [List.find?_append, h5]
            rfl
theorem BInv.all {v : List Nat → Option Nat} : ∀ (L pre : List (List Nat)) (m : Option Uw17.Best), BInv v m pre → BInv v (L.foldl (bstep v) m) (pre ++ L)
  | [], pre, m, h => by rw [List.append_nil]; exact h
  | l :: L, pre, m, h => by
    have e : pre ++ l :: L = (pre ++ [l]) ++ L := by simp
    rw [e]
    exact BInv.all L (pre ++ [l]) _ (h.step l)
theorem best_is (b : Uw17.Build) : BInv b.cost b.best b.lines := by
  rw [best_fold]
  have := BInv.all (v := b.cost) b.lines [] none (.inl ⟨rfl, fun _ h => by cases h⟩)
  rw [List.nil_append] at this
  exact this
theorem BInv.uniq {v : List Nat → Option Nat} {m m' : Option Uw17.Best} {L : List (List Nat)} (h : BInv v m L) (g : BInv v m' L) : m = m' := by
  rcases h with ⟨rfl, h⟩ | ⟨x, rfl, h1, h2, h3, h4, h5⟩
  · rcases g with ⟨rfl, _⟩ | ⟨y, rfl, g1, g2, _⟩
    · rfl
    · rw [h _ g2] at g1
      cases g1
  · rcases g with ⟨rfl, g⟩ | ⟨y, rfl, g1, g2, g3, g4, g5⟩
    · rw [g _ h2] at h1
      cases h1
    · have a := h3 _ g2 _ g1
      have c := g3 _ h2 _ h1
      have e : x.cost = y.cost := by omega
      rw [e] at h4 h5
      have e2 := Option.some.inj (h5.symm.trans g5)
      have e3 := h4.trans g4.symm
      cases x
      cases y
      cases e
      cases e2
      cases e3
      rfl
/-! ### The rows of heights -/
theorem rows_mem : ∀ (n : Nat) (l : List Nat), l ∈ Uw17.rows n ↔ l.length = n ∧ ∀ h ∈ l, h ≤ 6
  | 0, l => by
    show l ∈ [[]] ↔ _
    rw [List.mem_singleton]
    constructor
    · rintro rfl
      exact ⟨rfl, fun _ h => by cases h⟩
    · rintro ⟨h, _⟩
      exact List.length_eq_zero_iff.mp h
  | n + 1, l => by
    show l ∈ (List.range (6 + 1)).flatMap (fun h => (Uw17.rows n).map fun l => h :: l) ↔ _
    rw [List.mem_flatMap]
    constructor
    · rintro ⟨h, hh, hl⟩
      obtain ⟨k, hk, rfl⟩ := List.mem_map.mp hl
      obtain ⟨k1, k2⟩ := (rows_mem n k).mp hk
      rw [List.mem_range] at hh
      refine ⟨by rw [List.length_cons, k1], fun z hz => ?_⟩
      cases hz with
      | head => omega
      | tail _ hz => exact k2 z hz
    · rintro ⟨h1, h2⟩
      cases l with
      | nil => cases h1
      | cons a l =>
        refine ⟨a, List.mem_range.mpr (Nat.lt_succ_of_le (h2 a List.mem_cons_self)), List.mem_map.mpr ⟨l, (rows_mem n l).mpr ⟨Nat.succ.inj h1, fun z hz => h2 z (List.mem_cons_of_mem _ hz)⟩, rfl⟩⟩
theorem lines_mem (b : Uw17.Build) (l : List Nat) : l ∈ b.lines ↔ l.length = b.road.points.length ∧ (∀ h ∈ l, h ≤ 6) ∧ b.road.wrong l = none := by
  unfold Uw17.Build.lines
  rw [List.mem_filter, rows_mem]
  constructor
  · rintro ⟨⟨h1, h2⟩, h3⟩
    refine ⟨h1, h2, ?_⟩
    have h4 : ((b.road.told l && (b.road.wrong l).isNone) && Uw17.low l) = true := h3
    rw [Bool.and_eq_true, Bool.and_eq_true] at h4
    exact Option.isNone_iff_eq_none.mp h4.1.2
  · rintro ⟨h1, h2, h3⟩
    refine ⟨⟨h1, h2⟩, ?_⟩
    show ((b.road.told l && (b.road.wrong l).isNone) && Uw17.low l) = true
    rw [Bool.and_eq_true]; rw [Bool.and_eq_true]
    refine ⟨⟨?_, Option.isNone_iff_eq_none.mpr h3⟩, ?_⟩
    · show (l.length == b.road.points.length && l.all fun h => decide (h ≤ 30)) = true
      rw [Bool.and_eq_true]
      refine ⟨beq_iff_eq.mpr h1, List.all_eq_true.mpr fun h hh => decide_eq_true (Nat.le_trans (h2 h hh) (by decide))⟩
    · exact List.all_eq_true.mpr fun h hh => decide_eq_true (h2 h hh)
end RL

end
section
namespace RL
/-- how much may go over a border, of a road here: at most 6 for each point -/
theorem most_le : ∀ {r : Uw09.Road}, (∀ s ∈ r, s.over.natAbs ≤ 6) → Uw09.most r ≤ 6 * r.length
  | [], _ => Nat.le_refl _
  | s :: l, h => by
    rw [most_cons]
    have a := h s List.mem_cons_self
    have b := most_le (r := l) fun x hx => h x (List.mem_cons_of_mem _ hx)
    show s.over.natAbs + Uw09.most l ≤ 6 * (l.length + 1)
    omega
end RL

end
section
namespace RL
/-- the state behind calls -/
def run : Uw17.Build → List Uw17.Call → Uw17.Build
  | b, [] => b
  | b, c :: cs => run (Uw17.step b c).1 cs
/-- one call's answer, with how many numbers it has -/
def one (b : Uw17.Build) (c : Uw17.Call) : List Int := (((Uw17.step b c).2.l.length : Int) + 1) :: (Uw17.step b c).2.v :: (Uw17.step b c).2.l
theorem told_cons (b : Uw17.Build) (c : Uw17.Call) (cs : List Uw17.Call) : told b (c :: cs) = one b c ++ told (Uw17.step b c).1 cs := rfl
theorem told_append : ∀ (b : Uw17.Build) (cs ds : List Uw17.Call), told b (cs ++ ds) = told b cs ++ told (run b cs) ds
  | _, [], _ => rfl
  | b, c :: cs, ds => by
    show one b c ++ told (Uw17.step b c).1 (cs ++ ds) = (one b c ++ told (Uw17.step b c).1 cs) ++ told (run (Uw17.step b c).1 cs) ds
    rw [told_append _ cs ds, List.append_assoc]
theorem run_append : ∀ (b : Uw17.Build) (cs ds : List Uw17.Call), run b (cs ++ ds) = run (run b cs) ds
  | _, [], _ => rfl
  | _, _ :: cs, ds => run_append _ cs ds
theorem told_snoc (b : Uw17.Build) (pre : List Uw17.Call) (c : Uw17.Call) : told b (pre ++ [c]) = told b pre ++ one (run b pre) c := by
  rw [told_append]
  show told b pre ++ (one (run b pre) c ++ []) = _
  rw [List.append_nil]
theorem run_snoc (b : Uw17.Build) (pre : List Uw17.Call) (c : Uw17.Call) : run b (pre ++ [c]) = (Uw17.step (run b pre) c).1 := by
  rw [run_append]
  rfl
theorem encs_append (a b : List Uw17.Call) : encs (a ++ b) = encs a ++ encs b := List.flatMap_append
theorem encs_cons (c : Uw17.Call) (cs : List Uw17.Call) : encs (c :: cs) = iz (enc c) ++ encs cs := rfl
theorem encs_snoc (a : List Uw17.Call) (c : Uw17.Call) : encs (a ++ [c]) = encs a ++ iz (enc c) := by
  rw [encs_append]
  show encs a ++ (iz (enc c) ++ []) = _
  rw [List.append_nil]
/-- the number at a place of the call that is next -/
theorem enc_at {pre post : List Uw17.Call} {c : Uw17.Call} {j n : Nat} (h : (enc c)[j]? = some n) : (encs (pre ++ c :: post))[(encs pre).length + j]? = some (n : Int) := by
  rw [encs_append, encs_cons, List.getElem?_append_right (by omega), Nat.add_sub_cancel_left]
  have hj : j < (enc c).length := (List.getElem?_eq_some_iff.mp h).1
  rw [List.getElem?_append_left (by rw [iz_length]; exact hj)]
  unfold iz
  rw [List.getElem?_map, h]
  rfl
theorem enc_pos (c : Uw17.Call) : 1 ≤ (enc c).length := by
  cases c <;> exact Nat.succ_le_succ (Nat.zero_le _)
/-- a piece of the call that is next -/
theorem enc_piece {pre post : List Uw17.Call} {c : Uw17.Call} {a m b : List Nat} (h : enc c = a ++ m ++ b) : ((encs (pre ++ c :: post)).drop ((encs pre).length + a.length)).take m.length = iz m := by
  rw [encs_append, encs_cons, h, iz_append, iz_append]
  have e : encs pre ++ (iz a ++ iz m ++ iz b ++ encs post) = (encs pre ++ iz a) ++ (iz m ++ (iz b ++ encs post)) := by simp
  rw [e, ← iz_length a, ← List.length_append, List.drop_left, ← iz_length m, List.take_left]
theorem encs_len {pre post : List Uw17.Call} {c : Uw17.Call} : (encs (pre ++ c :: post)).length = (encs pre).length + (enc c).length + (encs post).length := by
  rw [encs_append, encs_cons, List.length_append, List.length_append, iz_length]
  omega
/-- how much is answered -/
theorem one_len (b : Uw17.Build) (c : Uw17.Call) : (one b c).length = (Uw17.step b c).2.l.length + 2 := rfl
theorem flows_len (b : Uw17.Build) (l : List Nat) : (b.flows l).length ≤ l.length - 1 := by
  unfold Uw17.Build.flows
  rcases least_is (b.earth l) with ⟨e, _⟩ | ⟨x, e, h, _⟩
  · rw [e]
    exact Nat.zero_le _
  · rw [e]
    show x.flows.dropLast.length ≤ l.length - 1
    rw [List.length_dropLast, fc_len h, earth_len]
    exact Nat.le_refl _
theorem ans_len {b : Uw17.Build} (o : Ok b) (c : Uw17.Call) : (Uw17.step b c).2.l.length ≤ 10 := by
  cases c with
  | begins s t d f => rw [step_begins]; split <;> exact Nat.zero_le _
  | point g =>
    rw [step_point g o]
    split
    · exact Nat.zero_le _
    · split <;> exact Nat.zero_le _
  | fix i h =>
    rw [step_fix]
    split
    · exact Nat.zero_le _
    · split <;> exact Nat.zero_le _
  | free i =>
    rw [step_free]
    split
    · exact Nat.zero_le _
    · split <;> exact Nat.zero_le _
  | pit i t d =>
    rw [step_pit]
    split
    · exact Nat.zero_le _
    · split <;> exact Nat.zero_le _
  | close i =>
    rw [step_close]
    split
    · exact Nat.zero_le _
    · split <;> exact Nat.zero_le _
  | best =>
    rw [step_best]
    rcases best_is b with ⟨e, _⟩ | ⟨x, e, _, hm, _⟩
    · rw [e]
      exact Nat.zero_le _
    · rw [e]
      have h1 := ((lines_mem b x.line).mp hm).1
      have h2 := flows_len b x.line
      have h3 := o.few
      show ((x.many : Int) :: (Uw17.ints x.line ++ b.flows x.line)).length ≤ 10
      have h4 : (Uw17.ints x.line).length = x.line.length := List.length_map ..
      rw [List.length_cons, List.length_append, h4]
      omega
  | check l p =>
    show (if _ then (b, Uw17.ok (-1)) else (b, match b.road.wrong l with
      | some x => (⟨-6, [(x.1 : Int), (x.2 : Int)]⟩ : Uw17.Ans)
      | none => match Uw09.wrong (b.earth l) p with
        | some i => ⟨-7, [(i : Int), Uw09.rest (b.earth l) p i]⟩
        | none => Uw17.ok (b.road.cost l + Uw09.cost (b.earth l) p : Nat)) : Uw17.Build × Uw17.Ans).2.l.length ≤ 10
    split
    · exact Nat.zero_le _
    · show (match b.road.wrong l with
      | some x => (⟨-6, [(x.1 : Int), (x.2 : Int)]⟩ : Uw17.Ans)
      | none => match Uw09.wrong (b.earth l) p with
        | some i => ⟨-7, [(i : Int), Uw09.rest (b.earth l) p i]⟩
        | none => Uw17.ok (b.road.cost l + Uw09.cost (b.earth l) p : Nat)).l.length ≤ 10
      cases b.road.wrong l with
      | some x => show 2 ≤ 10; decide
      | none =>
        cases Uw09.wrong (b.earth l) p with
        | some i => show 2 ≤ 10; decide
        | none => exact Nat.zero_le _
theorem told_len : ∀ {b : Uw17.Build} (cs : List Uw17.Call), Ok b → (told b cs).length ≤ 12 * cs.length
  | _, [], _ => Nat.le_refl _
  | b, c :: cs, o => by
    have h1 := ans_len o c
    have h2 := told_len cs (o.step c)
    rw [told_cons, List.length_append, one_len]
    show (Uw17.step b c).2.l.length + 2 + (told (Uw17.step b c).1 cs).length ≤ 12 * (cs.length + 1)
    omega
end RL

end
section
namespace RL
/-! ### costs as whole numbers -/
theorem price_dig {r : Uw16.Road} {i h : Nat} (hg : h ≤ (r.point i).ground) : ((r.price i h : Nat) : Int) = (((r.point i).ground : Int) - (h : Int)) * (r.dig : Int) := by
  show ((((r.point i).ground - h) * r.dig + (h - (r.point i).ground) * r.fill : Nat) : Int) = _
  rw [show h - (r.point i).ground = 0 by omega, Nat.zero_mul, Nat.add_zero, Int.natCast_mul, Int.ofNat_sub hg]
theorem price_fill {r : Uw16.Road} {i h : Nat} (hg : (r.point i).ground ≤ h) : ((r.price i h : Nat) : Int) = ((h : Int) - ((r.point i).ground : Int)) * (r.fill : Int) := by
  show ((((r.point i).ground - h) * r.dig + (h - (r.point i).ground) * r.fill : Nat) : Int) = _
  rw [show (r.point i).ground - h = 0 by omega, Nat.zero_mul, Nat.zero_add, Int.natCast_mul, Int.ofNat_sub hg]
theorem price_none {x : Int} (h : x ≠ 0) : Uw09.price none x = none := if_neg h
theorem price_zero (p : Option (Nat × Nat)) : Uw09.price p 0 = some 0 := if_pos rfl
theorem price_tip {t d : Nat} {x : Int} (h : 0 < x) : Uw09.price (some (t, d)) x = some (x.toNat * t) := by
  show (if x = 0 then some 0 else some (if 0 < x then x.toNat * t else (-x).toNat * d)) = _
  rw [if_neg (by omega), if_pos h]
theorem price_fetch {t d : Nat} {x : Int} (h : x < 0) : Uw09.price (some (t, d)) x = some ((-x).toNat * d) := by
  show (if x = 0 then some 0 else some (if 0 < x then x.toNat * t else (-x).toNat * d)) = _
  rw [if_neg (by omega), if_neg (by omega)]
theorem tip_int {t : Nat} {x : Int} (h : 0 ≤ x) : ((x.toNat * t : Nat) : Int) = x * (t : Int) := by
  rw [Int.natCast_mul]; rw [Int.toNat_of_nonneg h]
theorem price_isNone (p : Option (Nat × Nat)) (x : Int) : (Uw09.price p x).isNone = (p.isNone && decide (x ≠ 0)) := by
  unfold Uw09.price
  by_cases h : x = 0
  · rw [if_pos h, decide_eq_false (by exact fun q => q h), Bool.and_false]
    rfl
  · rw [if_neg h, decide_eq_true h, Bool.and_true]
    cases p <;> rfl
/-- what pits cost, up to a point -/
def pitsTo (r : Uw09.Road) (p : Uw09.Plan) (i : Nat) : Nat := Uw09.total ((List.range i).map fun j => (Uw09.price (r.getD j ⟨0, none⟩).pit (Uw09.rest r p j)).getD 0)
def haulsCost (p : Uw09.Plan) : Nat := Uw09.total (p.map fun h => h.loads * Uw09.apart h.from_ h.to)
theorem cost_eq (r : Uw09.Road) (p : Uw09.Plan) : Uw09.cost r p = haulsCost p + pitsTo r p r.length := rfl
/-- the earth at a point, of a line with a height for each -/
theorem earth_getD (b : Uw17.Build) {l : List Nat} {i : Nat} (h : i < l.length) : (b.earth l).getD i ⟨0, none⟩ = ⟨((b.road.point i).ground : Int) - (l.getD i 0 : Int), b.pits.getD i none⟩ := by
  rw [List.getD_eq_getElem?_getD, earth_at b h]
  rfl
/-- check, what it refuses -/
def Refused (b : Uw17.Build) (l : List Nat) (p : Uw09.Plan) : Prop := l.length ≠ b.road.points.length ∨ (∃ x ∈ l, 6 < x) ∨ 20 < p.length ∨ ∃ h ∈ p, b.road.points.length ≤ h.from_ ∨ b.road.points.length ≤ h.to ∨ h.from_ = h.to ∨ 1000 < h.loads
theorem step_check_no {b : Uw17.Build} {l : List Nat} {p : Uw09.Plan} (h : Refused b l p) : Uw17.step b (.check l p) = (b, Uw17.ok (-1)) := by
  refine if_pos ?_
  by_cases hl : l.length = b.road.points.length
  · rcases h with h | ⟨x, hx, h6⟩ | h | ⟨g, hg, h⟩
    · exact .inl h
    · refine .inr (.inl ?_)
      cases e : Uw17.low l with
      | false => rfl
      | true =>
        have := of_decide_eq_true (List.all_eq_true.mp e x hx)
        have h' : x ≤ 6 := this
        omega
    · exact .inr (.inr (.inl h))
    · by_cases h1000 : 1000 < g.loads
      · refine .inr (.inr (.inr (.inr ?_)))
        cases e : (p.all fun h => decide (h.loads ≤ Uw09.LOADS)) with
        | false => rfl
        | true =>
          have h' : g.loads ≤ 1000 := of_decide_eq_true (List.all_eq_true.mp e g hg)
          omega
      · refine .inr (.inr (.inr (.inl ?_)))
        cases e : Uw09.told (b.earth l) p with
        | false => rfl
        | true =>
          have h' := List.all_eq_true.mp e g hg
          rw [Bool.and_eq_true, Bool.and_eq_true, decide_eq_true_iff, decide_eq_true_iff, earth_len, hl, bne_iff_ne] at h'
          omega
  · exact .inl hl
theorem step_check_yes {b : Uw17.Build} {l : List Nat} {p : Uw09.Plan} (h : ¬ Refused b l p) : Uw17.step b (.check l p) = (b, match b.road.wrong l with
    | some x => ⟨-6, [(x.1 : Int), (x.2 : Int)]⟩
    | none => match Uw09.wrong (b.earth l) p with
      | some i => ⟨-7, [(i : Int), Uw09.rest (b.earth l) p i]⟩
      | none => Uw17.ok (b.road.cost l + Uw09.cost (b.earth l) p : Nat)) := by
  refine if_neg ?_
  rintro (q | q | q | q | q)
  · exact h (.inl q)
  · refine h (.inr (.inl ?_))
    apply Classical.byContradiction
    intro n
    have : Uw17.low l = true := List.all_eq_true.mpr fun x hx => decide_eq_true (show x ≤ 6 from Nat.le_of_not_lt fun z => n ⟨x, hx, z⟩)
    rw [this] at q
    cases q
  · exact h (.inr (.inr (.inl q)))
  · have hl : l.length = b.road.points.length := Classical.byContradiction fun z => h (.inl z)
    refine h (.inr (.inr (.inr ?_)))
    apply Classical.byContradiction
    intro n
    have : Uw09.told (b.earth l) p = true := List.all_eq_true.mpr fun g hg => by
      have m : ¬ (b.road.points.length ≤ g.from_ ∨ b.road.points.length ≤ g.to ∨ g.from_ = g.to ∨ 1000 < g.loads) := fun z => n ⟨g, hg, z⟩
      rw [Bool.and_eq_true, Bool.and_eq_true, decide_eq_true_iff, decide_eq_true_iff, earth_len, hl, bne_iff_ne]
      omega
    rw [this] at q
    cases q
  · refine h (.inr (.inr (.inr ?_)))
    apply Classical.byContradiction
    intro n
    have : (p.all fun h => decide (h.loads ≤ Uw09.LOADS)) = true := List.all_eq_true.mpr fun g hg => decide_eq_true (show g.loads ≤ 1000 from Nat.le_of_not_lt fun z => n ⟨g, hg, .inr (.inr (.inr z))⟩)
    rw [this] at q
    cases q
end RL

end
section
namespace RL
/-! ### lines grown point by point -/
theorem wrong_none (r : Uw16.Road) {l : List Nat} (h : ∀ x ∈ l, x ≤ 6) : r.wrong l = none ↔ (∀ i, i < l.length → bad1 r l i = false) ∧ (∀ i, i < l.length - 1 → bad2 r l i = false) ∧ (∀ i, i < l.length - 2 → bad3 r l i = false) := by
  rw [wrong_low r h]
  cases e1 : (List.range l.length).find? (bad1 r l) with
  | some i =>
    constructor
    · intro q
      cases q
    · rintro ⟨q, _⟩
      rw [find_none.mpr q] at e1
      cases e1
  | none =>
    have a1 := find_none.mp e1
    cases e2 : (List.range (l.length - 1)).find? (bad2 r l) with
    | some i =>
      constructor
      · intro q
        cases q
      · rintro ⟨_, q, _⟩
        rw [find_none.mpr q] at e2
        cases e2
    | none =>
      have a2 := find_none.mp e2
      show ((List.range (l.length - 2)).find? (bad3 r l)).map _ = none ↔ _
      rw [Option.map_eq_none_iff]
      exact ⟨fun q => ⟨a1, a2, find_none.mp q⟩, fun q => find_none.mpr q.2.2⟩
theorem bad1_false {r : Uw16.Road} {l : List Nat} {i : Nat} : bad1 r l i = false ↔ ∀ f, (r.point i).fixed = some f → f = l.getD i 0 := by
  unfold bad1
  cases (r.point i).fixed with
  | none => exact ⟨fun _ f q => (by cases q), fun _ => rfl⟩
  | some f =>
    constructor
    · intro q f' e
      cases e
      have q' : (!(f == l.getD i 0)) = false := q
      rw [Bool.not_eq_false'] at q'
      exact eq_of_beq q'
    · intro q
      show (!(f == l.getD i 0)) = false
      rw [q f rfl, beq_self_eq_true]
      rfl
theorem bad2_false {r : Uw16.Road} {l : List Nat} {i : Nat} : bad2 r l i = false ↔ Uw16.apart (l.getD i 0) (l.getD (i + 1) 0) ≤ r.slope := by
  unfold bad2
  rw [decide_eq_false_iff_not]
  omega
theorem bad3_false {r : Uw16.Road} {l : List Nat} {i : Nat} : bad3 r l i = false ↔ Uw16.apart (l.getD i 0 + l.getD (i + 2) 0) (2 * l.getD (i + 1) 0) ≤ r.bend := by
  unfold bad3
  rw [decide_eq_false_iff_not]
  omega
end RL

end
section
namespace RL
/-! ### flows that stay within reach at each point too -/
def Okf : Uw09.Road → Int → List Int → Prop
  | [], _, _ => True
  | _ :: _, _, [] => True
  | s :: l, f, y :: ys => (-30 ≤ f + s.over ∧ f + s.over ≤ 30) ∧ (-30 ≤ y ∧ y ≤ 30) ∧ Okf l y ys
/-- between two lines that go along with what's over -/
def Btw : Int → Int → Uw09.Road → List Int → Prop
  | _, _, [], _ => True
  | _, _, _ :: _, [] => True
  | a, h, s :: l, y :: ys => (a + s.over ≤ y ∧ y ≤ h + s.over) ∧ Btw (a + s.over) (h + s.over) l ys
theorem btw_hi : ∀ (r : Uw09.Road) (h : Int) (ys : List Int), ∀ a, a ≤ h → Btw a h r (capLo a r (capHi h r ys))
  | [], _, _, _, _ => trivial
  | _ :: _, _, [], _, _ => trivial
  | s :: l, h, y :: ys, a, ha => by
    refine ⟨?_, btw_hi l (h + s.over) ys (a + s.over) (by omega)⟩
    show a + s.over ≤ max (min y (h + s.over)) (a + s.over) ∧ max (min y (h + s.over)) (a + s.over) ≤ h + s.over
    omega
theorem Btw.okf : ∀ (r : Uw09.Road) (a h f : Int) (ys : List Int), Btw a h r ys → a ≤ f → f ≤ h → h + pos r ≤ 30 → -30 ≤ a - neg r → Okf r f ys
  | [], _, _, _, _, _, _, _, _, _ => trivial
  | _ :: _, _, _, _, [], _, _, _, _, _ => trivial
  | s :: l, a, h, f, y :: ys, b, h1, h2, h3, h4 => by
    obtain ⟨⟨b1, b2⟩, b3⟩ := b
    have h3' : h + (max s.over 0 + pos l) ≤ 30 := h3
    have h4' : -30 ≤ a - (max (-s.over) 0 + neg l) := h4
    have np := pos_nn l
    have nn := neg_nn l
    refine ⟨by omega, by omega, Btw.okf l _ _ y ys b3 b1 b2 (by omega) (by omega)⟩
theorem within30 {r : Uw09.Road} {ys : List Int} {c : Nat} (hm : Uw09.most r ≤ 30) (h : fc r 0 ys = some c) : ∃ zs d, Okf r 0 zs ∧ fc r 0 zs = some d ∧ d ≤ c ∧ (zs = ys ∨ d < c) := by
  have np := pos_nn r
  have nn := neg_nn r
  have hm' := most_eq r
  obtain ⟨c1, h1, h2, h3⟩ := capHi_le r (neg r) ys 0 c (Int.le_refl _) h
  rw [show min 0 (neg r) = 0 by omega] at h1
  obtain ⟨c2, g1, g2, g3⟩ := capLo_le r (-pos r) _ 0 c1 (Int.le_refl _) h1
  rw [show max 0 (-pos r) = 0 by omega] at g1
  refine ⟨_, c2, ?_, g1, by omega, ?_⟩
  · exact Btw.okf r (-pos r) (neg r) 0 _ (btw_hi r (neg r) ys (-pos r) (by omega)) (by omega) (by omega) (by omega) (by omega)
  · rcases h3 with h3 | h3
    · rcases g3 with g3 | g3
      · left
        rw [g3, h3]
      · right
        omega
    · right
      omega
/-- what is the least and earliest of those within reach is so of all -/
theorem isLeast_of {r : Uw09.Road} {c : Nat} {ys : List Int} (hm : Uw09.most r ≤ 30) (h : fc r 0 ys = some c) (hl : ∀ zs d, Okf r 0 zs → fc r 0 zs = some d → c < d ∨ (c = d ∧ lexle ys zs)) : IsLeast r c ys := by
  refine ⟨h, fun zs d hd => ?_⟩
  obtain ⟨ws, e, g1, g2, g3, g4⟩ := within30 hm hd
  have q := hl ws e g1 g2
  rcases g4 with g4 | g4
  · subst g4
    rw [hd] at g2
    cases g2
    exact q
  · left
    omega
/-! ### the tables of costs -/
def NV : Int := 1000000
def past : List Int := List.replicate 30 NV ++ [0] ++ List.replicate 30 NV
def tv (T : List Int) (f : Int) : Int := T.getD (f + 30).toNat 0
def carried (T : List Int) : List Int := (List.range T.length).map fun (i : Nat) => T.getD i 0 + (((i : Int) - 30).natAbs : Int)
def chN (T : List Int) (p : Int) : Nat → Int
  | 0 => T.getD 0 0
  | i + 1 => min (T.getD (i + 1) 0) (chN T p i + p)
def cheap (T : List Int) (p : Int) : List Int := (List.range T.length).map (chN T p)
def here (pit : Option (Nat × Nat)) (T : List Int) : List Int := match pit with
  | none => carried T
  | some (t, d) => (cheap (cheap (carried T) t).reverse d).reverse
def ahead (T : List Int) (o : Int) : List Int := if 0 ≤ o then T.drop o.toNat ++ List.replicate o.toNat NV else List.replicate (-o).toNat NV ++ T.take (T.length - (-o).toNat)
def tab : Uw09.Road → List Int
  | [] => past
  | s :: l => ahead (here s.pit (tab l)) s.over
theorem getD_map_range {n i : Nat} (g : Nat → Int) (h : i < n) : ((List.range n).map g).getD i 0 = g i := by
  rw [List.getD_eq_getElem?_getD]; rw [List.getElem?_map]; rw [List.getElem?_range h]
  rfl
theorem getD_rev {T : List Int} {i : Nat} (h : i < T.length) : T.reverse.getD i 0 = T.getD (T.length - 1 - i) 0 := by
  rw [List.getD_eq_getElem?_getD, List.getD_eq_getElem?_getD, List.getElem?_reverse h]
theorem cheap_len (T : List Int) (p : Int) : (cheap T p).length = T.length := by
  unfold cheap
  rw [List.length_map, List.length_range]
theorem carried_len (T : List Int) : (carried T).length = T.length := by
  unfold carried
  rw [List.length_map, List.length_range]
theorem here_len (pit : Option (Nat × Nat)) (T : List Int) : (here pit T).length = T.length := by
  unfold here
  cases pit with
  | none => exact carried_len T
  | some x =>
    show (cheap (cheap (carried T) x.1).reverse x.2).reverse.length = T.length
    rw [List.length_reverse, cheap_len, List.length_reverse, cheap_len, carried_len]
theorem ahead_len {T : List Int} {o : Int} (h : o.natAbs ≤ T.length) : (ahead T o).length = T.length := by
  unfold ahead
  split
  · rw [List.length_append, List.length_drop, List.length_replicate]
    omega
  · rw [List.length_append, List.length_take, List.length_replicate]
    omega
theorem tab_len : ∀ {r : Uw09.Road}, (∀ s ∈ r, s.over.natAbs ≤ 6) → (tab r).length = 61
  | [], _ => rfl
  | s :: l, h => by
    have ih := tab_len (r := l) fun x hx => h x (List.mem_cons_of_mem _ hx)
    have h0 := h s List.mem_cons_self
    show (ahead (here s.pit (tab l)) s.over).length = 61
    rw [ahead_len (by rw [here_len, ih]; omega), here_len, ih]
theorem chN_le (T : List Int) {p : Int} : ∀ (i j : Nat), j ≤ i → chN T p i ≤ T.getD j 0 + ((i - j : Nat) : Int) * p
  | 0, j, h => by
    have : j = 0 := by omega
    subst this
    show T.getD 0 0 ≤ T.getD 0 0 + ((0 - 0 : Nat) : Int) * p
    simp
  | i + 1, j, h => by
    show min (T.getD (i + 1) 0) (chN T p i + p) ≤ _
    by_cases e : j = i + 1
    · subst e
      have : ((i + 1 - (i + 1) : Nat) : Int) * p = 0 := by simp
      rw [this]
      omega
    · have ih := chN_le T (p := p) i j (by omega)
      have e2 : ((i + 1 - j : Nat) : Int) * p = ((i - j : Nat) : Int) * p + p := by
        rw [show ((i + 1 - j : Nat) : Int) = ((i - j : Nat) : Int) + 1 by omega, Int.add_mul, Int.one_mul]
      rw [e2]
      omega
theorem chN_ex (T : List Int) {p : Int} : ∀ (i : Nat), ∃ j, j ≤ i ∧ chN T p i = T.getD j 0 + ((i - j : Nat) : Int) * p
  | 0 => ⟨0, Nat.le_refl _, by show T.getD 0 0 = _; simp⟩
  | i + 1 => by
    obtain ⟨j, h1, h2⟩ := chN_ex T (p := p) i
    by_cases c : T.getD (i + 1) 0 ≤ chN T p i + p
    · refine ⟨i + 1, Nat.le_refl _, ?_⟩
      show min (T.getD (i + 1) 0) (chN T p i + p) = _
      have : ((i + 1 - (i + 1) : Nat) : Int) * p = 0 := by simp
      rw [this]
      omega
    · refine ⟨j, by omega, ?_⟩
      show min (T.getD (i + 1) 0) (chN T p i + p) = _
      have e2 : ((i + 1 - j : Nat) : Int) * p = ((i - j : Nat) : Int) * p + p := by
        rw [show ((i + 1 - j : Nat) : Int) = ((i - j : Nat) : Int) + 1 by omega, Int.add_mul, Int.one_mul]
      rw [e2]
      omega
theorem price_up {t d i j : Nat} (h : j ≤ i) : Uw09.price (some (t, d)) ((i : Int) - (j : Int)) = some ((i - j) * t) := by
  by_cases e : i = j
  · subst e
    rw [Int.sub_self, price_zero, Nat.sub_self, Nat.zero_mul]
  · rw [price_tip (by omega), show ((i : Int) - (j : Int)).toNat = i - j by omega]
theorem price_down {t d i j : Nat} (h : i ≤ j) : Uw09.price (some (t, d)) ((i : Int) - (j : Int)) = some ((j - i) * d) := by
  by_cases e : i = j
  · subst e
    rw [Int.sub_self, price_zero, Nat.sub_self, Nat.zero_mul]
  · rw [price_fetch (by omega), show (-((i : Int) - (j : Int))).toNat = j - i by omega]
/-- the costs at a point: no more than any that goes on, and what one of these costs -/
theorem here_le {pit : Option (Nat × Nat)} {T : List Int} {i j k : Nat} (hi : i < T.length) (hj : j < T.length) (hk : Uw09.price pit ((i : Int) - (j : Int)) = some k) :
    (here pit T).getD i 0 ≤ T.getD j 0 + (((j : Int) - 30).natAbs : Int) + k := by
  cases pit with
  | none =>
    by_cases e : (i : Int) - (j : Int) = 0
    · have : i = j := by omega
      subst this
      show (carried T).getD i 0 ≤ _
      unfold carried
      rw [getD_map_range _ hi]
      omega
    · rw [price_none e] at hk
      cases hk
  | some x =>
    obtain ⟨t, d⟩ := x
    show (cheap (cheap (carried T) t).reverse d).reverse.getD i 0 ≤ _
    have l1 : (cheap (carried T) t).length = T.length := by rw [cheap_len, carried_len]
    have l2 : (cheap (cheap (carried T) t).reverse d).length = T.length := by rw [cheap_len, List.length_reverse, l1]
    rw [getD_rev (by rw [l2]; exact hi), l2]
    unfold cheap
    rw [getD_map_range _ (by rw [List.length_reverse, List.length_map, List.length_range, carried_len]; omega)]
    have cj : (carried T).getD j 0 = T.getD j 0 + (((j : Int) - 30).natAbs : Int) := by
      unfold carried
      rw [getD_map_range _ hj]
    have rv : ∀ m, m < T.length → ((List.range (carried T).length).map (chN (carried T) t)).reverse.getD m 0 = chN (carried T) t (T.length - 1 - m) := fun m hm => by
      rw [getD_rev (by rw [List.length_map, List.length_range, carried_len]; exact hm), List.length_map, List.length_range, carried_len, getD_map_range _ (by omega)]
    by_cases c : j ≤ i
    · have q := chN_le ((List.range (carried T).length).map (chN (carried T) t)).reverse (p := (d : Int)) (T.length - 1 - i) (T.length - 1 - i) (Nat.le_refl _)
      rw [rv _ (by omega), show T.length - 1 - (T.length - 1 - i) = i by omega] at q
      have q2 := chN_le (carried T) (p := (t : Int)) i j c
      rw [price_up c] at hk
      have hk' : (i - j) * t = k := Option.some.inj hk
      rw [cj] at q2
      have e0 : ((T.length - 1 - i - (T.length - 1 - i) : Nat) : Int) * (d : Int) = 0 := by simp
      rw [e0] at q
      have e1 : ((i - j : Nat) : Int) * (t : Int) = (k : Int) := by rw [← hk', Int.natCast_mul]
      rw [e1] at q2
      omega
    · have q := chN_le ((List.range (carried T).length).map (chN (carried T) t)).reverse (p := (d : Int)) (T.length - 1 - i) (T.length - 1 - j) (by omega)
      rw [rv _ (by omega), show T.length - 1 - (T.length - 1 - j) = j by omega] at q
      have q2 := chN_le (carried T) (p := (t : Int)) j j (Nat.le_refl _)
      rw [price_down (by omega)] at hk
      have hk' : (j - i) * d = k := Option.some.inj hk
      rw [cj] at q2
      have e0 : ((j - j : Nat) : Int) * (t : Int) = 0 := by simp
      rw [e0] at q2
      have e1 : ((T.length - 1 - i - (T.length - 1 - j) : Nat) : Int) * (d : Int) = (k : Int) := by rw [show T.length - 1 - i - (T.length - 1 - j) = j - i by omega, ← hk', Int.natCast_mul]
      rw [e1] at q
      omega
theorem here_ex {pit : Option (Nat × Nat)} {T : List Int} {i : Nat} (hi : i < T.length) : ∃ j k, j < T.length ∧ Uw09.price pit ((i : Int) - (j : Int)) = some k ∧
    (here pit T).getD i 0 = T.getD j 0 + (((j : Int) - 30).natAbs : Int) + k := by
  cases pit with
  | none =>
    refine ⟨i, 0, hi, by rw [Int.sub_self, price_zero], ?_⟩
    show (carried T).getD i 0 = _
    unfold carried
    rw [getD_map_range _ hi]
    simp
  | some x =>
    obtain ⟨t, d⟩ := x
    have l1 : (cheap (carried T) t).length = T.length := by rw [cheap_len, carried_len]
    have l2 : (cheap (cheap (carried T) t).reverse d).length = T.length := by rw [cheap_len, List.length_reverse, l1]
    have cj : ∀ j, j < T.length → (carried T).getD j 0 = T.getD j 0 + (((j : Int) - 30).natAbs : Int) := fun j hj => by
      unfold carried
      rw [getD_map_range _ hj]
    have rv : ∀ m, m < T.length → ((List.range (carried T).length).map (chN (carried T) t)).reverse.getD m 0 = chN (carried T) t (T.length - 1 - m) := fun m hm => by
      rw [getD_rev (by rw [List.length_map, List.length_range, carried_len]; exact hm), List.length_map, List.length_range, carried_len, getD_map_range _ (by omega)]
    have he : (here (some (t, d)) T).getD i 0 = chN ((List.range (carried T).length).map (chN (carried T) t)).reverse d (T.length - 1 - i) := by
      show (cheap (cheap (carried T) t).reverse d).reverse.getD i 0 = _
      rw [getD_rev (by rw [l2]; exact hi), l2]
      unfold cheap
      rw [getD_map_range _ (by rw [List.length_reverse, List.length_map, List.length_range, carried_len]; omega)]
    obtain ⟨m, m1, m2⟩ := chN_ex ((List.range (carried T).length).map (chN (carried T) t)).reverse (p := (d : Int)) (T.length - 1 - i)
    rw [rv m (by omega)] at m2
    obtain ⟨j, j1, j2⟩ := chN_ex (carried T) (p := (t : Int)) (T.length - 1 - m)
    rw [j2, cj j (by omega)] at m2
    have n1 : 0 ≤ ((T.length - 1 - m - j : Nat) : Int) * (t : Int) := Int.mul_nonneg (by omega) (by omega)
    have n2 : 0 ≤ ((T.length - 1 - i - m : Nat) : Int) * (d : Int) := Int.mul_nonneg (by omega) (by omega)
    by_cases c : j ≤ i
    · have hk := price_up (t := t) (d := d) c
      refine ⟨j, _, by omega, hk, ?_⟩
      have le := here_le (pit := some (t, d)) hi (show j < T.length by omega) hk
      have q : ((i - j : Nat) : Int) * (t : Int) ≤ ((T.length - 1 - m - j : Nat) : Int) * (t : Int) := Int.mul_le_mul_of_nonneg_right (by omega) (by omega)
      have e : (((i - j) * t : Nat) : Int) = ((i - j : Nat) : Int) * (t : Int) := Int.natCast_mul _ _
      rw [he] at le ⊢
      omega
    · have hk := price_down (t := t) (d := d) (show i ≤ j by omega)
      refine ⟨j, _, by omega, hk, ?_⟩
      have le := here_le (pit := some (t, d)) hi (show j < T.length by omega) hk
      have q : ((j - i : Nat) : Int) * (d : Int) ≤ ((T.length - 1 - i - m : Nat) : Int) * (d : Int) := Int.mul_le_mul_of_nonneg_right (by omega) (by omega)
      have e : (((j - i) * d : Nat) : Int) = ((j - i : Nat) : Int) * (d : Int) := Int.natCast_mul _ _
      rw [he] at le ⊢
      omega
theorem ahead_in {T : List Int} {o : Int} {i : Nat} (hT : T.length = 61) (ho : o.natAbs ≤ 6) (hi : i < 61) (h1 : 0 ≤ (i : Int) + o) (h2 : (i : Int) + o ≤ 60) : (ahead T o).getD i 0 = T.getD ((i : Int) + o).toNat 0 := by
  unfold ahead
  rw [List.getD_eq_getElem?_getD, List.getD_eq_getElem?_getD]
  split
  · rw [List.getElem?_append_left (by rw [List.length_drop]; omega), List.getElem?_drop, show o.toNat + i = ((i : Int) + o).toNat by omega]
  · rw [List.getElem?_append_right (by rw [List.length_replicate]; omega), List.length_replicate, List.getElem?_take, if_pos (by omega), show i - (-o).toNat = ((i : Int) + o).toNat by omega]
theorem ahead_out {T : List Int} {o : Int} {i : Nat} (hT : T.length = 61) (ho : o.natAbs ≤ 6) (hi : i < 61) (h : (i : Int) + o < 0 ∨ 60 < (i : Int) + o) : (ahead T o).getD i 0 = NV := by
  unfold ahead
  rw [List.getD_eq_getElem?_getD (i := i)]
  split
  · rw [List.getElem?_append_right (by rw [List.length_drop]; omega), List.getElem?_replicate, if_pos (by rw [List.length_drop]; omega)]
    rfl
  · rw [List.getElem?_append_left (by rw [List.length_replicate]; omega), List.getElem?_replicate, if_pos (by omega)]
    rfl
/-- what a table says -/
def TabOk (r : Uw09.Road) (T : List Int) : Prop := T.length = 61 ∧ ∀ f : Int, -30 ≤ f → f ≤ 30 →
  0 ≤ tv T f ∧ (∀ ys c, Okf r f ys → fc r f ys = some c → tv T f ≤ c) ∧ (tv T f < NV → ∃ ys c, Okf r f ys ∧ fc r f ys = some c ∧ tv T f = c)
theorem past_at {i : Nat} (h : i < 61) : past.getD i 0 = if i = 30 then 0 else NV := by
  unfold past
  rw [List.getD_eq_getElem?_getD (i := i)]
  by_cases c : i < 30
  · rw [if_neg (by omega), List.append_assoc, List.getElem?_append_left (by rw [List.length_replicate]; exact c), List.getElem?_replicate, if_pos c]
    rfl
  · rw [List.append_assoc, List.getElem?_append_right (by rw [List.length_replicate]; omega), List.length_replicate]
    by_cases e : i = 30
    · subst e
      rfl
    · rw [if_neg e, List.getElem?_append_right (by show 1 ≤ i - 30; omega)]
      show (List.replicate 30 NV)[i - 30 - 1]?.getD 0 = NV
      rw [List.getElem?_replicate, if_pos (by omega)]
      rfl
theorem abs30 {y : Int} (h : -30 ≤ y) : ((((y + 30).toNat : Nat) : Int) - 30).natAbs = y.natAbs := by omega
theorem tab_ok : ∀ {r : Uw09.Road}, (∀ s ∈ r, s.over.natAbs ≤ 6) → TabOk r (tab r)
  | [], _ => by
    refine ⟨rfl, fun f h1 h2 => ?_⟩
    have e : tv past f = if (f + 30).toNat = 30 then 0 else NV := past_at (by omega)
    show 0 ≤ tv past f ∧ (∀ ys c, Okf [] f ys → fc [] f ys = some c → tv past f ≤ c) ∧ (tv past f < NV → ∃ ys c, Okf [] f ys ∧ fc [] f ys = some c ∧ tv past f = c)
    rw [e]
    by_cases z : f = 0
    · subst z
      rw [if_pos (show ((0 : Int) + 30).toNat = 30 from rfl)]
      exact ⟨Int.le_refl _, fun ys c _ _ => by omega, fun _ => ⟨[], 0, trivial, rfl, rfl⟩⟩
    · rw [if_neg (by omega)]
      refine ⟨by decide, fun ys c _ hc => ?_, fun h => absurd h (by decide)⟩
      cases ys with
      | nil =>
        have hc' : (if f = 0 then some 0 else none) = some c := hc
        rw [if_neg z] at hc'
        cases hc'
      | cons y ys => cases hc
  | s :: l, h => by
    have h0 := h s List.mem_cons_self
    have ll := tab_len h
    have hl : ∀ x ∈ l, x.over.natAbs ≤ 6 := fun x hx => h x (List.mem_cons_of_mem _ hx)
    obtain ⟨tl, ih⟩ := tab_ok hl
    refine ⟨ll, fun f h1 h2 => ?_⟩
    have hn : (here s.pit (tab l)).length = 61 := by rw [here_len, tl]
    by_cases c : -30 ≤ f + s.over ∧ f + s.over ≤ 30
    · have e : tv (tab (s :: l)) f = (here s.pit (tab l)).getD (f + s.over + 30).toNat 0 := by
        unfold tv
        show (ahead (here s.pit (tab l)) s.over).getD (f + 30).toNat 0 = _
        rw [ahead_in hn h0 (by omega) (by omega) (by omega), show (((f + 30).toNat : Int) + s.over).toNat = (f + s.over + 30).toNat by omega]
      rw [e]
      obtain ⟨j, k, j1, j2, j3⟩ := here_ex (pit := s.pit) (T := tab l) (i := (f + s.over + 30).toNat) (by omega)
      have tj : (tab l).getD j 0 = tv (tab l) ((j : Int) - 30) := by
        unfold tv
        rw [show ((j : Int) - 30 + 30).toNat = j by omega]
      obtain ⟨i1, i2, i3⟩ := ih ((j : Int) - 30) (by omega) (by omega)
      rw [j3, tj]
      refine ⟨by omega, fun ys c hf hc => ?_, fun hlt => ?_⟩
      · cases ys with
        | nil => cases hc
        | cons y ys =>
          obtain ⟨_, hy, hf⟩ := hf
          obtain ⟨k', d, g1, g2, g3⟩ := fc_cons.mp hc
          obtain ⟨_, q2, _⟩ := ih y hy.1 hy.2
          have le := here_le (pit := s.pit) (T := tab l) (i := (f + s.over + 30).toNat) (j := (y + 30).toNat) (k := k') (by omega) (by omega) (by
            rw [show (((f + s.over + 30).toNat : Nat) : Int) - (((y + 30).toNat : Nat) : Int) = f + s.over - y by omega]
            exact g1)
          rw [j3, tj] at le
          have q := q2 ys d hf g2
          have q' : (tab l).getD (y + 30).toNat 0 ≤ d := q
          have g3' : (c : Int) = (y.natAbs : Int) + (k' : Int) + (d : Int) := by omega
          have a := abs30 hy.1
          rw [a] at le
          omega
      · obtain ⟨ys, cc, y1, y2, y3⟩ := i3 (by omega)
        refine ⟨((j : Int) - 30) :: ys, ((j : Int) - 30).natAbs + k + cc, ⟨c, by omega, y1⟩, fc_cons.mpr ⟨k, cc, ?_, y2, rfl⟩, by omega⟩
        rw [show f + s.over - ((j : Int) - 30) = (((f + s.over + 30).toNat : Nat) : Int) - (j : Int) by omega]
        exact j2
    · have e : tv (tab (s :: l)) f = NV := by
        unfold tv
        show (ahead (here s.pit (tab l)) s.over).getD (f + 30).toNat 0 = _
        exact ahead_out hn h0 (by omega) (by omega)
      rw [e]
      refine ⟨by decide, fun ys c' hf hc => ?_, fun q => absurd q (by decide)⟩
      cases ys with
      | nil => cases hc
      | cons y ys => exact absurd hf.1 c
end RL

end
section
namespace RL
/-! ### what's left at a point, by Python's words -/
def pcost (pit : Option (Nat × Nat)) (x : Int) : Int := match pit with
  | none => 0
  | some (t, d) => if 0 < x then x * t else -x * d
def mayB (pit : Option (Nat × Nat)) (x : Int) : Bool := pit.isSome || decide (x = 0)
theorem price_iff {pit : Option (Nat × Nat)} {x : Int} {k : Nat} : Uw09.price pit x = some k ↔ mayB pit x = true ∧ pcost pit x = k := by
  unfold mayB pcost
  cases pit with
  | none =>
    by_cases e : x = 0
    · subst e
      rw [price_zero]
      constructor
      · intro h
        cases h
        exact ⟨rfl, rfl⟩
      · rintro ⟨_, h⟩
        rw [show k = 0 by have h' : (0 : Int) = k := h; omega]
    · rw [price_none e]
      constructor
      · intro h
        cases h
      · rintro ⟨h, _⟩
        rw [decide_eq_false e] at h
        cases h
  | some p =>
    obtain ⟨t, d⟩ := p
    show _ ↔ (true || _) = true ∧ (if 0 < x then x * (t : Int) else -x * (d : Int)) = k
    rw [Bool.true_or]
    by_cases e : 0 < x
    · rw [price_tip e, if_pos e, ← tip_int (Int.le_of_lt e)]
      constructor
      · intro h
        exact ⟨rfl, by rw [Option.some.inj h]⟩
      · rintro ⟨_, h⟩
        rw [Int.ofNat.inj h]
    · rw [if_neg e]
      by_cases z : x = 0
      · subst z
        rw [price_zero]
        constructor
        · intro h
          cases h
          exact ⟨rfl, by simp⟩
        · rintro ⟨_, h⟩
          have : (k : Int) = 0 := by rw [← h]; simp
          rw [show k = 0 by omega]
      · rw [price_fetch (by omega), ← tip_int (show 0 ≤ -x by omega)]
        constructor
        · intro h
          exact ⟨rfl, by rw [Option.some.inj h]⟩
        · rintro ⟨_, h⟩
          rw [Int.ofNat.inj h]
theorem pcost_nn (pit : Option (Nat × Nat)) (x : Int) : 0 ≤ pcost pit x := by
  unfold pcost
  cases pit with
  | none => exact Int.le_refl _
  | some p =>
    obtain ⟨t, d⟩ := p
    show 0 ≤ if 0 < x then x * (t : Int) else -x * (d : Int)
    split
    · exact Int.mul_nonneg (by omega) (by omega)
    · exact Int.mul_nonneg (by omega) (by omega)
theorem price_of {pit : Option (Nat × Nat)} {x : Int} (h : mayB pit x = true) : Uw09.price pit x = some (pcost pit x).toNat := price_iff.mpr ⟨h, by rw [Int.toNat_of_nonneg (pcost_nn _ _)]⟩
/-! ### no more than what goes on costs -/
theorem tab_le {s : Uw09.Section} {l : Uw09.Road} (h : ∀ x ∈ s :: l, x.over.natAbs ≤ 6) {f y : Int} {k : Nat} (hf : -30 ≤ f ∧ f ≤ 30) (hy : -30 ≤ y ∧ y ≤ 30) (hv : tv (tab (s :: l)) f < NV) (hk : Uw09.price s.pit (f + s.over - y) = some k) :
    tv (tab (s :: l)) f ≤ y.natAbs + k + tv (tab l) y := by
  have h0 := h s List.mem_cons_self
  have hl : ∀ x ∈ l, x.over.natAbs ≤ 6 := fun x hx => h x (List.mem_cons_of_mem _ hx)
  have tl := tab_len hl
  have hn : (here s.pit (tab l)).length = 61 := by rw [here_len, tl]
  by_cases c : -30 ≤ f + s.over ∧ f + s.over ≤ 30
  · have e : tv (tab (s :: l)) f = (here s.pit (tab l)).getD (f + s.over + 30).toNat 0 := by
      unfold tv
      show (ahead (here s.pit (tab l)) s.over).getD (f + 30).toNat 0 = _
      rw [ahead_in hn h0 (by omega) (by omega) (by omega), show (((f + 30).toNat : Int) + s.over).toNat = (f + s.over + 30).toNat by omega]
    have le := here_le (pit := s.pit) (T := tab l) (i := (f + s.over + 30).toNat) (j := (y + 30).toNat) (k := k) (by omega) (by omega) (by
      rw [show (((f + s.over + 30).toNat : Nat) : Int) - (((y + 30).toNat : Nat) : Int) = f + s.over - y by omega]
      exact hk)
    rw [abs30 hy.1] at le
    rw [e]
    have : tv (tab l) y = (tab l).getD (y + 30).toNat 0 := rfl
    omega
  · have e : tv (tab (s :: l)) f = NV := by
      unfold tv
      show (ahead (here s.pit (tab l)) s.over).getD (f + 30).toNat 0 = _
      exact ahead_out hn h0 (by omega) (by omega)
    rw [e] at hv
    exact absurd hv (by decide)
/-- so many units here: may this many go on, where all costs the least? -/
def Cand (pit : Option (Nat × Nat)) (u : Int) (T : List Int) (least y : Int) : Prop := mayB pit (u - y) = true ∧ pcost pit (u - y) + y.natAbs + tv T y = least
theorem cand_ex {s : Uw09.Section} {l : Uw09.Road} (h : ∀ x ∈ s :: l, x.over.natAbs ≤ 6) {f : Int} (hf : -30 ≤ f ∧ f ≤ 30) (hv : tv (tab (s :: l)) f < NV) : ∃ y, (-30 ≤ y ∧ y ≤ 30) ∧ Cand s.pit (f + s.over) (tab l) (tv (tab (s :: l)) f) y := by
  have hl : ∀ x ∈ l, x.over.natAbs ≤ 6 := fun x hx => h x (List.mem_cons_of_mem _ hx)
  obtain ⟨_, q⟩ := tab_ok h
  obtain ⟨_, _, q3⟩ := q f hf.1 hf.2
  obtain ⟨ys, c, h1, h2, h3⟩ := q3 hv
  cases ys with
  | nil => cases h2
  | cons y ys =>
    obtain ⟨_, hy, ho⟩ := h1
    obtain ⟨k, d, g1, g2, g3⟩ := fc_cons.mp h2
    obtain ⟨m1, m2⟩ := price_iff.mp g1
    have le := tab_le h hf hy hv g1
    obtain ⟨_, ql⟩ := tab_ok hl
    have q2 := (ql y hy.1 hy.2).2.1 ys d ho g2
    refine ⟨y, hy, m1, ?_⟩
    rw [m2]
    omega
theorem cand_next {s : Uw09.Section} {l : Uw09.Road} (h : ∀ x ∈ s :: l, x.over.natAbs ≤ 6) {f y : Int} (hy : -30 ≤ y ∧ y ≤ 30) (hv : tv (tab (s :: l)) f < NV) (hc : Cand s.pit (f + s.over) (tab l) (tv (tab (s :: l)) f) y) : tv (tab l) y < NV := by
  obtain ⟨_, h2⟩ := hc
  have := pcost_nn s.pit (f + s.over - y)
  omega
/-- the way that is walked -/
inductive WayIs : Uw09.Road → Int → List Int → Prop
  | nil {f : Int} : WayIs [] f []
  | one {s : Uw09.Section} {f : Int} : WayIs [s] f []
  | cons {s s' : Uw09.Section} {l : Uw09.Road} {f y : Int} {ys : List Int} : (-30 ≤ y ∧ y ≤ 30) → Cand s.pit (f + s.over) (tab (s' :: l)) (tv (tab (s :: s' :: l)) f) y →
      (∀ y', -30 ≤ y' → y' < y → ¬ Cand s.pit (f + s.over) (tab (s' :: l)) (tv (tab (s :: s' :: l)) f) y') → WayIs (s' :: l) y ys → WayIs (s :: s' :: l) f (y :: ys)
theorem way_best : ∀ {r : Uw09.Road} {f : Int} {ys : List Int}, r ≠ [] → (∀ x ∈ r, x.over.natAbs ≤ 6) → (-30 ≤ f ∧ f ≤ 30) → tv (tab r) f < NV → WayIs r f ys →
    ∃ c : Nat, (c : Int) = tv (tab r) f ∧ fc r f (ys ++ [0]) = some c ∧ ∀ ws d, Okf r f ws → fc r f ws = some d → c < d ∨ (c = d ∧ lexle (ys ++ [0]) ws)
  | _, f, _, hne, h, hf, hv, .nil => absurd rfl hne
  | [s], f, _, hne, h, hf, hv, .one => by
    obtain ⟨_, q⟩ := tab_ok h
    obtain ⟨_, q2, q3⟩ := q f hf.1 hf.2
    obtain ⟨ys, c, h1, h2, h3⟩ := q3 hv
    have one : ∀ ws d, fc [s] f ws = some d → ws = [0] := fun ws d hw => by
      have hl := fc_len hw
      match ws, hl with
      | [y], _ =>
        obtain ⟨k, d', g1, g2, g3⟩ := fc_cons.mp hw
        have g2' : (if y = 0 then some 0 else none) = some d' := g2
        by_cases e : y = 0
        · rw [e]
        · rw [if_neg e] at g2'
          cases g2'
    have e := one ys c h2
    subst e
    refine ⟨c, h3.symm, h2, fun ws d ho hw => ?_⟩
    have e := one ws d hw
    subst e
    rw [h2] at hw
    cases hw
    exact .inr ⟨rfl, lexle_refl _⟩
  | s :: s' :: l, f, y :: ys, hne, h, hf, hv, .cons hy hc hm w => by
    have hl : ∀ x ∈ s' :: l, x.over.natAbs ≤ 6 := fun x hx => h x (List.mem_cons_of_mem _ hx)
    have hv' := cand_next h hy hv hc
    obtain ⟨c, i1, i2, i3⟩ := way_best (by simp) hl hy hv' w
    obtain ⟨c1, c2⟩ := hc
    have hk := price_of c1
    have kn := pcost_nn s.pit (f + s.over - y)
    refine ⟨y.natAbs + (pcost s.pit (f + s.over - y)).toNat + c, ?_, fc_cons.mpr ⟨_, c, hk, i2, rfl⟩, fun ws d ho hw => ?_⟩
    · omega
    · cases ws with
      | nil => cases hw
      | cons z zs =>
        obtain ⟨_, hz, ho⟩ := ho
        obtain ⟨k', d', g1, g2, g3⟩ := fc_cons.mp hw
        have le := tab_le h hf hz hv g1
        obtain ⟨_, ql⟩ := tab_ok hl
        have q2 := (ql z hz.1 hz.2).2.1 zs d' ho g2
        by_cases lt : y.natAbs + (pcost s.pit (f + s.over - y)).toNat + c < d
        · exact .inl lt
        · refine .inr ⟨by omega, ?_⟩
          obtain ⟨p1, p2⟩ := price_iff.mp g1
          have cz : Cand s.pit (f + s.over) (tab (s' :: l)) (tv (tab (s :: s' :: l)) f) z := ⟨p1, by rw [p2]; omega⟩
          by_cases e : y = z
          · subst e
            have ek : k' = (pcost s.pit (f + s.over - y)).toNat := Option.some.inj (g1.symm.trans hk)
            rcases i3 zs d' ho g2 with q | ⟨q, q'⟩
            · exfalso
              omega
            · exact .inr ⟨rfl, q'⟩
          · refine .inl ?_
            apply Classical.byContradiction
            intro n
            exact hm z hz.1 (by omega) cz
/-- what flows cost at the most, within reach -/
theorem price_most {pit : Option (Nat × Nat)} (hp : ∀ t d, pit = some (t, d) → t ≤ 100 ∧ d ≤ 100) {x : Int} {k : Nat} (h : Uw09.price pit x = some k) : k ≤ x.natAbs * 100 := by
  by_cases e : x = 0
  · subst e
    rw [price_zero] at h
    cases h
    exact Nat.zero_le _
  · cases pit with
    | none =>
      rw [price_none e] at h
      cases h
    | some p =>
      obtain ⟨t, d⟩ := p
      obtain ⟨h1, h2⟩ := hp t d rfl
      by_cases c : 0 < x
      · rw [price_tip c] at h
        have h' := Option.some.inj h
        rw [← h', show x.toNat = x.natAbs by omega]
        exact Nat.mul_le_mul_left _ h1
      · rw [price_fetch (by omega)] at h
        have h' := Option.some.inj h
        rw [← h', show (-x).toNat = x.natAbs by omega]
        exact Nat.mul_le_mul_left _ h2
theorem fc_most : ∀ {r : Uw09.Road} {f : Int} {ys : List Int} {c : Nat}, (∀ s ∈ r, ∀ t d, s.pit = some (t, d) → t ≤ 100 ∧ d ≤ 100) → Okf r f ys → fc r f ys = some c → c ≤ 6030 * r.length
  | [], f, [], c, _, _, h => by
    have h' : (if f = 0 then some 0 else none) = some c := h
    by_cases e : f = 0
    · rw [if_pos e] at h'
      cases h'
      exact Nat.zero_le _
    · rw [if_neg e] at h'
      cases h'
  | [], _, _ :: _, _, _, _, h => by cases h
  | _ :: _, _, [], _, _, _, h => by cases h
  | s :: l, f, y :: ys, c, hp, ho, h => by
    obtain ⟨ha, hy, ho⟩ := ho
    obtain ⟨k, d, g1, g2, g3⟩ := fc_cons.mp h
    have i := fc_most (fun x hx => hp x (List.mem_cons_of_mem _ hx)) ho g2
    have kk := price_most (hp s List.mem_cons_self) g1
    show c ≤ 6030 * (l.length + 1)
    have : (f + s.over - y).natAbs ≤ 60 := by omega
    omega
/-- the least, by the table -/
theorem least_tab {r : Uw09.Road} (h : ∀ x ∈ r, x.over.natAbs ≤ 6) (hn : r.length ≤ 5) (hp : ∀ s ∈ r, ∀ t d, s.pit = some (t, d) → t ≤ 100 ∧ d ≤ 100) :
    (Uw09.least r = none ∧ ¬ tv (tab r) 0 < NV) ∨ (∃ b, Uw09.least r = some b ∧ tv (tab r) 0 < NV ∧ (b.cost : Int) = tv (tab r) 0) := by
  have hm : Uw09.most r ≤ 30 := Nat.le_trans (most_le h) (by omega)
  obtain ⟨_, q⟩ := tab_ok h
  obtain ⟨_, q2, q3⟩ := q 0 (by decide) (by decide)
  rcases least_is r with ⟨e, n⟩ | ⟨b, e, i1, i2⟩
  · refine .inl ⟨e, fun lt => ?_⟩
    obtain ⟨ys, c, _, h2, _⟩ := q3 lt
    rw [n ys] at h2
    cases h2
  · refine .inr ⟨b, e, ?_⟩
    obtain ⟨zs, d, z1, z2, z3, z4⟩ := within30 hm i1
    have b1 := q2 zs d z1 z2
    have b2 := fc_most hp z1 z2
    have lt : tv (tab r) 0 < NV := by
      show _ < (1000000 : Int)
      omega
    obtain ⟨ys, c, y1, y2, y3⟩ := q3 lt
    refine ⟨lt, ?_⟩
    rcases i2 ys c y2 with w | ⟨w, _⟩ <;> omega
end RL

end
section
namespace RL
/-! ### lines grown from the last point to the first -/
def fitsB (r : Uw16.Road) (k h : Nat) (l : List Nat) : Bool :=
  (match (r.point k).fixed with
    | some f => f == h
    | none => true) &&
  ((match l with
    | [] => true
    | a :: _ => decide (Uw16.apart h a ≤ r.slope)) &&
  (match l with
    | a :: c :: _ => decide (Uw16.apart (h + c) (2 * a) ≤ r.bend)
    | _ => true))
def okFrom (r : Uw16.Road) : Nat → List Nat → Prop
  | _, [] => True
  | k, h :: t => fitsB r k h t = true ∧ okFrom r (k + 1) t
def ends (r : Uw16.Road) : Nat → List (List Nat)
  | 0 => [[]]
  | j + 1 => (ends r j).flatMap fun l => ((List.range 7).filter fun h => fitsB r (r.points.length - (j + 1)) h l).map fun h => h :: l
theorem ends_mem (r : Uw16.Road) : ∀ (j : Nat) (l : List Nat), j ≤ r.points.length → (l ∈ ends r j ↔ l.length = j ∧ (∀ h ∈ l, h ≤ 6) ∧ okFrom r (r.points.length - j) l)
  | 0, l, _ => by
    show l ∈ [[]] ↔ _
    rw [List.mem_singleton]
    constructor
    · rintro rfl
      exact ⟨rfl, fun _ h => (by cases h), trivial⟩
    · rintro ⟨h, _⟩
      exact List.length_eq_zero_iff.mp h
  | j + 1, l, hj => by
    show l ∈ (ends r j).flatMap _ ↔ _
    rw [List.mem_flatMap]
    have ek : r.points.length - (j + 1) + 1 = r.points.length - j := by omega
    constructor
    · rintro ⟨t, ht, hl⟩
      obtain ⟨h, hh, rfl⟩ := List.mem_map.mp hl
      obtain ⟨h1, h2⟩ := List.mem_filter.mp hh
      obtain ⟨i1, i2, i3⟩ := (ends_mem r j t (by omega)).mp ht
      rw [List.mem_range] at h1
      refine ⟨by rw [List.length_cons, i1], fun z hz => ?_, h2, ?_⟩
      · cases hz with
        | head => omega
        | tail _ hz => exact i2 z hz
      · rw [ek]
        exact i3
    · rintro ⟨h1, h2, h3⟩
      cases l with
      | nil => cases h1
      | cons a t =>
        obtain ⟨h3, h4⟩ := h3
        rw [ek] at h4
        refine ⟨t, (ends_mem r j t (by omega)).mpr ⟨Nat.succ.inj h1, fun z hz => h2 z (List.mem_cons_of_mem _ hz), h4⟩, List.mem_map.mpr ⟨a, List.mem_filter.mpr ⟨List.mem_range.mpr (Nat.lt_succ_of_le (h2 a List.mem_cons_self)), h3⟩, rfl⟩⟩
theorem nodup_flat {α β : Type} {L : List α} {f : α → List β} (h1 : L.Nodup) (h2 : ∀ a ∈ L, (f a).Nodup) (h3 : ∀ a ∈ L, ∀ b ∈ L, a ≠ b → ∀ x ∈ f a, x ∉ f b) : (L.flatMap f).Nodup := by
  rw [List.nodup_iff_pairwise_ne, List.pairwise_flatMap]
  refine ⟨fun a ha => List.nodup_iff_pairwise_ne.mp (h2 a ha), ?_⟩
  refine (List.nodup_iff_pairwise_ne.mp h1).imp_of_mem fun {a b} ha hb ne x hx y hy e => ?_
  subst e
  exact h3 a ha b hb ne x hx hy
theorem ends_nodup (r : Uw16.Road) : ∀ j, (ends r j).Nodup
  | 0 => by
    show ([[]] : List (List Nat)).Nodup
    simp
  | j + 1 => by
    refine nodup_flat (ends_nodup r j) (fun l _ => ?_) (fun a _ b _ ne x hx hy => ?_)
    · rw [List.nodup_iff_pairwise_ne, List.pairwise_map]
      refine (List.Pairwise.filter _ (List.nodup_iff_pairwise_ne.mp List.nodup_range)).imp fun {a b} ne e => ?_
      exact ne (List.cons.inj e).1
    · obtain ⟨p, _, rfl⟩ := List.mem_map.mp hx
      obtain ⟨q, _, e⟩ := List.mem_map.mp hy
      exact ne (List.cons.inj e).2.symm
theorem rows_nodup : ∀ n, (Uw17.rows n).Nodup
  | 0 => by
    show ([[]] : List (List Nat)).Nodup
    simp
  | n + 1 => by
    refine nodup_flat List.nodup_range (fun h _ => ?_) (fun a _ b _ ne x hx hy => ?_)
    · rw [List.nodup_iff_pairwise_ne, List.pairwise_map]
      exact (List.nodup_iff_pairwise_ne.mp (rows_nodup n)).imp fun {a b} ne e => ne (List.cons.inj e).2
    · obtain ⟨p, _, rfl⟩ := List.mem_map.mp hx
      obtain ⟨q, _, e⟩ := List.mem_map.mp hy
      exact ne (List.cons.inj e).1.symm
/-! ### lexicographic order of lines -/
def nlt : List Nat → List Nat → Prop
  | [], _ => False
  | _ :: _, [] => False
  | a :: l, b :: m => a < b ∨ (a = b ∧ nlt l m)
theorem rows_lt : ∀ n, (Uw17.rows n).Pairwise nlt
  | 0 => List.pairwise_singleton _ _
  | n + 1 => by
    show ((List.range 7).flatMap fun h => (Uw17.rows n).map fun l => h :: l).Pairwise nlt
    rw [List.pairwise_flatMap]
    refine ⟨fun h _ => ?_, ?_⟩
    · rw [List.pairwise_map]
      exact (rows_lt n).imp fun {a b} q => .inr ⟨rfl, q⟩
    · refine List.Pairwise.imp (fun {a b} lt x hx y hy => ?_) (List.pairwise_lt_range (n := 7))
      obtain ⟨p, _, rfl⟩ := List.mem_map.mp hx
      obtain ⟨q, _, rfl⟩ := List.mem_map.mp hy
      exact .inl lt
theorem find_first {p : List Nat → Bool} : ∀ {L : List (List Nat)} {x : List Nat}, L.Pairwise nlt → x ∈ L → p x = true → (∀ y ∈ L, p y = true → ¬ nlt y x) → L.find? p = some x
  | [], _, _, h, _, _ => by cases h
  | a :: L, x, hp, hx, px, hm => by
    obtain ⟨h1, h2⟩ := (List.pairwise_cons.mp hp : _)
    cases e : p a with
    | true =>
      rw [List.find?_cons_of_pos e]
      cases hx with
      | head => rfl
      | tail _ hx => exact absurd (h1 x hx) (hm a List.mem_cons_self e)
    | false =>
      rw [List.find?_cons_of_neg (by rw [e]; decide)]
      cases hx with
      | head =>
        rw [e] at px
        cases px
      | tail _ hx => exact find_first h2 hx px fun y hy => hm y (List.mem_cons_of_mem _ hy)
/-! ### the right lines are the same -/
theorem okFrom_iff (r : Uw16.Road) : ∀ (k : Nat) (l : List Nat), okFrom r k l ↔ (∀ i, i < l.length → ∀ f, (r.point (k + i)).fixed = some f → f = l.getD i 0) ∧ (∀ i, i < l.length - 1 → Uw16.apart (l.getD i 0) (l.getD (i + 1) 0) ≤ r.slope) ∧
    (∀ i, i < l.length - 2 → Uw16.apart (l.getD i 0 + l.getD (i + 2) 0) (2 * l.getD (i + 1) 0) ≤ r.bend)
  | k, [] => ⟨fun _ => ⟨fun _ h => (by cases h), fun _ h => (by cases h), fun _ h => (by cases h)⟩, fun _ => trivial⟩
  | k, h :: t => by
    show fitsB r k h t = true ∧ okFrom r (k + 1) t ↔ _
    rw [okFrom_iff r (k + 1) t]
    have f1 : (match (r.point k).fixed with
        | some f => f == h
        | none => true) = true ↔ ∀ f, (r.point k).fixed = some f → f = h := by
      cases (r.point k).fixed with
      | none => exact ⟨fun _ f e => (by cases e), fun _ => rfl⟩
      | some g => exact ⟨fun q f e => by cases e; exact eq_of_beq q, fun q => by show (g == h) = true; rw [q g rfl]; exact beq_self_eq_true _⟩
    have g0 : ∀ (i : Nat), (h :: t).getD (i + 1) 0 = t.getD i 0 := fun i => rfl
    have z0 : (h :: t).getD 0 0 = h := rfl
    unfold fitsB
    rw [Bool.and_eq_true, Bool.and_eq_true, f1]
    constructor
    · rintro ⟨⟨a1, a2, a3⟩, b1, b2, b3⟩
      refine ⟨fun i hi f e => ?_, fun i hi => ?_, fun i hi => ?_⟩
      · cases i with
        | zero => exact a1 f e
        | succ i =>
          rw [g0]
          exact b1 i (Nat.lt_of_succ_lt_succ hi) f (by rw [show k + 1 + i = k + (i + 1) by omega]; exact e)
      · cases i with
        | zero =>
          cases t with
          | nil => cases hi
          | cons a t => exact of_decide_eq_true a2
        | succ i =>
          have hi' : i + 1 < t.length + 1 - 1 := hi
          exact b2 i (by omega)
      · cases i with
        | zero =>
          match t, hi with
          | a :: c :: t, _ => exact of_decide_eq_true a3
        | succ i =>
          have hi' : i + 1 < t.length + 1 - 2 := hi
          exact b3 i (by omega)
    · rintro ⟨a, b, c⟩
      refine ⟨⟨fun f e => a 0 (Nat.succ_pos _) f e, ?_, ?_⟩, fun i hi f e => ?_, fun i hi => ?_, fun i hi => ?_⟩
      · cases t with
        | nil => rfl
        | cons x t => exact decide_eq_true (b 0 (Nat.succ_pos _))
      · match t with
        | [] => rfl
        | [x] => rfl
        | x :: y :: t => exact decide_eq_true (c 0 (Nat.succ_pos _))
      · exact a (i + 1) (Nat.succ_lt_succ hi) f (by rw [show k + (i + 1) = k + 1 + i by omega]; exact e)
      · exact b (i + 1) (by show i + 1 < t.length + 1 - 1; omega)
      · exact c (i + 1) (by show i + 1 < t.length + 1 - 2; omega)
theorem okFrom_wrong (r : Uw16.Road) {l : List Nat} (h : ∀ x ∈ l, x ≤ 6) : okFrom r 0 l ↔ r.wrong l = none := by
  rw [wrong_none r h, okFrom_iff]
  simp only [bad1_false, bad2_false, bad3_false, Nat.zero_add]
theorem ends_lines (b : Uw17.Build) : (ends b.road b.road.points.length).Perm b.lines := by
  refine (List.perm_ext_iff_of_nodup (ends_nodup _ _) ?_).mpr fun l => ?_
  · unfold Uw17.Build.lines
    rw [List.nodup_iff_pairwise_ne]
    exact List.Pairwise.filter _ (List.nodup_iff_pairwise_ne.mp (rows_nodup _))
  · rw [ends_mem _ _ _ (Nat.le_refl _), lines_mem, Nat.sub_self]
    constructor
    · rintro ⟨h1, h2, h3⟩
      exact ⟨h1, h2, (okFrom_wrong _ h2).mp h3⟩
    · rintro ⟨h1, h2, h3⟩
      exact ⟨h1, h2, (okFrom_wrong _ h2).mpr h3⟩
/-! ### the earth, from a point on -/
def earthR (b : Uw17.Build) : Nat → List Nat → Uw09.Road
  | _, [] => []
  | k, h :: t => ⟨((b.road.point k).ground : Int) - (h : Int), b.pits.getD k none⟩ :: earthR b (k + 1) t
theorem earthR_eq (b : Uw17.Build) : ∀ (k : Nat) (l : List Nat), earthR b k l = (List.range l.length).map fun i => (⟨((b.road.point (k + i)).ground : Int) - (l.getD i 0 : Int), b.pits.getD (k + i) none⟩ : Uw09.Section)
  | k, [] => rfl
  | k, h :: t => by
    show _ :: earthR b (k + 1) t = (List.range (t.length + 1)).map _
    rw [earthR_eq b (k + 1) t, List.range_succ_eq_map, List.map_cons, List.map_map]
    congr 1
    refine List.map_congr_left fun i hmem => ?_
    show (⟨((b.road.point (k + 1 + i)).ground : Int) - (t.getD i 0 : Int), b.pits.getD (k + 1 + i) none⟩ : Uw09.Section) = ⟨((b.road.point (k + (i + 1))).ground : Int) - (t.getD i 0 : Int), b.pits.getD (k + (i + 1)) none⟩
    rw [show k + 1 + i = k + (i + 1) by omega]
theorem earthR_zero (b : Uw17.Build) (l : List Nat) : earthR b 0 l = b.earth l := by
  rw [earthR_eq]
  unfold Uw17.Build.earth
  refine List.map_congr_left fun i hmem => ?_
  rw [Nat.zero_add]
theorem ground_low {b : Uw17.Build} (o : Ok b) (i : Nat) : (b.road.point i).ground ≤ 6 := by
  by_cases h : i < b.road.points.length
  · exact (o.pt _ (point_mem h)).1
  · unfold Uw16.Road.point
    rw [List.getD_eq_getElem?_getD, List.getElem?_eq_none (by omega)]
    exact Nat.zero_le _
theorem earthR_over {b : Uw17.Build} (o : Ok b) : ∀ {k : Nat} {l : List Nat}, (∀ h ∈ l, h ≤ 6) → ∀ s ∈ earthR b k l, s.over.natAbs ≤ 6
  | _, [], _, _, h => by cases h
  | k, a :: t, hl, s, hs => by
    cases hs with
    | head =>
      have h1 := ground_low o k
      have h2 := hl a List.mem_cons_self
      show (((b.road.point k).ground : Int) - (a : Int)).natAbs ≤ 6
      omega
    | tail _ hs => exact earthR_over o (fun h hh => hl h (List.mem_cons_of_mem _ hh)) s hs
theorem pit_low {b : Uw17.Build} (o : Ok b) {k t d : Nat} (h : b.pits.getD k none = some (t, d)) : t ≤ 100 ∧ d ≤ 100 := by
  rw [List.getD_eq_getElem?_getD] at h
  cases e : b.pits[k]? with
  | none =>
    rw [e] at h
    cases h
  | some x =>
    rw [e] at h
    have h' : x = some (t, d) := h
    subst h'
    exact o.pr t d (List.mem_of_getElem? e)
theorem earthR_pits {b : Uw17.Build} (o : Ok b) : ∀ {k : Nat} {l : List Nat}, ∀ s ∈ earthR b k l, ∀ t d, s.pit = some (t, d) → t ≤ 100 ∧ d ≤ 100
  | _, [], _, h => by cases h
  | k, a :: l, s, hs => by
    cases hs with
    | head => exact fun t d e => pit_low o e
    | tail _ hs => exact earthR_pits o s hs
theorem earthR_len (b : Uw17.Build) : ∀ (k : Nat) (l : List Nat), (earthR b k l).length = l.length
  | _, [] => rfl
  | k, _ :: t => congrArg (· + 1) (earthR_len b (k + 1) t)
/-- a line's cost with its earth, by the table -/
def v0 (b : Uw17.Build) (l : List Nat) : Int := tv (tab (earthR b 0 l)) 0
theorem cost_tab {b : Uw17.Build} (o : Ok b) {l : List Nat} (hl : l ∈ b.lines) : (b.cost l = none ∧ ¬ v0 b l < NV) ∨ (∃ c, b.cost l = some c ∧ v0 b l < NV ∧ (c : Int) = (b.road.cost l : Int) + v0 b l) := by
  obtain ⟨h1, h2, _⟩ := (lines_mem b l).mp hl
  have hn : (earthR b 0 l).length ≤ 5 := by rw [earthR_len, h1]; exact o.few
  unfold Uw17.Build.cost
  rw [← earthR_zero]
  rcases least_tab (earthR_over o h2) hn (earthR_pits o) with ⟨e, n⟩ | ⟨x, e, lt, c⟩
  · left
    rw [e]
    exact ⟨rfl, n⟩
  · right
    rw [e]
    exact ⟨_, rfl, lt, by rw [Int.natCast_add, c]; rfl⟩
/-- what is built: each right line that can be, with what it costs -/
def built (b : Uw17.Build) : List (Int × List Nat) := ((ends b.road b.road.points.length).filter fun l => decide (v0 b l < NV)).map fun l => ((b.road.cost l : Int) + v0 b l, l)
theorem built_mem {b : Uw17.Build} (o : Ok b) {x : Int × List Nat} : x ∈ built b ↔ x.2 ∈ b.lines ∧ ∃ c : Nat, b.cost x.2 = some c ∧ x.1 = c := by
  unfold built
  constructor
  · intro h
    obtain ⟨l, hl, rfl⟩ := List.mem_map.mp h
    obtain ⟨h1, h2⟩ := List.mem_filter.mp hl
    have h3 := (ends_lines b).mem_iff.mp h1
    refine ⟨h3, ?_⟩
    rcases cost_tab o h3 with ⟨_, n⟩ | ⟨c, e, _, ec⟩
    · exact absurd (of_decide_eq_true h2) n
    · exact ⟨c, e, ec.symm⟩
  · rintro ⟨h1, c, h2, h3⟩
    obtain ⟨x1, x2⟩ := x
    have h3' : x1 = c := h3
    subst h3'
    rcases cost_tab o h1 with ⟨e, n⟩ | ⟨c', e, lt, ec⟩
    · rw [h2] at e
      cases e
    · rw [h2] at e
      cases e
      exact List.mem_map.mpr ⟨x2, List.mem_filter.mpr ⟨(ends_lines b).mem_iff.mpr h1, decide_eq_true lt⟩, by rw [← ec]⟩
theorem best_none {b : Uw17.Build} (o : Ok b) (h : built b = []) : b.best = none := by
  refine (best_is b).uniq (.inl ⟨rfl, fun l hl => ?_⟩)
  cases e : b.cost l with
  | none => rfl
  | some c =>
    have : ((c : Int), l) ∈ built b := (built_mem o).mpr ⟨hl, c, e, rfl⟩
    rw [h] at this
    cases this
/-- how many of what's built cost so much -/
theorem built_count {b : Uw17.Build} (o : Ok b) (c : Nat) : ((built b).filter fun x => decide (x.1 = (c : Int))).length = cnt b.cost c b.lines := by
  unfold built cnt
  rw [List.filter_map, List.length_map, List.filter_filter, ((ends_lines b).filter _).length_eq]
  congr 1
  refine List.filter_congr fun l hl => ?_
  show (decide ((b.road.cost l : Int) + v0 b l = (c : Int)) && decide (v0 b l < NV)) = (b.cost l == some c)
  rcases cost_tab o hl with ⟨e, n⟩ | ⟨c', e, lt, ec⟩
  · rw [e, decide_eq_false n, Bool.and_false]
    rfl
  · rw [e, decide_eq_true lt, Bool.and_true, ← ec]
    by_cases q : c' = c
    · subst q
      rw [decide_eq_true rfl, beq_self_eq_true]
    · rw [decide_eq_false (show ¬ (c' : Int) = (c : Int) by omega)]
      symm
      exact beq_eq_false_iff_ne.mpr (fun z => q (Option.some.inj z))
theorem best_some {b : Uw17.Build} (o : Ok b) {c : Int} {l : List Nat} (h : (c, l) ∈ built b) (hm : ∀ x ∈ built b, c < x.1 ∨ (c = x.1 ∧ ¬ nlt x.2 l)) :
    ∃ n : Nat, c = n ∧ l ∈ b.lines ∧ v0 b l < NV ∧ b.best = some ⟨n, ((built b).filter fun x => decide (x.1 = c)).length, l⟩ := by
  obtain ⟨h1, n, h2, h3⟩ := (built_mem o).mp h
  have h3' : c = n := h3
  subst h3'
  have lt : v0 b l < NV := by
    rcases cost_tab o h1 with ⟨e, _⟩ | ⟨_, _, lt, _⟩
    · rw [e] at h2
      cases h2
    · exact lt
  refine ⟨n, rfl, h1, lt, (best_is b).uniq (.inr ⟨_, rfl, h2, h1, fun k hk d hd => ?_, built_count o n, ?_⟩)⟩
  · have := hm ((d : Int), k) ((built_mem o).mpr ⟨hk, d, hd, rfl⟩)
    show n ≤ d
    rcases this with q | ⟨q, _⟩
    · have q' : (n : Int) < (d : Int) := q
      omega
    · have q' : (n : Int) = (d : Int) := q
      omega
  · show b.lines.find? (fun l => b.cost l == some n) = some l
    refine find_first ?_ h1 (by rw [h2]; exact beq_self_eq_true _) fun y hy py q => ?_
    · unfold Uw17.Build.lines
      exact List.Pairwise.filter _ (rows_lt _)
    · have e := eq_of_beq py
      have := hm ((n : Int), y) ((built_mem o).mpr ⟨hy, n, e, rfl⟩)
      rcases this with z | ⟨_, z⟩
      · have z' : (n : Int) < (n : Int) := z
        omega
      · exact z q
/-- the way of a line -/
theorem flows_way {b : Uw17.Build} (o : Ok b) {l : List Nat} (hl : l ∈ b.lines) (lt : v0 b l < NV) {ys : List Int} (w : WayIs (earthR b 0 l) 0 ys) : b.flows l = ys := by
  obtain ⟨h1, h2, _⟩ := (lines_mem b l).mp hl
  unfold Uw17.Build.flows
  rw [← earthR_zero]
  by_cases e : earthR b 0 l = []
  · rw [e] at w ⊢
    cases w
    rfl
  · have hov := earthR_over o (k := 0) h2
    have hn : (earthR b 0 l).length ≤ 5 := by rw [earthR_len, h1]; exact o.few
    have hm : Uw09.most (earthR b 0 l) ≤ 30 := Nat.le_trans (most_le hov) (by omega)
    obtain ⟨c, _, g2, g3⟩ := way_best e hov (by decide) lt w
    obtain ⟨x, e1, _, e3⟩ := (isLeast_of hm g2 g3).spec
    rw [e1]
    show x.flows.dropLast = ys
    rw [e3, List.dropLast_concat]
end RL

end
section
set_option Elab.async false
set_option linter.all false
set_option maxRecDepth 100000
set_option maxHeartbeats 2000000
namespace RL
open PySem PySem.Spec PyProof.Rows L2
/-! ### a list taken apart -/
def gLst (K : PySem.W.Frag) (n : Nat) (t : TGs) : TG := fun v σ H Q => ∃ a xs, v = .ref a ∧ SqL K H a xs ∧ xs.length = n ∧ t xs σ H Q
theorem pg_lst {X : Cx} {es : List Expr} {k : Nat} {pos : Pos} {t : TGs} {n : Nat} (hc : X.calm = true) (h : PGs X es t) (hn : (assignEach es X.env).length = n := by rfl) (hst : (assignEach es X.env).findIdx? (·.1) = none := by rfl) : PG X (.Tuple es k pos) (gLst X.K n t) := by
  intro pins s σ H v u Q I r hw
  obtain ⟨a, xs, rfl, hq, hl, hw⟩ := hw
  cases r
  obtain ⟨its, rv, ht, hz⟩ := I.list hq
  rw [PyProof.Rows.assign_Tuple]
  refine wpAny_bind (wpAny_standAt ?_)
  unfold unpack
  have e : (assignEach es X.env).length = its.toArray.size := by rw [hn, ← hl, rv.length, List.size_toArray]
  rw [e, hst]
  refine wpAny_bind (wpAny_holding (PySem.W.kun_itemsOf (I.ok.hd hc) ht.isList fun h' hx => ?_))
  have I1 : Inv X pins σ H { s with heap := h' } := I.kept (t' := s.toks) fun b o e => hx b o (Nat.ne_of_lt (Heap.lt_size e)) e
  exact h pins _ σ H xs _ Q I1 (by simpa using rv) hw
/-! ### the same rules, the text's part named: for a comprehension's block -/
theorem pg_tupK {X : Cx} {K : PySem.W.Frag} {es : List Expr} {k : Nat} {pos : Pos} {t : TGs} {n : Nat} (hK : X.K = K) (hc : X.calm = true) (h : PGs X es t) (hn : (assignEach es X.env).length = n := by rfl) (hst : (assignEach es X.env).findIdx? (·.1) = none := by rfl) : PG X (.Tuple es k pos) (gTup K n t) := by
  subst hK
  exact pg_tup hc h hn hst
theorem pg_lstK {X : Cx} {K : PySem.W.Frag} {es : List Expr} {k : Nat} {pos : Pos} {t : TGs} {n : Nat} (hK : X.K = K) (hc : X.calm = true) (h : PGs X es t) (hn : (assignEach es X.env).length = n := by rfl) (hst : (assignEach es X.env).findIdx? (·.1) = none := by rfl) : PG X (.Tuple es k pos) (gLst K n t) := by
  subst hK
  exact pg_lst hc h hn hst
theorem pe_fldK {X : Cx} {K : PySem.W.Frag} {a : Expr} {ta : TE} {f : Str} {pos : Pos} (hK : X.K = K) (ha : PE X a ta) (hb : attributeBase a f X.env (eval a X.env) = eval a X.env) : PE X (.Attribute a f pos) (tFld K ta f) := by
  subst hK
  exact pe_fld ha hb
theorem sl_listK {X : Cx} {K : PySem.W.Frag} (hK : X.K = K) : SlR X (rSlL K) := by
  subst hK
  exact sl_list
/-! ### xs[i], for xs[i] += e -/
theorem get_list {X : Cx} : PGet X (rIxL X.K) := by
  intro pins s σ H o i ov iv Q I ro ri h
  obtain ⟨p, xs, k, z, rfl, rfl, hq, he, q⟩ := h
  cases ro
  obtain ⟨t, rfl⟩ := ri
  obtain ⟨its, r, pl, hz⟩ := I.list hq
  obtain ⟨j, h1, h2, h3, h4, h5⟩ := atI_get he
  obtain ⟨w, ew, rw'⟩ := r.get h2
  have hl := r.length
  have hn := line63
  have fin : EP X pins σ Q w s := ⟨z, H, I, rw', q⟩
  by_cases h0 : 0 ≤ k
  · have hj : k.toNat = j := by
      rw [seqIndex_of h0 h5] at h1
      exact Option.some.inj h1
    exact wpAny_getItem_list pl.isList h0 (by omega) (by rw [hj]; simpa using ew) fin
  · have hj : (k + (its.toArray.size : Int)).toNat = j := by
      rw [seqIndex_neg (by omega) h4] at h1
      rw [List.size_toArray, ← hl]
      exact Option.some.inj h1
    exact wpAny_getItem_list_neg pl.isList (by omega) (by rw [List.size_toArray] <;> omega) (by omega) (by rw [hj]; simpa using ew) fin
/-! ### xs.insert(0, e) -/
def rIns0 : V → List V → Hp → VK → Prop := fun x vs H Q => ∃ l xs y, x = .ref l ∧ vs = [.int 0, y] ∧ H l = some (.lst xs) ∧ xs.length < sizeLine ∧ Q .non (upd H l (.lst (y :: xs)))
theorem mt_insert {X : Cx} : MtM X "list.insert" rIns0 := by
  intro pins s σ H x vs v us Q I rx rv h
  obtain ⟨l, xs, y, rfl, rfl, hH, hz, q⟩ := h
  cases rx
  obtain ⟨u, w', rfl, ru, rw'⟩ := rv.two
  obtain ⟨tk, rfl⟩ := ru
  obtain ⟨z, its, n, r, hl, e⟩ := I.lstM hH
  refine call_meets F.slot_list_insert ⟨_, e, rfl⟩ F.entry_list_insert (F.args_list_insert_3 _ _ _) (AutoSeq1.list_insert_list_int_val_1 l its.toArray n 0 tk w' (by decide) (by rw [List.size_toArray]; omega)) ⟨e, ?_⟩
  refine ⟨.non, _, I.lset (its' := w' :: its) hH e ?_ (.cons rw' r) (by rw [List.length_cons]; omega), rfl, q⟩
  simp
/-! ### list(reversed(xs)) -/
def tRevL (K : PySem.W.Frag) (te : TE) : TE := fun σ H Q => te σ H fun x H1 => ∃ a xs, x = .ref a ∧ SqL K H1 a xs ∧ ∀ l, H1 l = none → Q (.ref l) (upd H1 l (.lst xs.reverse))
theorem pe_listRev {X : Cx} {e : Expr} {te : TE} {p p' pos pos' : Pos} (hc : X.calm = true) (hg : Gl X "list") (hm : X.mg "list" = none) (hg' : Gl X "reversed") (hm' : X.mg "reversed" = none) (he : PE X e te)
    (hs : starEach [.Call (.Name "reversed" p') [e] [] pos'] X.env = [(false, eval (.Call (.Name "reversed" p') [e] [] pos') X.env)] := by rfl) (hs' : starEach [e] X.env = [(false, eval e X.env)] := by rfl) :
    PE X (.Call (.Name "list" p) [.Call (.Name "reversed" p') [e] [] pos'] [] pos) (tRevL X.K te) := by
  intro pins s σ H Q I h
  refine wpAny_Call_Name_kw (ld_blt I hg hm PyProof.Rows.boot_list ?_)
  refine PyProof.Rows.callWith_type1 ?_ hs rfl
  rw [hs]
  show wpAny _ _ (spliced ((false, eval (.Call (.Name "reversed" p') [e] [] pos') X.env) :: [])) _ _ s
  refine Calls.spliced_cons ?_
  refine wpAny_Call_Name_kw (ld_blt I hg' hm' boot_reversed5 (PyProof.Rows.callWith_type1 ?_ hs' rfl))
  rw [hs']
  show wpAny _ _ (spliced ((false, eval e X.env) :: [])) _ _ s
  refine Calls.spliced_cons (thn (he pins s σ H _ I h) fun u s1 ⟨x, H1, I1, r1, q1⟩ => Calls.spliced_nil ?_)
  obtain ⟨a, xs, rfl, hq, q⟩ := q1
  cases r1
  obtain ⟨its, rv, pl, hz⟩ := I1.list hq
  have hlen := rv.length
  have la : a < s1.heap.objs.size := pl.lt
  refine call_reversed_list pl.isList (Calls.spliced_nil ?_)
  have hn2 : its.toArray.size ≤ sizeLine := by rw [List.size_toArray, ← hlen]; exact hz
  have hL : (s1.heap.push (revObj a ((its.toArray.size : Int) - 1))).IsList a its.toArray := pl.isList.push _
  have hI : (s1.heap.push (revObj a ((its.toArray.size : Int) - 1))).IsRevIter s1.heap.objs.size a ((its.toArray.size : Int) - 1 - ((0 : Nat) : Int)) := by
    rw [show (its.toArray.size : Int) - 1 - ((0 : Nat) : Int) = (its.toArray.size : Int) - 1 by omega]
    exact ⟨_, Heap.get?_push_size _ rfl, rfl, rfl⟩
  refine call_list_rev (Walks.listRev (prog := X.prog) (w := X.w) (A := X.A.in1.in1) (I1.ok.hd hc) s1.heap.objs.size a (Nat.ne_of_lt la) its.toArray).toS (fun i s st => let ⟨o, ho, hcc, _⟩ := st.2.1; ⟨o, ho, hcc⟩) ⟨Nat.zero_le _, hI, hL⟩ ?_ (by simp) ?_ hn2
  · intro b hb
    show b < (s1.heap.push _).objs.size
    rw [Heap.size_push]
    simp only [List.mem_cons, or_false, List.not_mem_nil] at hb
    rcases hb with rfl | rfl
    · exact Nat.lt_succ_self _
    · exact Nat.lt_succ_of_lt la
  · intro s' acc' c' hm hS' hacc
    have ea : acc' = its.reverse.toArray := by
      apply Array.toList_inj.mp
      apply List.ext_getElem?
      intro j
      obtain ⟨h1, h2⟩ := hacc
      by_cases hj : j < its.length
      · have hj' : j < acc'.size := by rw [h1, List.size_toArray]; exact hj
        have q := h2 j acc'[j] (Array.getElem?_eq_getElem hj')
        rw [List.size_toArray] at q
        have q' : its[its.length - 1 - j]? = some acc'[j] := by simpa using q
        rw [List.toList_toArray, List.getElem?_reverse hj, q']
        simp [hj']
      · have hj' : acc'.size ≤ j := by rw [h1, List.size_toArray]; omega
        rw [List.getElem?_eq_none (by simpa using hj'), List.getElem?_eq_none (by simp; omega)]
    subst ea
    have kp : ∀ b o, s1.heap.get? b = some o → s'.heap.get? b = some o := fun b o e => by
      have lt := Heap.lt_size e
      refine hm.heap b o (fun hb => ?_) (Heap.get?_push_of_some _ (Heap.get?_push_of_some _ e))
      simp only [List.mem_cons, List.not_mem_nil, or_false, Heap.size_push] at hb
      rcases hb with rfl | rfl
      · exact absurd lt (Nat.not_lt_of_le (Nat.le_succ _))
      · exact absurd lt (Nat.lt_irrefl _)
    have es : s' = { s1 with heap := s'.heap, toks := s'.toks } := by
      have g1 : s'.gens = s1.gens := hm.gens
      have g2 : s'.drawn = s1.drawn := hm.drawn
      have g3 : s'.os = s1.os := hm.os
      cases s'
      cases s1
      simp only at g1 g2 g3
      subst g1 g2 g3
      rfl
    rw [es]
    have hsz : (s1.heap.push (revObj a ((its.toArray.size : Int) - 1))).objs.size = s1.heap.objs.size + 1 := Heap.size_push ..
    have hle : s1.heap.objs.size ≤ s1.heap.objs.size + 1 := Nat.le_succ _
    have hS2 : s'.heap.get? (s1.heap.objs.size + 1) = some { cls := .type "list", dict := none, data := .seq its.reverse.toArray c', slots := #[] } := by
      have := hS'
      simp only [Heap.size_push] at this
      exact this
    refine ⟨.ref (s1.heap.objs.size + 1), _, I1.laid (t' := s'.toks) kp hle (show ObjOk X.prog X.w _ s'.heap _ (.lst xs.reverse) from ⟨by rw [List.length_reverse]; exact hz, its.reverse, c', rv.reverse, hS2⟩), ?_, q _ (I1.hok.fresh hle)⟩
    show Value.ref _ = Value.ref _
    simp only [Heap.size_push]
/-! ### the turns of any loop -/
theorem for_it {J : It} {n : Nat} {g : TG} {tb : TS} {D : Ends} {σ : L2.St} {H : Hp} (Pv : Nat → L2.St → Hp → Prop) (h0 : Pv 0 σ H) (hgo : ∀ i σ H, i < n → Pv i σ H → J.go i H) (hst : ∀ σ H, Pv n σ H → J.stop n H)
    (hs : ∀ i σ H x H', i < n → Pv i σ H → J.yld i H x H' → g x σ H' fun σ2 H2 => tb { D with nx := Pv (i + 1), ct := Pv (i + 1), bk := D.nx } σ2 H2) (hd : ∀ σ H, Pv n σ H → D.nx σ H) :
    ∃ W : Nat → Nat → L2.St → Hp → Prop, (∃ m, W 0 m σ H) ∧ ∀ i m σ H, W i m σ H →
      (J.stop i H ∧ D.nx σ H) ∨ (J.go i H ∧ ∃ N : L2.St → Hp → Prop, (∀ σ' H', N σ' H' → ∃ m', m' < m ∧ W (i + 1) m' σ' H') ∧ ∀ x H', J.yld i H x H' → g x σ H' fun σ2 H2 => tb { D with nx := N, ct := N, bk := D.nx } σ2 H2) := by
  refine ⟨fun i m σ H => m = n - i ∧ i ≤ n ∧ Pv i σ H, ⟨n, by simp, Nat.zero_le _, h0⟩, ?_⟩
  rintro i m σ H ⟨rfl, hi, p⟩
  by_cases lt : i < n
  · exact .inr ⟨hgo i σ H lt p, Pv (i + 1), fun σ' H' p' => ⟨n - (i + 1), by omega, rfl, lt, p'⟩, fun x H' y => hs i σ H x H' lt p y⟩
  · have e : i = n := by omega
    subst e
    exact .inl ⟨hst σ H p, hd σ H p⟩
theorem lc_it {J : It} {n : Nat} {g : TG} {tt : TT} {te : TE} {vs : List Nat} {σ : L2.St} {H1 : Hp} {D : Addr} {Qd : Hp → Prop} (Pv : Nat → Hp → Prop) (h0 : Pv 0 (upd H1 D (.lst []))) (hgo : ∀ i H, i < n → Pv i H → J.go i H) (hst : ∀ H, Pv n H → J.stop n H)
    (hs : ∀ i H x H', i < n → Pv i H → J.yld i H x H' → g x (wipe σ vs) H' fun σ2 H2 => wipe σ2 vs = wipe σ vs ∧ tt σ2 H2 fun b H3 =>
      if b = true then te σ2 H3 fun y H4 => ∃ acc, H4 D = some (.lst acc) ∧ acc.length < sizeLine ∧ Pv (i + 1) (upd H4 D (.lst (acc ++ [y]))) else Pv (i + 1) H3) (hd : ∀ H, Pv n H → Qd H) :
    ∃ W : Nat → Nat → Hp → Prop, (∃ m, W 0 m (upd H1 D (.lst []))) ∧ ∀ i m H, W i m H →
      (J.stop i H ∧ Qd H) ∨ (J.go i H ∧ ∃ Nx : Hp → Prop, (∀ H', Nx H' → ∃ m', m' < m ∧ W (i + 1) m' H') ∧ ∀ x H', J.yld i H x H' → g x (wipe σ vs) H' fun σ2 H2 => wipe σ2 vs = wipe σ vs ∧ tt σ2 H2 fun b H3 =>
        if b = true then te σ2 H3 fun y H4 => ∃ acc, H4 D = some (.lst acc) ∧ acc.length < sizeLine ∧ Nx (upd H4 D (.lst (acc ++ [y]))) else Nx H3) := by
  refine ⟨fun i m H => m = n - i ∧ i ≤ n ∧ Pv i H, ⟨n, by simp, Nat.zero_le _, h0⟩, ?_⟩
  rintro i m H ⟨rfl, hi, p⟩
  by_cases lt : i < n
  · exact .inr ⟨hgo i H lt p, Pv (i + 1), fun H' p' => ⟨n - (i + 1), by omega, rfl, lt, p'⟩, fun x H' y => hs i H x H' lt p y⟩
  · have e : i = n := by omega
    subst e
    exact .inl ⟨hst H p, hd H p⟩
theorem _root_.L2.Same.new {H : Hp} {a : Addr} {o : HO} (h : H a = none) : Same H (upd H a o) := fun b u e => by
  by_cases q : b = a
  · subst q
    rw [h] at e
    cases e
  · rw [upd_ne q]
    exact e
theorem _root_.L2.Same.tup {K : PySem.W.Frag} {H H' : Hp} {a : Addr} {xs : List V} (e : Same H H') (h : SqT K H a xs) : SqT K H' a xs := by
  rcases h with (h | ⟨o, h⟩) | h
  · exact .inl (.inl (e _ _ h))
  · exact .inl (.inr ⟨o, e _ _ h⟩)
  · exact .inr h
/-- [e for .. in ..]: each turn gives the value that is due, and leaves all as it was -/
theorem lc_map {J : It} {n : Nat} {g : TG} {te : TE} {vs : List Nat} {σ : L2.St} {H1 : Hp} {D : Addr} {Qd : Hp → Prop} (ys : List V) (hn : ys.length = n) (hsz : n ≤ 1000) (hD : H1 D = none)
    (hgo : ∀ i H, i < n → Same H1 H → J.go i H) (hst : ∀ H, Same H1 H → J.stop n H) (hyl : ∀ i H x H', J.yld i H x H' → Same H H')
    (hs : ∀ i H x H', i < n → Same H1 H → J.yld i H x H' → Same H1 H' → ∀ N : VK, (∀ y H4, ys[i]? = some y → Same H' H4 → N y H4) → g x (wipe σ vs) H' fun σ2 H2 => wipe σ2 vs = wipe σ vs ∧ te σ2 H2 N)
    (hd : ∀ H, Same H1 H → H D = some (.lst ys) → Qd H) :
    ∃ W : Nat → Nat → Hp → Prop, (∃ m, W 0 m (upd H1 D (.lst []))) ∧ ∀ i m H, W i m H →
      (J.stop i H ∧ Qd H) ∨ (J.go i H ∧ ∃ Nx : Hp → Prop, (∀ H', Nx H' → ∃ m', m' < m ∧ W (i + 1) m' H') ∧ ∀ x H', J.yld i H x H' → g x (wipe σ vs) H' fun σ2 H2 => wipe σ2 vs = wipe σ vs ∧ tYes σ2 H2 fun b H3 =>
        if b = true then te σ2 H3 fun y H4 => ∃ acc, H4 D = some (.lst acc) ∧ acc.length < sizeLine ∧ Nx (upd H4 D (.lst (acc ++ [y]))) else Nx H3) := by
  refine lc_it (n := n) (fun i H => Same H1 H ∧ H D = some (.lst (ys.take i))) ⟨Same.new hD, by rw [upd_same]; rfl⟩ (fun i H lt p => hgo i H lt p.1) (fun H p => hst H p.1) ?_ (fun H p => hd H p.1 ?_)
  · rintro i H x H' lt ⟨p1, p2⟩ y
    have sy := hyl i H x H' y
    refine hs i H x H' lt p1 y (p1.trans sy) (fun v H4 => ∃ acc, H4 D = some (.lst acc) ∧ acc.length < sizeLine ∧ Same H1 (upd H4 D (.lst (acc ++ [v]))) ∧ (upd H4 D (.lst (acc ++ [v]))) D = some (.lst (ys.take (i + 1)))) fun v H4 hv s4 => ?_
    have h4 : H4 D = some (.lst (ys.take i)) := s4 _ _ (sy _ _ p2)
    refine ⟨ys.take i, h4, ?_, ?_, ?_⟩
    · rw [List.length_take]
      have : (1000 : Nat) < sizeLine := by decide
      omega
    · intro b o e
      have nb : b ≠ D := fun q => by rw [q, hD] at e; cases e
      rw [upd_ne nb]
      exact s4 _ _ (sy _ _ (p1 b o e))
    · rw [upd_same]
      congr 2
      rw [List.take_add_one, hv]
      rfl
  · have := p.2
    rw [← hn, List.take_length] at this
    exact this
/-! ### zip(list, tuple) -/
def ItzT (K : PySem.W.Frag) (a b : Addr) : It :=
  ⟨fun i H => ∃ (xs ys : List V) (x y : V), SqL K H a xs ∧ SqT K H b ys ∧ xs[i]? = some x ∧ ys[i]? = some y,
    fun i H v H' => ∃ T x y, v = .ref T ∧ H T = none ∧ H' = upd H T (.tup [x, y]) ∧ (∀ xs, SqL K H a xs → xs[i]? = some x) ∧ ∀ ys, SqT K H b ys → ys[i]? = some y,
    fun i H => ∃ xs ys : List V, SqL K H a xs ∧ SqT K H b ys ∧ (xs.length ≤ i ∨ ys.length ≤ i)⟩
theorem turn_zipT {P : Program} {w : World} {K : PySem.W.Frag} {elts : List Expr} {kk : Nat} {tpos : Pos} {a b z TI TO i1 i2 : Addr} (D : ZipApart z TI TO i1 i2 a b) :
    Turn P w K (.Tuple elts kk tpos) (ItzT K a b) [z, TI, TO, i1, i2] z (fun i h => IsZip h z TI TO .none ∧ IsPair h TI (.ref i1) (.ref i2) ∧ (∃ x y, IsPair h TO x y) ∧ h.IsListIter i1 a i ∧ h.IsTupleIter i2 b i) where
  mem := by simp
  obj := fun i h st c hc => by
    obtain ⟨hz, hTI, ⟨x, y, hTO⟩, ⟨o1, e1, _, d1⟩, ⟨o2, e2, _, d2⟩⟩ := st
    have e' : c = z ∨ c = TI ∨ c = TO ∨ c = i1 ∨ c = i2 := by simpa using hc
    rcases e' with q | q | q | q | q
    · rw [q]; exact ⟨_, hz, fun v q => nomatch q⟩
    · rw [q]; exact ⟨_, hTI, fun v q => nomatch q⟩
    · rw [q]; exact ⟨_, hTO, fun v q => nomatch q⟩
    · rw [q]; exact ⟨o1, e1, fun v q => by rw [d1] at q; cases q⟩
    · rw [q]; exact ⟨o2, e2, fun v q => by rw [d2] at q; cases q⟩
  keep := fun i h h' st k => by
    obtain ⟨hz, hTI, ⟨x, y, hTO⟩, h1, h2⟩ := st
    exact ⟨k z (by simp) _ hz, k TI (by simp) _ hTI, ⟨x, y, k TO (by simp) _ hTO⟩, h1.at fun o q => k i1 (by simp) o q, tupIter_at h2 fun o q => k i2 (by simp) o q⟩
  item := by
    intro X hP hw hK hc i pins s σ H E I hf st hg
    subst hP hw hK
    obtain ⟨hz, hTI, ⟨x0, y0, hTO⟩, h1, h2⟩ := st
    obtain ⟨xs, ys, x, y, hqx, hqy, hx, hy⟩ := hg
    obtain ⟨its, rv, p, _⟩ := I.list hqx
    obtain ⟨its2, rv2, p2, _⟩ := I.tuple hqy
    obtain ⟨u, hu, ru⟩ := rv.get hx
    obtain ⟨u2, hu2, ru2⟩ := rv2.get hy
    have hzl : z < s.heap.objs.size := Heap.lt_size hz
    refine zipT_item D hz hTI hTO h1 h2 p.isList p2 (x := u) (y := u2) (by simpa using hu) (by simpa using hu2) fun h' z' TO' h1' h2' hT hsz hk => ?_
    refine ⟨_, rfl, wpAny_letOwnedTupleGo_zip (s := { s with heap := h' }) z' fun h'' z'' sb => ?_⟩
    have hT2 : h''.get? s.heap.objs.size = some { cls := .type "tuple", data := .seq #[u, u2] } := (sb.2 _ (Nat.ne_of_gt hzl)).trans hT
    have new : ObjOk X.prog X.w (upd H s.heap.objs.size (.tup [x, y])) h'' s.heap.objs.size (.tup [x, y]) :=
      ⟨by show 2 ≤ sizeLine; decide, [u, u2], .cons ru (.cons ru2 .nil), ⟨_, hT2, rfl, _, rfl⟩⟩
    have I1 : Inv X pins σ (upd H s.heap.objs.size (.tup [x, y])) { s with heap := h'' } :=
      I.turnedNew (t' := s.toks) (ch := [z, TI, TO, i1, i2]) (fun c o hb q => (sb.2 c (fun q' => hb (by simp [q']))).trans (hk c o (fun q' => hb (by simp [q'])) (fun q' => hb (by simp [q'])) (fun q' => hb (by simp [q'])) (fun q' => hb (by simp [q'])) q)) hf (Nat.le_refl _) new
    refine ⟨.ref s.heap.objs.size, _, I1, rfl, ⟨_, x, y, rfl, I.hok.fresh (Nat.le_refl _), rfl, fun l hl => by rw [I.list_inj hl hqx]; exact hx, fun l hl => by rw [I.tuple_inj hl hqy]; exact hy⟩, ⟨z'', ?_, ⟨u, u2, ?_⟩, ?_, ?_⟩, fun c hcm => ?_⟩
    · exact (sb.2 _ D.TIz).trans (hk _ _ D.TIz D.TITO D.TIi1 D.TIi2 hTI)
    · exact (sb.2 _ D.TOz).trans TO'
    · exact h1'.at fun o q => (sb.2 _ D.i1z).trans q
    · exact tupIter_at h2' fun o q => (sb.2 _ D.i2z).trans q
    · have hlt : c < s.heap.objs.size := by
        have e' : c = z ∨ c = TI ∨ c = TO ∨ c = i1 ∨ c = i2 := by simpa using hcm
        rcases e' with q | q | q | q | q
        · rw [q]; exact hzl
        · rw [q]; exact Heap.lt_size hTI
        · rw [q]; exact Heap.lt_size hTO
        · rw [q]; obtain ⟨_, e1, _⟩ := h1; exact Heap.lt_size e1
        · rw [q]; obtain ⟨_, e2, _⟩ := h2; exact Heap.lt_size e2
      rw [upd_ne (Nat.ne_of_lt hlt)]
      exact (hf c hcm).1
  done := by
    intro X hP hw hK hc i pins s σ H E I hf st hg
    subst hP hw hK
    obtain ⟨hz, hTI, ⟨x0, y0, hTO⟩, h1, h2⟩ := st
    obtain ⟨xs, ys, hqx, hqy, hend⟩ := hg
    obtain ⟨its, rv, p, _⟩ := I.list hqx
    obtain ⟨its2, rv2, p2, _⟩ := I.tuple hqy
    have l1 := rv.length
    have l2 := rv2.length
    have he : its.toArray[i]? = none ∨ its2.toArray[i]? = none := by
      rcases hend with q | q
      · exact .inl (by simp; omega)
      · exact .inr (by simp; omega)
    exact zipT_end (I.ok.hd hc) D hz hTI hTO h1 h2 p.isList p2 he fun h' hk => ⟨rfl, I.turnedL (t' := s.toks) (ch := [z, TI, TO, i1, i2]) (fun c o hb q =>
      hk c o (fun q' => hb (by simp [q'])) (fun q' => hb (by simp [q'])) (fun q' => hb (by simp [q'])) (fun q' => hb (by simp [q'])) q) hf⟩
  self := fun A i s Q E st h => wpAny_pyIter_zip st.1 h
/-- zip of a list and a list or a tuple -/
def iZipB (K : PySem.W.Frag) (ta : TA) : TI := fun σ H R => ta σ H fun vs H1 => ∃ a b xs ys, vs = [.ref a, .ref b] ∧ SqL K H1 a xs ∧ ((SqL K H1 b ys ∧ R (Itz K a b) H1) ∨ (SqT K H1 b ys ∧ R (ItzT K a b) H1))
theorem pi_zipB {X : Cx} {e e2 : Expr} {ta : TA} {p pos tpos : Pos} {elts : List Expr} {kk : Nat} (hg : Gl X "zip") (hm : X.mg "zip" = none) (ha : PA X [e, e2] ta)
    (hs : starEach [e, e2] X.env = (false, eval e X.env) :: starEach [e2] X.env := by rfl) (hpl : (backTo pos (starEach [e2] X.env)).any (·.1) = false := by rfl) :
    PI X (.Tuple elts kk tpos) (.Call (.Name "zip" p) [e, e2] [] pos) (iZipB X.K ta) := by
  intro pins s σ H R I h
  refine Call_ (ld_blt I hg hm boot_zip5 (PyProof.Rows.callWith_type1 (thn (ha pos pins s σ H _ I h) fun us s1 ⟨vs, H1, I1, r1, q1⟩ => ?_) hs hpl))
  obtain ⟨a, b, xs, ys, ex, hqx, q⟩ := q1
  subst ex
  cases r1 with
  | cons r rr =>
    cases rr with
    | cons r' rr =>
      cases rr
      cases r
      cases r'
      obtain ⟨its, rv, p1, _⟩ := I1.list hqx
      have la : a < s1.heap.objs.size := p1.lt
      have fpo : ∀ c, c ∈ [s1.heap.objs.size + 4, s1.heap.objs.size + 2, s1.heap.objs.size + 3, s1.heap.objs.size, s1.heap.objs.size + 1] → FpOk X pins H1 c := fun c hcm => by
        have hle : s1.heap.objs.size ≤ c := by
          simp only [List.mem_cons, List.not_mem_nil, or_false] at hcm
          omega
        exact I1.fpOk hle (I1.hok.fresh hle)
      rcases q with ⟨hqy, q⟩ | ⟨hqy, q⟩
      · obtain ⟨its2, rv2, p2, _⟩ := I1.list hqy
        have lb : b < s1.heap.objs.size := p2.lt
        refine call_zip_2 p1.isList p2.isList fun h' hz hTI hTO h1 h2 hsz hk => wpAny_pyIter_zip hz ?_
        have I2 : Inv X pins σ H1 { s1 with heap := h' } := I1.kept (t' := s1.toks) hk
        exact ⟨s1.heap.objs.size + 4, [s1.heap.objs.size + 4, s1.heap.objs.size + 2, s1.heap.objs.size + 3, s1.heap.objs.size, s1.heap.objs.size + 1], _, _, H1, rfl, I2, turn_zip (PySem.W.ktu_apart s1.heap.objs.size a b la lb), ⟨hz, hTI, ⟨_, _, hTO⟩, h1, h2⟩, fpo, q⟩
      · obtain ⟨its2, rv2, p2, _⟩ := I1.tuple hqy
        have lb : b < s1.heap.objs.size := p2.lt
        refine call_zipT p1.isList p2 fun h' hz hTI hTO h1 h2 hk => wpAny_pyIter_zip hz ?_
        have I2 : Inv X pins σ H1 { s1 with heap := h' } := I1.kept (t' := s1.toks) hk
        exact ⟨s1.heap.objs.size + 4, [s1.heap.objs.size + 4, s1.heap.objs.size + 2, s1.heap.objs.size + 3, s1.heap.objs.size, s1.heap.objs.size + 1], _, _, H1, rfl, I2, turn_zipT (PySem.W.ktu_apart s1.heap.objs.size a b la lb), ⟨hz, hTI, ⟨_, _, hTO⟩, h1, h2⟩, fpo, q⟩
end RL

end
section
set_option Elab.async false
set_option linter.all false
set_option maxRecDepth 100000
set_option maxHeartbeats 2000000
namespace RL
open PySem PySem.Spec PyProof.Rows L2
/-! ### min of pairs: a number, and a tuple of numbers -/
structure Pr where
  ad : Addr
  c : Int
  la : Addr
  l : List Int
def plt (x y : Pr) : Bool := if x.c = y.c then HT.lexLt x.l y.l else decide (x.c < y.c)
theorem lexLt_irr : ∀ l : List Int, HT.lexLt l l = false
  | [] => rfl
  | x :: xs => by rw [HT.lexLt_cons, if_pos rfl]; exact lexLt_irr xs
theorem lexLt_tr : ∀ {a b c : List Int}, HT.lexLt a b = true → HT.lexLt b c = true → HT.lexLt a c = true
  | [], [], _, h, _ => by cases h
  | [], _ :: _, [], _, h => by cases h
  | [], _ :: _, _ :: _, h1, h2 => rfl
  | _ :: _, [], _, h, h2 => by cases h
  | _ :: _, _ :: _, [], _, h => by cases h
  | x :: xs, y :: ys, z :: zs, h1, h2 => by
    rw [HT.lexLt_cons] at h1 h2 ⊢
    by_cases e1 : x = y
    · subst e1
      rw [if_pos rfl] at h1
      by_cases e2 : x = z
      · rw [if_pos e2] at h2 ⊢
        exact lexLt_tr h1 h2
      · rw [if_neg e2] at h2 ⊢
        exact h2
    · rw [if_neg e1] at h1
      have l1 := of_decide_eq_true h1
      by_cases e2 : y = z
      · subst e2
        rw [if_neg e1]
        exact h1
      · rw [if_neg e2] at h2
        have l2 := of_decide_eq_true h2
        rw [if_neg (by omega)]
        exact decide_eq_true (show _ < _ by omega)
theorem plt_irr (x : Pr) : plt x x = false := by
  unfold plt
  rw [if_pos rfl]
  exact lexLt_irr _
theorem plt_tr {x y z : Pr} (h1 : plt x y = true) (h2 : plt y z = true) : plt x z = true := by
  unfold plt at *
  by_cases e1 : x.c = y.c
  · rw [if_pos e1] at h1
    by_cases e2 : y.c = z.c
    · rw [if_pos e2] at h2
      rw [if_pos (e1.trans e2)]
      exact lexLt_tr h1 h2
    · rw [if_neg e2] at h2
      rw [if_neg (by omega), e1]
      exact h2
  · rw [if_neg e1] at h1
    have l1 := of_decide_eq_true h1
    by_cases e2 : y.c = z.c
    · rw [if_neg (by omega)]
      exact decide_eq_true (show _ < _ by omega)
    · rw [if_neg e2] at h2
      have l2 := of_decide_eq_true h2
      rw [if_neg (by omega)]
      exact decide_eq_true (show _ < _ by omega)
theorem argBest_min {bt : Nat → Nat → Bool} (irr : ∀ i, bt i i = false) (tr : ∀ i j k, bt i j = true → bt j k = true → bt i k = true) : ∀ k, argBest bt k ≤ k ∧ ∀ j, j ≤ k → bt j (argBest bt k) = false
  | 0 => ⟨Nat.le_refl _, fun j hj => by
    have e : j = 0 := by omega
    subst e
    exact irr _⟩
  | k + 1 => by
    obtain ⟨h1, h2⟩ := argBest_min irr tr k
    cases hb : bt (k + 1) (argBest bt k) with
    | true =>
      have e : argBest bt (k + 1) = k + 1 := by simp only [argBest, hb, if_true]
      rw [e]
      refine ⟨Nat.le_refl (k + 1), fun j hj => ?_⟩
      by_cases q : j = k + 1
      · rw [q]; exact irr _
      · cases z : bt j (k + 1) with
        | false => rfl
        | true =>
          have := tr _ _ _ z hb
          rw [h2 j (by omega)] at this
          cases this
    | false =>
      have e : argBest bt (k + 1) = argBest bt k := by simp only [argBest, hb, Bool.false_eq_true, if_false]
      rw [e]
      refine ⟨(by omega), fun j hj => ?_⟩
      by_cases q : j = k + 1
      · rw [q]; exact hb
      · exact h2 j (by omega)
theorem LtIs.ints {A : Around} {s : Shared} : ∀ {vs ws : List Value} {ns ms : List Int}, IntsAre vs ns → IntsAre ws ms → ns.length = ms.length → LtIs A s vs ws (HT.lexLt ns ms)
  | _, _, _, _, .nil, .nil, _ => .nil
  | _, _, _, _, .nil, .cons .., h => by cases h
  | _, _, _, _, .cons .., .nil, h => by cases h
  | _, _, _, _, .cons a t hv, .cons c u hw, h => by
    rw [HT.lexLt_cons]
    have q := SeqAt.EqAt.int_int (A := A) (s := s) a t c u
    by_cases e : a = c
    · rw [if_pos e]
      rw [show (a == c) = true from beq_iff_eq.mpr e] at q
      exact .same q (LtIs.ints hv hw (Nat.succ.inj h))
    · rw [if_neg e]
      rw [show (a == c) = false from beq_eq_false_iff_ne.mpr e] at q
      refine .diff q (fun prog w E Q hq => HT.rcLt_int A s a t c u prog w E Q hq) ?_
      have h1 := hv.length
      have h2 := hw.length
      have h3 : _ := Nat.succ.inj h
      omega
theorem intsAre_at : ∀ {vs : List Value} {ns : List Int}, IntsAre vs ns → ∀ {j : Nat} (h : j < vs.length), ∃ t, vs[j] = .int (ns.getD j 0) t
  | _, _, .nil, j, h => by cases h
  | _, _, .cons a t hv, 0, h => ⟨t, rfl⟩
  | _, _, .cons a t hv, j + 1, h => intsAre_at hv (Nat.lt_of_succ_lt_succ h)
theorem all_eq {ns ms : List Int} (h : ns.length = ms.length) : ((List.range ns.length).all fun j => ns.getD j 0 == ms.getD j 0) = decide (ns = ms) := by
  rw [Bool.eq_iff_iff, List.all_eq_true, decide_eq_true_iff]
  constructor
  · intro q
    apply List.ext_getElem?
    intro j
    by_cases hj : j < ns.length
    · have := q j (List.mem_range.mpr hj)
      rw [beq_iff_eq, List.getD_eq_getElem?_getD, List.getD_eq_getElem?_getD, List.getElem?_eq_getElem hj, List.getElem?_eq_getElem (by omega)] at this
      rw [List.getElem?_eq_getElem hj, List.getElem?_eq_getElem (by omega)]
      exact congrArg some this
    · rw [List.getElem?_eq_none (by omega), List.getElem?_eq_none (by omega)]
  · rintro rfl j _
    exact beq_self_eq_true _
theorem map_int_inj : ∀ {a b : List Int}, a.map V.int = b.map V.int → a = b
  | [], [], _ => rfl
  | [], _ :: _, h => by cases h
  | _ :: _, [], h => by cases h
  | x :: a, y :: b, h => by
    have h' : V.int x :: a.map V.int = V.int y :: b.map V.int := h
    injection h' with h1 h2
    injection h1 with h1
    rw [h1, map_int_inj h2]
/-- == of two tuples of ints -/
theorem eqAt_tups {A : Around} {s : Shared} {p q : Addr} {vs ws : List Value} {ns ms : List Int} (hp : s.heap.IsTuple p vs.toArray) (hq : s.heap.IsTuple q ws.toArray) (hv : IntsAre vs ns) (hw : IntsAre ws ms) (hl : ns.length = ms.length) (hne : p ≠ q) (hu : A.units < cLine) :
    SeqAt.EqAt A s (.ref p) (.ref q) (decide (ns = ms)) := by
  have l1 := hv.length
  have l2 := hw.length
  have e : ((List.range (min vs.toArray.size ws.toArray.size)).all (fun j => ns.getD j 0 == ms.getD j 0) && vs.toArray.size == ws.toArray.size) = decide (ns = ms) := by
    have s1 : vs.toArray.size = ns.length := by rw [List.size_toArray]; exact l1
    have s2 : ws.toArray.size = ns.length := by rw [List.size_toArray]; omega
    rw [s1, s2, Nat.min_self, beq_self_eq_true, Bool.and_true, all_eq hl]
  rw [← e]
  refine SeqAt.EqAt.of_refs hne (SeqAt.RcAt.tuples hp hq hu fun j h1 h2 => ?_)
  have h1' : j < vs.length := by simpa using h1
  have h2' : j < ws.length := by simpa using h2
  obtain ⟨t, e1⟩ := intsAre_at hv h1'
  obtain ⟨u, e2⟩ := intsAre_at hw h2'
  have a1 : vs.toArray[j] = .int (ns.getD j 0) t := by simpa using e1
  have a2 : ws.toArray[j] = .int (ms.getD j 0) u := by simpa using e2
  rw [a1, a2]
  exact SeqAt.EqAt.int_int _ _ _ _
def rMinP (K : PySem.W.Frag) : List V → Hp → VK → Prop := fun vs H Q => ∃ (a : Addr) (cs : List Pr), vs = [V.ref a] ∧ SqL K H a (cs.map fun c => V.ref c.ad) ∧ 0 < cs.length ∧ (∀ c ∈ cs, SqT K H c.ad [.int c.c, .ref c.la] ∧ SqT K H c.la (c.l.map V.int)) ∧
  (∀ c ∈ cs, ∀ d ∈ cs, c.l.length = d.l.length) ∧ ∀ c ∈ cs, (∀ d ∈ cs, plt d c = false) → Q (.ref c.ad) H
theorem cr_minP {X : Cx} (hc : X.calm = true) (hu : X.A.units + 64 < cLine) : CallR X (.builtin "min") (rMinP X.K) := by
  intro pins s σ H vs us Q I r h
  obtain ⟨a, cs, rfl, hs, hne0, hT, hlen, q⟩ := h
  obtain ⟨its, rv, pl, _⟩ := I.list hs
  rw [Vals.ref1 r]
  have hn : its.length = cs.length := by
    have := rv.length
    rw [List.length_map] at this
    exact this.symm
  have d0 : Pr := ⟨0, 0, 0, []⟩
  refine call_min_kept (iter_any pl.isList fun s₂ e2 st hne => ?_)
  subst e2
  have item : ∀ i v, its.toArray[i]? = some v → i < cs.length ∧ v = .ref (cs.getD i d0).ad ∧ cs.getD i d0 ∈ cs := fun i v hv => by
    have hv' : its[i]? = some v := by simpa using hv
    have hi : i < its.length := (List.getElem?_eq_some_iff.mp hv').1
    have hc' : (cs.map fun c => V.ref c.ad)[i]? = some (V.ref cs[i].ad) := by rw [List.getElem?_map, List.getElem?_eq_getElem (by omega)]; rfl
    obtain ⟨u, hu1, ru⟩ := rv.get hc'
    rw [hv'] at hu1
    cases hu1
    have eg : cs.getD i d0 = cs[i] := by rw [List.getD_eq_getElem?_getD, List.getElem?_eq_getElem (by omega)]; rfl
    rw [eg]
    exact ⟨by omega, ru, List.getElem_mem _⟩
  have lt0 : ∀ {b o}, s.heap.get? b = some o → b < s.heap.objs.size := fun e => Heap.lt_size e
  refine ⟨_, _, _, _, _, _, fun i j => plt (cs.getD i d0) (cs.getD j d0), rfl, Walks.list (A := X.A.in1) (I.ok.hd hc) _ a hne its.toArray, st, ?_, ?_, ?_, fun v h' tk hP hk => ?_⟩
  · intro b hb
    show b < ((s.heap).push _).objs.size
    rw [Heap.size_push]
    simp only [List.mem_cons, or_false, List.not_mem_nil] at hb
    rcases hb with rfl | rfl
    · exact Nat.lt_succ_self _
    · exact Nat.lt_succ_of_lt pl.lt
  · rw [List.size_toArray]; omega
  · intro i j vi vj s' Q' E' hK hi hj hQ
    obtain ⟨li, rfl, mi⟩ := item i vi hi
    obtain ⟨lj, rfl, mj⟩ := item j vj hj
    have hQ : Q' (.bool (plt (cs.getD i d0) (cs.getD j d0))) s' := hQ
    show wpAny _ _ (richCompare .Lt (.ref (cs.getD i d0).ad) (.ref (cs.getD j d0).ad)) _ _ _
    generalize cs.getD i d0 = x at mi hQ ⊢
    generalize cs.getD j d0 = y at mj hQ ⊢
    have keep : ∀ {p : Addr} {arr : Array Value}, IsTup s.heap p arr → s'.heap.IsTuple p arr := fun {p arr} hp => by
      obtain ⟨o, ho, rest⟩ := hp
      have lp := lt0 ho
      refine ⟨o, hK p o (fun z => ?_) (fun z => ?_) (Heap.get?_push_of_some _ ho), rest⟩
      · rw [List.mem_singleton.mp z] at lp
        exact absurd lp (Nat.lt_irrefl _)
      · simp only [Heap.size_push] at z
        rw [z] at lp
        exact absurd lp (Nat.not_lt_of_le (Nat.le_succ _))
    obtain ⟨⟨x1, x2⟩, ⟨y1, y2⟩⟩ := And.intro (hT x mi) (hT y mj)
    obtain ⟨ix, rx, px, _⟩ := I.tuple x1
    obtain ⟨iy, ry, py, _⟩ := I.tuple y1
    obtain ⟨jx, sx, qx, _⟩ := I.tuple x2
    obtain ⟨jy, sy, qy, _⟩ := I.tuple y2
    obtain ⟨u1, u2, rfl, r1, r2⟩ := rx.two
    obtain ⟨w1, w2, rfl, r3, r4⟩ := ry.two
    obtain ⟨t1, rfl⟩ := r1
    obtain ⟨t3, rfl⟩ := r3
    cases r2
    cases r4
    have hl := hlen x mi y mj
    have uu : X.A.in1.units < cLine := by rw [Around.in1_units]; omega
    have uu2 : X.A.in1.in1.units < cLine := by rw [Around.in1_units, Around.in1_units]; omega
    refine RcLt.tuples (keep px) (keep py) uu ?_ X.prog X.w E' Q' hQ
    show LtIs X.A.in1.in1 s' [.int x.c t1, .ref x.la] [.int y.c t3, .ref y.la] (plt x y)
    have q0 := SeqAt.EqAt.int_int (A := X.A.in1.in1) (s := s') x.c t1 y.c t3
    unfold plt
    by_cases e : x.c = y.c
    · rw [if_pos e]
      rw [show (x.c == y.c) = true from beq_iff_eq.mpr e] at q0
      refine .same q0 ?_
      by_cases ea : x.la = y.la
      · have ex : x.l = y.l := by
          rw [ea] at x2
          have := I.tuple_inj x2 y2
          exact map_int_inj this
        rw [ex, lexLt_irr, ea]
        exact .same (SeqAt.EqAt.same _) .nil
      · have q1 := eqAt_tups (A := X.A.in1.in1) (keep qx) (keep qy) sx.ints sy.ints hl ea uu2
        by_cases ex : x.l = y.l
        · rw [ex, lexLt_irr]
          rw [decide_eq_true ex] at q1
          exact .same q1 .nil
        · rw [decide_eq_false ex] at q1
          refine .diff q1 (RcLt.tuples (keep qx) (keep qy) uu2 ?_) rfl
          exact LtIs.ints (by simpa using sx.ints) (by simpa using sy.ints) hl
    · rw [if_neg e]
      rw [show (x.c == y.c) = false from beq_eq_false_iff_ne.mpr e] at q0
      exact .diff q0 (fun prog w E Q hq => HT.rcLt_int _ _ x.c t1 y.c t3 prog w E Q hq) rfl
  · obtain ⟨lv, rfl, mv⟩ := item _ v hP
    have best := argBest_min (bt := fun i j => plt (cs.getD i d0) (cs.getD j d0)) (fun i => plt_irr _) (fun i j k => plt_tr) (its.toArray.size - 1)
    refine ⟨.ref _, H, I.kept fun b o eo => hk b o (fun hmem => ?_) (Heap.get?_push_of_some _ eo), rfl, q _ mv fun d hd => ?_⟩
    · have lp := lt0 eo
      rw [List.mem_singleton.mp hmem] at lp
      exact absurd lp (Nat.lt_irrefl _)
    · obtain ⟨j, hj, rfl⟩ := List.getElem_of_mem hd
      have := best.2 j (by rw [List.size_toArray]; omega)
      have eg : cs.getD j d0 = cs[j] := by rw [List.getD_eq_getElem?_getD, List.getElem?_eq_getElem hj]; rfl
      rw [eg] at this
      exact this
end RL

end
section
set_option Elab.async false
set_option linter.all false
set_option maxRecDepth 100000
set_option maxHeartbeats 2000000
namespace RL
open PySem PySem.Spec PyProof.Rows L2
/-- a name of the top, by what it stands for -/
def GC (mg : Str → Option Value) (x : Str) (v : V) : Prop := ∃ u, mg x = some u ∧ RelV v u
theorem pe_gc {X : Cx} {x : Str} {v : V} {pos : Pos} (hg : Gl X x) (h : GC X.mg x v) (hd : (x == ("__debug__" : Str)) = false := by decide) : PE X (.Name x pos) (tC v) := by
  obtain ⟨u, h1, h2⟩ := h
  exact pe_glob hg h1 h2 hd
/-! ### a dict of the top, whole numbers by whole numbers -/
structure EntI (kv : Int × Int) (e : DictEntry) : Prop where
  hs : e.hash = hashInt kv.1
  ky : ∃ t, e.key = Value.int kv.1 t
  vl : ∃ t, e.val = Value.int kv.2 t
structure DKI (K : PySem.W.Frag) (a : Addr) (kvs : List (Int × Int)) : Prop where
  ex : ∃ (es : Array DictEntry) (ep : Nat), K.lookup a = some ⟨.type "dict", none, .dict es ep, #[]⟩ ∧ Paired EntI kvs es.toList
  nd : (kvs.map (·.1)).Nodup
def getI (kvs : List (Int × Int)) (k : Int) : Option Int := (kvs.find? fun kv => kv.1 = k).map (·.2)
theorem entI_pairs {P : Program} {w : World} : ∀ {kvs : List (Int × Int)} {es : List DictEntry}, Paired EntI kvs es → ∃ vs : List (Key × Value), Pairs (mixKind P w) es vs ∧ vs.map (·.1) = kvs.map (fun kv => (Sum.inl kv.1 : Key)) ∧ (∀ e ∈ es, ∃ k, (mixKind P w).is k e.key = true ∧ e.hash = (mixKind P w).hash k) ∧
    ∀ k v, getI kvs k = some v → ∃ t, valueAt vs (Sum.inl k : Key) = some (Value.int v t)
  | _, _, .nil => ⟨[], .nil, rfl, fun e h => (by cases h), fun k v h => (by cases h)⟩
  | (k0, v0) :: kvs, e0 :: es, .cons h t => by
    obtain ⟨vs, p, e, q, g⟩ := entI_pairs (P := P) (w := w) t
    obtain ⟨hs, ⟨tk, hk⟩, ⟨tv, hv⟩⟩ := h
    have isk : (mixKind P w).is (Sum.inl k0 : Key) e0.key = true := by
      rw [hk]
      exact mixKind_int P w k0 tk
    refine ⟨(Sum.inl k0, e0.val) :: vs, .cons isk rfl p, by rw [List.map_cons, List.map_cons, e], fun x hx => ?_, fun k v hg => ?_⟩
    · cases hx with
      | head => exact ⟨Sum.inl k0, isk, hs⟩
      | tail _ hx => exact q x hx
    · by_cases ek : k0 = k
      · subst ek
        have : some v0 = some v := by
          unfold getI at hg
          rw [List.find?_cons_of_pos (by simp)] at hg
          exact hg
        cases this
        refine ⟨tv, ?_⟩
        unfold valueAt
        rw [List.find?_cons_of_pos (by simp)]
        show some e0.val = _
        rw [hv]
      · have hg' : getI kvs k = some v := by
          unfold getI at hg ⊢
          rw [List.find?_cons_of_neg (by simpa using ek)] at hg
          exact hg
        obtain ⟨t', ht'⟩ := g k v hg'
        refine ⟨t', ?_⟩
        unfold valueAt at ht' ⊢
        rw [List.find?_cons_of_neg (by simpa using ek)]
        exact ht'
theorem DKI.dictOf {K : PySem.W.Frag} {a : Addr} {kvs : List (Int × Int)} (d : DKI K a kvs) (P : Program) (w : World) {h : Heap} (X : K.In h) : ∃ vs : List (Key × Value), h.DictOf (mixKind P w) a vs ∧ ∀ k v, getI kvs k = some v → ∃ t, valueAt vs (Sum.inl k : Key) = some (Value.int v t) := by
  obtain ⟨es, ep, lk, pr⟩ := d.ex
  obtain ⟨vs, p, e, q, g⟩ := entI_pairs (P := P) (w := w) pr
  refine ⟨vs, ⟨_, es, ep, X a _ lk, ⟨rfl, rfl, rfl⟩, rfl, fun x hx => q x (Array.mem_toList_iff.mpr hx), p, ?_⟩, g⟩
  rw [e]
  have : kvs.map (fun kv => (Sum.inl kv.1 : Key)) = (kvs.map (·.1)).map (fun z => (Sum.inl z : Key)) := by rw [List.map_map]; rfl
  rw [this, List.nodup_iff_pairwise_ne, List.pairwise_map]
  exact List.Pairwise.imp (fun {a b} n z => n (Sum.inl.inj z)) (List.nodup_iff_pairwise_ne.mp d.nd)
def tDGetK (K : PySem.W.Frag) (td ty : TE) : TE := fun σ H Q => td σ H fun x H1 => ty σ H1 fun y H2 => ∃ a kvs k v, x = .ref a ∧ y = .int k ∧ DKI K a kvs ∧ getI kvs k = some v ∧ Q (.int v) H2
theorem pe_dgetK {X : Cx} {o i : Expr} {td ty : TE} {pos : Pos} (ho : PE X o td) (hi : PE X i ty) (hs : NoSl i) : PE X (.Subscript o i pos) (tDGetK X.K td ty) := by
  intro pins s σ H Q I h
  refine subD_of PySem.F.slot_dict_getitem.lookup hs (thn (ho pins s σ H _ I h) fun u s1 ⟨x, H1, I1, rx, q1⟩ => thn (hi pins s1 σ H1 _ I1 q1) fun iv s2 ⟨y, H2, I2, ry, a, kvs, k, v, ex, ey, d, g, q2⟩ => ?_)
  subst ex ey
  obtain rfl : u = Value.ref a := rx
  obtain ⟨vs, dd, gv⟩ := d.dictOf X.prog X.w I2.kIn
  obtain ⟨t, ht⟩ := gv k v g
  exact ⟨dd.typeIs, wpAny_getItem_of (kV_is (k := Sum.inl k) ry) dd.mapOf ht ⟨.int v, H2, I2.tok _, ⟨t, rfl⟩, q2⟩⟩
def top (i : Nat) : Stmt := PySem.Challenge.pw_roadlaid_s01_answers.main.body.getD i (.Pass ⟨0, 0, 0, 0⟩)
abbrev s_first_wrong : Stmt := top 4
abbrev s_fixed_otherwise : Stmt := top 5
abbrev s_too_steep : Stmt := top 6
abbrev s_bends_too_much : Stmt := top 7
abbrev s_units_over : Stmt := top 8
abbrev s_line_cost : Stmt := top 9
abbrev s_priced : Stmt := top 10
abbrev s_units_left : Stmt := top 12
abbrev s_carrying_cost : Stmt := top 13
abbrev s_may_be_left : Stmt := top 14
abbrev s_pit_cost : Stmt := top 15
abbrev s_Road_init : Stmt := inClass (top 26) 0
abbrev s_Road_begins : Stmt := inClass (top 26) 1
abbrev s_Road_add_point : Stmt := inClass (top 26) 2
abbrev s_Road_fix : Stmt := inClass (top 26) 3
abbrev s_Road_free : Stmt := inClass (top 26) 4
abbrev s_Road_pit : Stmt := inClass (top 26) 5
abbrev s_Road_close : Stmt := inClass (top 26) 6
abbrev s_Road_take_away : Stmt := inClass (top 26) 7
abbrev s_Road_has_point : Stmt := inClass (top 26) 8
abbrev s_check : Stmt := top 32
abbrev s_line_allowed : Stmt := top 33
abbrev s_hauls_allowed : Stmt := top 34
abbrev s_haul_allowed : Stmt := top 35
abbrev s_best : Stmt := top 40
abbrev s_lines_built : Stmt := top 41
abbrev s_longer_ends : Stmt := top 42
abbrev s_fits_ahead : Stmt := top 43
abbrev s_costs_past_the_last : Stmt := top 44
abbrev s_costs_at_point : Stmt := top 45
abbrev s_cheapened : Stmt := top 46
abbrev s_costs_ahead : Stmt := top 47
abbrev s_earliest_way : Stmt := top 48
abbrev s_costs_along : Stmt := top 49
abbrev s_fewest_onwards : Stmt := top 50
abbrev s_answers : Stmt := top 61
abbrev s_call_end : Stmt := top 62
abbrev s_row_end : Stmt := top 63
abbrev s_answer : Stmt := top 64
abbrev s_in_threes : Stmt := top 65
theorem sc_first_wrong : FnScope ["road", "line", "point", "height"] ["road", "line"] (defScope s_first_wrong) := ⟨rfl, rfl, rfl, by decide +kernel, rfl, by decide +kernel, by decide +kernel⟩
theorem sc_fixed_otherwise : FnScope ["road", "point", "height"] ["road", "point", "height"] (defScope s_fixed_otherwise) := ⟨rfl, rfl, rfl, by decide +kernel, rfl, by decide +kernel, by decide +kernel⟩
theorem sc_too_steep : FnScope ["road", "height", "next_height"] ["road", "height", "next_height"] (defScope s_too_steep) := ⟨rfl, rfl, rfl, by decide +kernel, rfl, by decide +kernel, by decide +kernel⟩
theorem sc_bends_too_much : FnScope ["road", "height_before", "height", "next_height"] ["road", "height_before", "height", "next_height"] (defScope s_bends_too_much) := ⟨rfl, rfl, rfl, by decide +kernel, rfl, by decide +kernel, by decide +kernel⟩
theorem sc_units_over : FnScope ["road", "line", "ground", "height"] ["road", "line"] (defScope s_units_over) := ⟨rfl, rfl, rfl, by decide +kernel, rfl, by decide +kernel, by decide +kernel⟩
theorem sc_line_cost : FnScope ["road", "line", "units"] ["road", "line"] (defScope s_line_cost) := ⟨rfl, rfl, rfl, by decide +kernel, rfl, by decide +kernel, by decide +kernel⟩
theorem sc_priced : FnScope ["units", "above", "below"] ["units", "above", "below"] (defScope s_priced) := ⟨rfl, rfl, rfl, by decide +kernel, rfl, by decide +kernel, by decide +kernel⟩
theorem sc_units_left : FnScope ["road", "line", "hauls", "left", "source", "target", "units"] ["road", "line", "hauls"] (defScope s_units_left) := ⟨rfl, rfl, rfl, by decide +kernel, rfl, by decide +kernel, by decide +kernel⟩
theorem sc_carrying_cost : FnScope ["hauls", "source", "target", "units"] ["hauls"] (defScope s_carrying_cost) := ⟨rfl, rfl, rfl, by decide +kernel, rfl, by decide +kernel, by decide +kernel⟩
theorem sc_may_be_left : FnScope ["pit", "left"] ["pit", "left"] (defScope s_may_be_left) := ⟨rfl, rfl, rfl, by decide +kernel, rfl, by decide +kernel, by decide +kernel⟩
theorem sc_pit_cost : FnScope ["pit", "left"] ["pit", "left"] (defScope s_pit_cost) := ⟨rfl, rfl, rfl, by decide +kernel, rfl, by decide +kernel, by decide +kernel⟩
theorem sc_Road_init : FnScope ["self"] ["self"] (defScope s_Road_init) := ⟨rfl, rfl, rfl, by decide +kernel, rfl, by decide +kernel, by decide +kernel⟩
theorem sc_Road_begins : FnScope ["self", "steep", "bend", "dig", "fill"] ["self", "steep", "bend", "dig", "fill"] (defScope s_Road_begins) := ⟨rfl, rfl, rfl, by decide +kernel, rfl, by decide +kernel, by decide +kernel⟩
theorem sc_Road_add_point : FnScope ["self", "ground"] ["self", "ground"] (defScope s_Road_add_point) := ⟨rfl, rfl, rfl, by decide +kernel, rfl, by decide +kernel, by decide +kernel⟩
theorem sc_Road_fix : FnScope ["self", "point", "height"] ["self", "point", "height"] (defScope s_Road_fix) := ⟨rfl, rfl, rfl, by decide +kernel, rfl, by decide +kernel, by decide +kernel⟩
theorem sc_Road_free : FnScope ["self", "point"] ["self", "point"] (defScope s_Road_free) := ⟨rfl, rfl, rfl, by decide +kernel, rfl, by decide +kernel, by decide +kernel⟩
theorem sc_Road_pit : FnScope ["self", "point", "tipping", "fetching"] ["self", "point", "tipping", "fetching"] (defScope s_Road_pit) := ⟨rfl, rfl, rfl, by decide +kernel, rfl, by decide +kernel, by decide +kernel⟩
theorem sc_Road_close : FnScope ["self", "point"] ["self", "point"] (defScope s_Road_close) := ⟨rfl, rfl, rfl, by decide +kernel, rfl, by decide +kernel, by decide +kernel⟩
theorem sc_Road_take_away : FnScope ["self", "kept", "point"] ["self", "kept", "point"] (defScope s_Road_take_away) := ⟨rfl, rfl, rfl, by decide +kernel, rfl, by decide +kernel, by decide +kernel⟩
theorem sc_Road_has_point : FnScope ["self", "point"] ["self", "point"] (defScope s_Road_has_point) := ⟨rfl, rfl, rfl, by decide +kernel, rfl, by decide +kernel, by decide +kernel⟩
theorem sc_check : FnScope ["road", "line", "hauls", "wrong", "left", "point", "pit", "pits_cost", "units"] ["road", "line", "hauls"] (defScope s_check) := ⟨rfl, rfl, rfl, by decide +kernel, rfl, by decide +kernel, by decide +kernel⟩
theorem sc_line_allowed : FnScope ["road", "line", "height"] ["road", "line"] (defScope s_line_allowed) := ⟨rfl, rfl, rfl, by decide +kernel, rfl, by decide +kernel, by decide +kernel⟩
theorem sc_hauls_allowed : FnScope ["road", "hauls", "haul"] ["road", "hauls"] (defScope s_hauls_allowed) := ⟨rfl, rfl, rfl, by decide +kernel, rfl, by decide +kernel, by decide +kernel⟩
theorem sc_haul_allowed : FnScope ["road", "haul", "source", "target"] ["road", "haul"] (defScope s_haul_allowed) := ⟨rfl, rfl, rfl, by decide +kernel, rfl, by decide +kernel, by decide +kernel⟩
theorem sc_best : FnScope ["road", "built", "cheapest", "least", "earliest", "as_good", "cost", "line"] ["road"] (defScope s_best) := ⟨rfl, rfl, rfl, by decide +kernel, rfl, by decide +kernel, by decide +kernel⟩
theorem sc_lines_built : FnScope ["road", "ends", "point", "built", "line", "costs"] ["road"] (defScope s_lines_built) := ⟨rfl, rfl, rfl, by decide +kernel, rfl, by decide +kernel, by decide +kernel⟩
theorem sc_longer_ends : FnScope ["road", "point", "ends", "longer", "heights", "costs", "costs_here", "height", "over"] ["road", "point", "ends"] (defScope s_longer_ends) := ⟨rfl, rfl, rfl, by decide +kernel, rfl, by decide +kernel, by decide +kernel⟩
theorem sc_fits_ahead : FnScope ["road", "point", "height", "heights"] ["road", "point", "height", "heights"] (defScope s_fits_ahead) := ⟨rfl, rfl, rfl, by decide +kernel, rfl, by decide +kernel, by decide +kernel⟩
theorem sc_costs_past_the_last : FnScope [] [] (defScope s_costs_past_the_last) := ⟨rfl, rfl, rfl, by decide +kernel, rfl, by decide +kernel, by decide +kernel⟩
theorem sc_costs_at_point : FnScope ["pit", "costs", "carried", "with_tipping", "with_fetching", "place", "cost"] ["pit", "costs"] (defScope s_costs_at_point) := ⟨rfl, rfl, rfl, by decide +kernel, rfl, by decide +kernel, by decide +kernel⟩
theorem sc_cheapened : FnScope ["costs", "price", "cheaper", "cost"] ["costs", "price"] (defScope s_cheapened) := ⟨rfl, rfl, rfl, by decide +kernel, rfl, by decide +kernel, by decide +kernel⟩
theorem sc_costs_ahead : FnScope ["costs_here", "over"] ["costs_here", "over"] (defScope s_costs_ahead) := ⟨rfl, rfl, rfl, by decide +kernel, rfl, by decide +kernel, by decide +kernel⟩
theorem sc_earliest_way : FnScope ["road", "line", "over", "costs", "way", "coming", "point", "least"] ["road", "line"] (defScope s_earliest_way) := ⟨rfl, rfl, rfl, by decide +kernel, rfl, by decide +kernel, by decide +kernel⟩
theorem sc_costs_along : FnScope ["road", "over", "along", "point", "costs_here"] ["road", "over"] (defScope s_costs_along) := ⟨rfl, rfl, rfl, by decide +kernel, rfl, by decide +kernel, by decide +kernel⟩
theorem sc_fewest_onwards : FnScope ["pit", "units", "costs", "least", "cheapest", "place", "cost", "onwards", "left"] ["pit", "units", "costs", "least"] (defScope s_fewest_onwards) := ⟨rfl, rfl, rfl, by decide +kernel, rfl, by decide +kernel, by decide +kernel⟩
theorem sc_answers : FnScope ["calls", "road", "given", "start", "end", "answered"] ["calls"] (defScope s_answers) := ⟨rfl, rfl, rfl, by decide +kernel, rfl, by decide +kernel, by decide +kernel⟩
theorem sc_call_end : FnScope ["calls", "start", "hauls_start"] ["calls", "start"] (defScope s_call_end) := ⟨rfl, rfl, rfl, by decide +kernel, rfl, by decide +kernel, by decide +kernel⟩
theorem sc_row_end : FnScope ["numbers", "start"] ["numbers", "start"] (defScope s_row_end) := ⟨rfl, rfl, rfl, by decide +kernel, rfl, by decide +kernel, by decide +kernel⟩
theorem sc_answer : FnScope ["road", "call", "numbers", "line_end"] ["road", "call", "numbers"] (defScope s_answer) := ⟨rfl, rfl, rfl, by decide +kernel, rfl, by decide +kernel, by decide +kernel⟩
theorem sc_in_threes : FnScope ["numbers", "start"] ["numbers"] (defScope s_in_threes) := ⟨rfl, rfl, rfl, by decide +kernel, rfl, by decide +kernel, by decide +kernel⟩
theorem us0 {us : List Value} (h : us.length = 0) : us = [] := List.length_eq_zero_iff.mp h
theorem us1 {us : List Value} (h : us.length = 1) : ∃ u0, us = [u0] := by
  match us, h with | [u0], _ => exact ⟨u0, rfl⟩
theorem us2 {us : List Value} (h : us.length = 2) : ∃ u0 u1, us = [u0, u1] := by
  match us, h with | [u0, u1], _ => exact ⟨u0, u1, rfl⟩
theorem us3 {us : List Value} (h : us.length = 3) : ∃ u0 u1 u2, us = [u0, u1, u2] := by
  match us, h with | [u0, u1, u2], _ => exact ⟨u0, u1, u2, rfl⟩
theorem us4 {us : List Value} (h : us.length = 4) : ∃ u0 u1 u2 u3, us = [u0, u1, u2, u3] := by
  match us, h with | [u0, u1, u2, u3], _ => exact ⟨u0, u1, u2, u3, rfl⟩
theorem us5 {us : List Value} (h : us.length = 5) : ∃ u0 u1 u2 u3 u4, us = [u0, u1, u2, u3, u4] := by
  match us, h with | [u0, u1, u2, u3, u4], _ => exact ⟨u0, u1, u2, u3, u4, rfl⟩
set_option genInjectivity false
set_option genSizeOf false
structure Adr where
  C_Road : Addr
  a_NUMBERS_BEHIND : Addr
  f_first_wrong : Addr
  d_first_wrong : FuncData
  f_fixed_otherwise : Addr
  d_fixed_otherwise : FuncData
  f_too_steep : Addr
  d_too_steep : FuncData
  f_bends_too_much : Addr
  d_bends_too_much : FuncData
  f_units_over : Addr
  d_units_over : FuncData
  f_line_cost : Addr
  d_line_cost : FuncData
  f_priced : Addr
  d_priced : FuncData
  f_units_left : Addr
  d_units_left : FuncData
  f_carrying_cost : Addr
  d_carrying_cost : FuncData
  f_may_be_left : Addr
  d_may_be_left : FuncData
  f_pit_cost : Addr
  d_pit_cost : FuncData
  f_Road_init : Addr
  d_Road_init : FuncData
  f_Road_begins : Addr
  d_Road_begins : FuncData
  f_Road_add_point : Addr
  d_Road_add_point : FuncData
  f_Road_fix : Addr
  d_Road_fix : FuncData
  f_Road_free : Addr
  d_Road_free : FuncData
  f_Road_pit : Addr
  d_Road_pit : FuncData
  f_Road_close : Addr
  d_Road_close : FuncData
  f_Road_take_away : Addr
  d_Road_take_away : FuncData
  f_Road_has_point : Addr
  d_Road_has_point : FuncData
  f_check : Addr
  d_check : FuncData
  f_line_allowed : Addr
  d_line_allowed : FuncData
  f_hauls_allowed : Addr
  d_hauls_allowed : FuncData
  f_haul_allowed : Addr
  d_haul_allowed : FuncData
  f_best : Addr
  d_best : FuncData
  f_lines_built : Addr
  d_lines_built : FuncData
  f_longer_ends : Addr
  d_longer_ends : FuncData
  f_fits_ahead : Addr
  d_fits_ahead : FuncData
  f_costs_past_the_last : Addr
  d_costs_past_the_last : FuncData
  f_costs_at_point : Addr
  d_costs_at_point : FuncData
  f_cheapened : Addr
  d_cheapened : FuncData
  f_costs_ahead : Addr
  d_costs_ahead : FuncData
  f_earliest_way : Addr
  d_earliest_way : FuncData
  f_costs_along : Addr
  d_costs_along : FuncData
  f_fewest_onwards : Addr
  d_fewest_onwards : FuncData
  f_answers : Addr
  d_answers : FuncData
  f_call_end : Addr
  d_call_end : FuncData
  f_row_end : Addr
  d_row_end : FuncData
  f_answer : Addr
  d_answer : FuncData
  f_in_threes : Addr
  d_in_threes : FuncData
structure Txt (K : PySem.W.Frag) (mg : Str → Option Value) (t : Adr) : Prop where
  cl_Road : Cls K t.C_Road
  c_Road : mg "Road" = some (.ref t.C_Road)
  mk_Road : Mk K t.C_Road t.f_Road_init
  n_Road_steep : NoAttr K t.C_Road "steep"
  n_Road_bend : NoAttr K t.C_Road "bend"
  n_Road_dig : NoAttr K t.C_Road "dig"
  n_Road_fill : NoAttr K t.C_Road "fill"
  n_Road_grounds : NoAttr K t.C_Road "grounds"
  n_Road_fixed : NoAttr K t.C_Road "fixed"
  n_Road_pits : NoAttr K t.C_Road "pits"
  F_first_wrong : Fun K "first_wrong" "first_wrong" s_first_wrong t.f_first_wrong t.d_first_wrong
  b_first_wrong : Binds K t.d_first_wrong ["road", "line"] []
  m_first_wrong : mg "first_wrong" = some (.ref t.f_first_wrong)
  F_fixed_otherwise : Fun K "fixed_otherwise" "fixed_otherwise" s_fixed_otherwise t.f_fixed_otherwise t.d_fixed_otherwise
  b_fixed_otherwise : Binds K t.d_fixed_otherwise ["road", "point", "height"] []
  m_fixed_otherwise : mg "fixed_otherwise" = some (.ref t.f_fixed_otherwise)
  F_too_steep : Fun K "too_steep" "too_steep" s_too_steep t.f_too_steep t.d_too_steep
  b_too_steep : Binds K t.d_too_steep ["road", "height", "next_height"] []
  m_too_steep : mg "too_steep" = some (.ref t.f_too_steep)
  F_bends_too_much : Fun K "bends_too_much" "bends_too_much" s_bends_too_much t.f_bends_too_much t.d_bends_too_much
  b_bends_too_much : Binds K t.d_bends_too_much ["road", "height_before", "height", "next_height"] []
  m_bends_too_much : mg "bends_too_much" = some (.ref t.f_bends_too_much)
  F_units_over : Fun K "units_over" "units_over" s_units_over t.f_units_over t.d_units_over
  b_units_over : Binds K t.d_units_over ["road", "line"] []
  m_units_over : mg "units_over" = some (.ref t.f_units_over)
  F_line_cost : Fun K "line_cost" "line_cost" s_line_cost t.f_line_cost t.d_line_cost
  b_line_cost : Binds K t.d_line_cost ["road", "line"] []
  m_line_cost : mg "line_cost" = some (.ref t.f_line_cost)
  F_priced : Fun K "priced" "priced" s_priced t.f_priced t.d_priced
  b_priced : Binds K t.d_priced ["units", "above", "below"] []
  m_priced : mg "priced" = some (.ref t.f_priced)
  F_units_left : Fun K "units_left" "units_left" s_units_left t.f_units_left t.d_units_left
  b_units_left : Binds K t.d_units_left ["road", "line", "hauls"] []
  m_units_left : mg "units_left" = some (.ref t.f_units_left)
  F_carrying_cost : Fun K "carrying_cost" "carrying_cost" s_carrying_cost t.f_carrying_cost t.d_carrying_cost
  b_carrying_cost : Binds K t.d_carrying_cost ["hauls"] []
  m_carrying_cost : mg "carrying_cost" = some (.ref t.f_carrying_cost)
  F_may_be_left : Fun K "may_be_left" "may_be_left" s_may_be_left t.f_may_be_left t.d_may_be_left
  b_may_be_left : Binds K t.d_may_be_left ["pit", "left"] []
  m_may_be_left : mg "may_be_left" = some (.ref t.f_may_be_left)
  F_pit_cost : Fun K "pit_cost" "pit_cost" s_pit_cost t.f_pit_cost t.d_pit_cost
  b_pit_cost : Binds K t.d_pit_cost ["pit", "left"] []
  m_pit_cost : mg "pit_cost" = some (.ref t.f_pit_cost)
  F_Road_init : Fun K "__init__" "Road.__init__" s_Road_init t.f_Road_init t.d_Road_init
  b_Road_init : Binds K t.d_Road_init ["self"] []
  F_Road_begins : Fun K "begins" "Road.begins" s_Road_begins t.f_Road_begins t.d_Road_begins
  b_Road_begins : Binds K t.d_Road_begins ["self", "steep", "bend", "dig", "fill"] []
  m_Road_begins : Meth K t.C_Road "begins" t.f_Road_begins
  F_Road_add_point : Fun K "add_point" "Road.add_point" s_Road_add_point t.f_Road_add_point t.d_Road_add_point
  b_Road_add_point : Binds K t.d_Road_add_point ["self", "ground"] []
  m_Road_add_point : Meth K t.C_Road "add_point" t.f_Road_add_point
  F_Road_fix : Fun K "fix" "Road.fix" s_Road_fix t.f_Road_fix t.d_Road_fix
  b_Road_fix : Binds K t.d_Road_fix ["self", "point", "height"] []
  m_Road_fix : Meth K t.C_Road "fix" t.f_Road_fix
  F_Road_free : Fun K "free" "Road.free" s_Road_free t.f_Road_free t.d_Road_free
  b_Road_free : Binds K t.d_Road_free ["self", "point"] []
  m_Road_free : Meth K t.C_Road "free" t.f_Road_free
  F_Road_pit : Fun K "pit" "Road.pit" s_Road_pit t.f_Road_pit t.d_Road_pit
  b_Road_pit : Binds K t.d_Road_pit ["self", "point", "tipping", "fetching"] []
  m_Road_pit : Meth K t.C_Road "pit" t.f_Road_pit
  F_Road_close : Fun K "close" "Road.close" s_Road_close t.f_Road_close t.d_Road_close
  b_Road_close : Binds K t.d_Road_close ["self", "point"] []
  m_Road_close : Meth K t.C_Road "close" t.f_Road_close
  F_Road_take_away : Fun K "take_away" "Road.take_away" s_Road_take_away t.f_Road_take_away t.d_Road_take_away
  b_Road_take_away : Binds K t.d_Road_take_away ["self", "kept", "point"] []
  m_Road_take_away : Meth K t.C_Road "take_away" t.f_Road_take_away
  F_Road_has_point : Fun K "has_point" "Road.has_point" s_Road_has_point t.f_Road_has_point t.d_Road_has_point
  b_Road_has_point : Binds K t.d_Road_has_point ["self", "point"] []
  m_Road_has_point : Meth K t.C_Road "has_point" t.f_Road_has_point
  F_check : Fun K "check" "check" s_check t.f_check t.d_check
  b_check : Binds K t.d_check ["road", "line", "hauls"] []
  m_check : mg "check" = some (.ref t.f_check)
  F_line_allowed : Fun K "line_allowed" "line_allowed" s_line_allowed t.f_line_allowed t.d_line_allowed
  b_line_allowed : Binds K t.d_line_allowed ["road", "line"] []
  m_line_allowed : mg "line_allowed" = some (.ref t.f_line_allowed)
  F_hauls_allowed : Fun K "hauls_allowed" "hauls_allowed" s_hauls_allowed t.f_hauls_allowed t.d_hauls_allowed
  b_hauls_allowed : Binds K t.d_hauls_allowed ["road", "hauls"] []
  m_hauls_allowed : mg "hauls_allowed" = some (.ref t.f_hauls_allowed)
  F_haul_allowed : Fun K "haul_allowed" "haul_allowed" s_haul_allowed t.f_haul_allowed t.d_haul_allowed
  b_haul_allowed : Binds K t.d_haul_allowed ["road", "haul"] []
  m_haul_allowed : mg "haul_allowed" = some (.ref t.f_haul_allowed)
  F_best : Fun K "best" "best" s_best t.f_best t.d_best
  b_best : Binds K t.d_best ["road"] []
  m_best : mg "best" = some (.ref t.f_best)
  F_lines_built : Fun K "lines_built" "lines_built" s_lines_built t.f_lines_built t.d_lines_built
  b_lines_built : Binds K t.d_lines_built ["road"] []
  m_lines_built : mg "lines_built" = some (.ref t.f_lines_built)
  F_longer_ends : Fun K "longer_ends" "longer_ends" s_longer_ends t.f_longer_ends t.d_longer_ends
  b_longer_ends : Binds K t.d_longer_ends ["road", "point", "ends"] []
  m_longer_ends : mg "longer_ends" = some (.ref t.f_longer_ends)
  F_fits_ahead : Fun K "fits_ahead" "fits_ahead" s_fits_ahead t.f_fits_ahead t.d_fits_ahead
  b_fits_ahead : Binds K t.d_fits_ahead ["road", "point", "height", "heights"] []
  m_fits_ahead : mg "fits_ahead" = some (.ref t.f_fits_ahead)
  F_costs_past_the_last : Fun K "costs_past_the_last" "costs_past_the_last" s_costs_past_the_last t.f_costs_past_the_last t.d_costs_past_the_last
  b_costs_past_the_last : Binds K t.d_costs_past_the_last [] []
  m_costs_past_the_last : mg "costs_past_the_last" = some (.ref t.f_costs_past_the_last)
  F_costs_at_point : Fun K "costs_at_point" "costs_at_point" s_costs_at_point t.f_costs_at_point t.d_costs_at_point
  b_costs_at_point : Binds K t.d_costs_at_point ["pit", "costs"] []
  m_costs_at_point : mg "costs_at_point" = some (.ref t.f_costs_at_point)
  F_cheapened : Fun K "cheapened" "cheapened" s_cheapened t.f_cheapened t.d_cheapened
  b_cheapened : Binds K t.d_cheapened ["costs", "price"] []
  m_cheapened : mg "cheapened" = some (.ref t.f_cheapened)
  F_costs_ahead : Fun K "costs_ahead" "costs_ahead" s_costs_ahead t.f_costs_ahead t.d_costs_ahead
  b_costs_ahead : Binds K t.d_costs_ahead ["costs_here", "over"] []
  m_costs_ahead : mg "costs_ahead" = some (.ref t.f_costs_ahead)
  F_earliest_way : Fun K "earliest_way" "earliest_way" s_earliest_way t.f_earliest_way t.d_earliest_way
  b_earliest_way : Binds K t.d_earliest_way ["road", "line"] []
  m_earliest_way : mg "earliest_way" = some (.ref t.f_earliest_way)
  F_costs_along : Fun K "costs_along" "costs_along" s_costs_along t.f_costs_along t.d_costs_along
  b_costs_along : Binds K t.d_costs_along ["road", "over"] []
  m_costs_along : mg "costs_along" = some (.ref t.f_costs_along)
  F_fewest_onwards : Fun K "fewest_onwards" "fewest_onwards" s_fewest_onwards t.f_fewest_onwards t.d_fewest_onwards
  b_fewest_onwards : Binds K t.d_fewest_onwards ["pit", "units", "costs", "least"] []
  m_fewest_onwards : mg "fewest_onwards" = some (.ref t.f_fewest_onwards)
  F_answers : Fun K "answers" "answers" s_answers t.f_answers t.d_answers
  b_answers : Binds K t.d_answers ["calls"] []
  m_answers : mg "answers" = some (.ref t.f_answers)
  F_call_end : Fun K "call_end" "call_end" s_call_end t.f_call_end t.d_call_end
  b_call_end : Binds K t.d_call_end ["calls", "start"] []
  m_call_end : mg "call_end" = some (.ref t.f_call_end)
  F_row_end : Fun K "row_end" "row_end" s_row_end t.f_row_end t.d_row_end
  b_row_end : Binds K t.d_row_end ["numbers", "start"] []
  m_row_end : mg "row_end" = some (.ref t.f_row_end)
  F_answer : Fun K "answer" "answer" s_answer t.f_answer t.d_answer
  b_answer : Binds K t.d_answer ["road", "call", "numbers"] []
  m_answer : mg "answer" = some (.ref t.f_answer)
  F_in_threes : Fun K "in_threes" "in_threes" s_in_threes t.f_in_threes t.d_in_threes
  b_in_threes : Binds K t.d_in_threes ["numbers"] []
  m_in_threes : mg "in_threes" = some (.ref t.f_in_threes)
  g_OTHER_HEIGHT_FIXED : GC mg "OTHER_HEIGHT_FIXED" (.int 1)
  g_TOO_STEEP : GC mg "TOO_STEEP" (.int 2)
  g_BENT_TOO_MUCH : GC mg "BENT_TOO_MUCH" (.int 3)
  g_MOST_STEEP : GC mg "MOST_STEEP" (.int 2)
  g_MOST_BEND : GC mg "MOST_BEND" (.int 4)
  g_MOST_PRICE : GC mg "MOST_PRICE" (.int 100)
  g_MOST_HEIGHT : GC mg "MOST_HEIGHT" (.int 6)
  g_MOST_POINTS : GC mg "MOST_POINTS" (.int 5)
  g_NOT_ALLOWED : GC mg "NOT_ALLOWED" (.int (-1))
  g_NO_SUCH_POINT : GC mg "NO_SUCH_POINT" (.int (-2))
  g_NOTHING_THERE : GC mg "NOTHING_THERE" (.int (-4))
  g_NO_ROOM : GC mg "NO_ROOM" (.int (-5))
  g_MOST_HAULS : GC mg "MOST_HAULS" (.int 20)
  g_MOST_UNITS : GC mg "MOST_UNITS" (.int 1000)
  g_WRONG_LINE : GC mg "WRONG_LINE" (.int (-6))
  g_WRONG_HAULS : GC mg "WRONG_HAULS" (.int (-7))
  g_NO_RIGHT_LINE : GC mg "NO_RIGHT_LINE" (.int (-6))
  g_REACH : GC mg "REACH" (.int 30)
  g_NEVER : GC mg "NEVER" (.int 1000000)
  g_BEGINS : GC mg "BEGINS" (.int 0)
  g_POINT : GC mg "POINT" (.int 1)
  g_FIX : GC mg "FIX" (.int 2)
  g_FREE : GC mg "FREE" (.int 3)
  g_PIT : GC mg "PIT" (.int 4)
  g_CLOSE : GC mg "CLOSE" (.int 5)
  g_BEST : GC mg "BEST" (.int 6)
  g_CHECK : GC mg "CHECK" (.int 7)
  g_NUMBERS_BEHIND : GC mg "NUMBERS_BEHIND" (.ref t.a_NUMBERS_BEHIND)
  D_NUMBERS_BEHIND : DKI K t.a_NUMBERS_BEHIND [(0, 4), (1, 1), (2, 2), (3, 1), (4, 3), (5, 1), (6, 0)]
  n_len : mg "len" = none
  n_range : mg "range" = none
  n_abs : mg "abs" = none
  n_min : mg "min" = none
  n_sum : mg "sum" = none
  n_list : mg "list" = none
  n_reversed : mg "reversed" = none
  n_enumerate : mg "enumerate" = none
  n_zip : mg "zip" = none
  n_all : mg "all" = none
theorem txt_mk {K : PySem.W.Frag} {h : Heap} {mg : Str → Option Value} (X : K.In h) (G : h.Ns mainGlobals mg)
    {C_Road : Addr}
    {f_first_wrong : Addr} {od_first_wrong an_first_wrong : Option Addr} {sl_first_wrong : Array (Option Value)} {oc_first_wrong kV_first_wrong dc_first_wrong pm_first_wrong cd_first_wrong ct_first_wrong : Value}
    {f_fixed_otherwise : Addr} {od_fixed_otherwise an_fixed_otherwise : Option Addr} {sl_fixed_otherwise : Array (Option Value)} {oc_fixed_otherwise kV_fixed_otherwise dc_fixed_otherwise pm_fixed_otherwise cd_fixed_otherwise ct_fixed_otherwise : Value}
    {f_too_steep : Addr} {od_too_steep an_too_steep : Option Addr} {sl_too_steep : Array (Option Value)} {oc_too_steep kV_too_steep dc_too_steep pm_too_steep cd_too_steep ct_too_steep : Value}
    {f_bends_too_much : Addr} {od_bends_too_much an_bends_too_much : Option Addr} {sl_bends_too_much : Array (Option Value)} {oc_bends_too_much kV_bends_too_much dc_bends_too_much pm_bends_too_much cd_bends_too_much ct_bends_too_much : Value}
    {f_units_over : Addr} {od_units_over an_units_over : Option Addr} {sl_units_over : Array (Option Value)} {oc_units_over kV_units_over dc_units_over pm_units_over cd_units_over ct_units_over : Value}
    {f_line_cost : Addr} {od_line_cost an_line_cost : Option Addr} {sl_line_cost : Array (Option Value)} {oc_line_cost kV_line_cost dc_line_cost pm_line_cost cd_line_cost ct_line_cost : Value}
    {f_priced : Addr} {od_priced an_priced : Option Addr} {sl_priced : Array (Option Value)} {oc_priced kV_priced dc_priced pm_priced cd_priced ct_priced : Value}
    {f_units_left : Addr} {od_units_left an_units_left : Option Addr} {sl_units_left : Array (Option Value)} {oc_units_left kV_units_left dc_units_left pm_units_left cd_units_left ct_units_left : Value}
    {f_carrying_cost : Addr} {od_carrying_cost an_carrying_cost : Option Addr} {sl_carrying_cost : Array (Option Value)} {oc_carrying_cost kV_carrying_cost dc_carrying_cost pm_carrying_cost cd_carrying_cost ct_carrying_cost : Value}
    {f_may_be_left : Addr} {od_may_be_left an_may_be_left : Option Addr} {sl_may_be_left : Array (Option Value)} {oc_may_be_left kV_may_be_left dc_may_be_left pm_may_be_left cd_may_be_left ct_may_be_left : Value}
    {f_pit_cost : Addr} {od_pit_cost an_pit_cost : Option Addr} {sl_pit_cost : Array (Option Value)} {oc_pit_cost kV_pit_cost dc_pit_cost pm_pit_cost cd_pit_cost ct_pit_cost : Value}
    {f_Road_init : Addr} {od_Road_init an_Road_init : Option Addr} {sl_Road_init : Array (Option Value)} {oc_Road_init kV_Road_init dc_Road_init pm_Road_init cd_Road_init ct_Road_init : Value}
    {f_Road_begins : Addr} {od_Road_begins an_Road_begins : Option Addr} {sl_Road_begins : Array (Option Value)} {oc_Road_begins kV_Road_begins dc_Road_begins pm_Road_begins cd_Road_begins ct_Road_begins : Value}
    {f_Road_add_point : Addr} {od_Road_add_point an_Road_add_point : Option Addr} {sl_Road_add_point : Array (Option Value)} {oc_Road_add_point kV_Road_add_point dc_Road_add_point pm_Road_add_point cd_Road_add_point ct_Road_add_point : Value}
    {f_Road_fix : Addr} {od_Road_fix an_Road_fix : Option Addr} {sl_Road_fix : Array (Option Value)} {oc_Road_fix kV_Road_fix dc_Road_fix pm_Road_fix cd_Road_fix ct_Road_fix : Value}
    {f_Road_free : Addr} {od_Road_free an_Road_free : Option Addr} {sl_Road_free : Array (Option Value)} {oc_Road_free kV_Road_free dc_Road_free pm_Road_free cd_Road_free ct_Road_free : Value}
    {f_Road_pit : Addr} {od_Road_pit an_Road_pit : Option Addr} {sl_Road_pit : Array (Option Value)} {oc_Road_pit kV_Road_pit dc_Road_pit pm_Road_pit cd_Road_pit ct_Road_pit : Value}
    {f_Road_close : Addr} {od_Road_close an_Road_close : Option Addr} {sl_Road_close : Array (Option Value)} {oc_Road_close kV_Road_close dc_Road_close pm_Road_close cd_Road_close ct_Road_close : Value}
    {f_Road_take_away : Addr} {od_Road_take_away an_Road_take_away : Option Addr} {sl_Road_take_away : Array (Option Value)} {oc_Road_take_away kV_Road_take_away dc_Road_take_away pm_Road_take_away cd_Road_take_away ct_Road_take_away : Value}
    {f_Road_has_point : Addr} {od_Road_has_point an_Road_has_point : Option Addr} {sl_Road_has_point : Array (Option Value)} {oc_Road_has_point kV_Road_has_point dc_Road_has_point pm_Road_has_point cd_Road_has_point ct_Road_has_point : Value}
    {f_check : Addr} {od_check an_check : Option Addr} {sl_check : Array (Option Value)} {oc_check kV_check dc_check pm_check cd_check ct_check : Value}
    {f_line_allowed : Addr} {od_line_allowed an_line_allowed : Option Addr} {sl_line_allowed : Array (Option Value)} {oc_line_allowed kV_line_allowed dc_line_allowed pm_line_allowed cd_line_allowed ct_line_allowed : Value}
    {f_hauls_allowed : Addr} {od_hauls_allowed an_hauls_allowed : Option Addr} {sl_hauls_allowed : Array (Option Value)} {oc_hauls_allowed kV_hauls_allowed dc_hauls_allowed pm_hauls_allowed cd_hauls_allowed ct_hauls_allowed : Value}
    {f_haul_allowed : Addr} {od_haul_allowed an_haul_allowed : Option Addr} {sl_haul_allowed : Array (Option Value)} {oc_haul_allowed kV_haul_allowed dc_haul_allowed pm_haul_allowed cd_haul_allowed ct_haul_allowed : Value}
    {f_best : Addr} {od_best an_best : Option Addr} {sl_best : Array (Option Value)} {oc_best kV_best dc_best pm_best cd_best ct_best : Value}
    {f_lines_built : Addr} {od_lines_built an_lines_built : Option Addr} {sl_lines_built : Array (Option Value)} {oc_lines_built kV_lines_built dc_lines_built pm_lines_built cd_lines_built ct_lines_built : Value}
    {f_longer_ends : Addr} {od_longer_ends an_longer_ends : Option Addr} {sl_longer_ends : Array (Option Value)} {oc_longer_ends kV_longer_ends dc_longer_ends pm_longer_ends cd_longer_ends ct_longer_ends : Value}
    {f_fits_ahead : Addr} {od_fits_ahead an_fits_ahead : Option Addr} {sl_fits_ahead : Array (Option Value)} {oc_fits_ahead kV_fits_ahead dc_fits_ahead pm_fits_ahead cd_fits_ahead ct_fits_ahead : Value}
    {f_costs_past_the_last : Addr} {od_costs_past_the_last an_costs_past_the_last : Option Addr} {sl_costs_past_the_last : Array (Option Value)} {oc_costs_past_the_last kV_costs_past_the_last dc_costs_past_the_last pm_costs_past_the_last cd_costs_past_the_last ct_costs_past_the_last : Value}
    {f_costs_at_point : Addr} {od_costs_at_point an_costs_at_point : Option Addr} {sl_costs_at_point : Array (Option Value)} {oc_costs_at_point kV_costs_at_point dc_costs_at_point pm_costs_at_point cd_costs_at_point ct_costs_at_point : Value}
    {f_cheapened : Addr} {od_cheapened an_cheapened : Option Addr} {sl_cheapened : Array (Option Value)} {oc_cheapened kV_cheapened dc_cheapened pm_cheapened cd_cheapened ct_cheapened : Value}
    {f_costs_ahead : Addr} {od_costs_ahead an_costs_ahead : Option Addr} {sl_costs_ahead : Array (Option Value)} {oc_costs_ahead kV_costs_ahead dc_costs_ahead pm_costs_ahead cd_costs_ahead ct_costs_ahead : Value}
    {f_earliest_way : Addr} {od_earliest_way an_earliest_way : Option Addr} {sl_earliest_way : Array (Option Value)} {oc_earliest_way kV_earliest_way dc_earliest_way pm_earliest_way cd_earliest_way ct_earliest_way : Value}
    {f_costs_along : Addr} {od_costs_along an_costs_along : Option Addr} {sl_costs_along : Array (Option Value)} {oc_costs_along kV_costs_along dc_costs_along pm_costs_along cd_costs_along ct_costs_along : Value}
    {f_fewest_onwards : Addr} {od_fewest_onwards an_fewest_onwards : Option Addr} {sl_fewest_onwards : Array (Option Value)} {oc_fewest_onwards kV_fewest_onwards dc_fewest_onwards pm_fewest_onwards cd_fewest_onwards ct_fewest_onwards : Value}
    {f_answers : Addr} {od_answers an_answers : Option Addr} {sl_answers : Array (Option Value)} {oc_answers kV_answers dc_answers pm_answers cd_answers ct_answers : Value}
    {f_call_end : Addr} {od_call_end an_call_end : Option Addr} {sl_call_end : Array (Option Value)} {oc_call_end kV_call_end dc_call_end pm_call_end cd_call_end ct_call_end : Value}
    {f_row_end : Addr} {od_row_end an_row_end : Option Addr} {sl_row_end : Array (Option Value)} {oc_row_end kV_row_end dc_row_end pm_row_end cd_row_end ct_row_end : Value}
    {f_answer : Addr} {od_answer an_answer : Option Addr} {sl_answer : Array (Option Value)} {oc_answer kV_answer dc_answer pm_answer cd_answer ct_answer : Value}
    {f_in_threes : Addr} {od_in_threes an_in_threes : Option Addr} {sl_in_threes : Array (Option Value)} {oc_in_threes kV_in_threes dc_in_threes pm_in_threes cd_in_threes ct_in_threes : Value}
    {t_OTHER_HEIGHT_FIXED : Tok}
    {t_TOO_STEEP : Tok}
    {t_BENT_TOO_MUCH : Tok}
    {t_MOST_STEEP : Tok}
    {t_MOST_BEND : Tok}
    {t_MOST_PRICE : Tok}
    {t_MOST_HEIGHT : Tok}
    {t_MOST_POINTS : Tok}
    {t_NOT_ALLOWED : Tok}
    {t_NO_SUCH_POINT : Tok}
    {t_NOTHING_THERE : Tok}
    {t_NO_ROOM : Tok}
    {t_MOST_HAULS : Tok}
    {t_MOST_UNITS : Tok}
    {t_WRONG_LINE : Tok}
    {t_WRONG_HAULS : Tok}
    {t_NO_RIGHT_LINE : Tok}
    {t_REACH : Tok}
    {t_NEVER : Tok}
    {t_BEGINS : Tok}
    {t_POINT : Tok}
    {t_FIX : Tok}
    {t_FREE : Tok}
    {t_PIT : Tok}
    {t_CLOSE : Tok}
    {t_BEST : Tok}
    {t_CHECK : Tok}
    {a_NUMBERS_BEHIND : Addr}
    {ep_NUMBERS_BEHIND : Nat} {tk_NUMBERS_BEHIND_0 tv_NUMBERS_BEHIND_0 tk_NUMBERS_BEHIND_1 tv_NUMBERS_BEHIND_1 tk_NUMBERS_BEHIND_2 tv_NUMBERS_BEHIND_2 tk_NUMBERS_BEHIND_3 tv_NUMBERS_BEHIND_3 tk_NUMBERS_BEHIND_4 tv_NUMBERS_BEHIND_4 tk_NUMBERS_BEHIND_5 tv_NUMBERS_BEHIND_5 tk_NUMBERS_BEHIND_6 tv_NUMBERS_BEHIND_6 : Tok}
    (aC_Road : PySem.W.nsIn K mainGlobals "Road" = some (some (.ref C_Road)))
    (a_first_wrong : PySem.W.nsIn K mainGlobals "first_wrong" = some (some (.ref f_first_wrong)))
    (l_first_wrong : K.lookup f_first_wrong = some ⟨oc_first_wrong, od_first_wrong, .func (PySem.W.fnOf "first_wrong" "first_wrong" (defArgs s_first_wrong) (defBody s_first_wrong) (defScope s_first_wrong) .none kV_first_wrong dc_first_wrong pm_first_wrong an_first_wrong cd_first_wrong ct_first_wrong), sl_first_wrong⟩)
    (c_first_wrong : PySem.W.codeIn K cd_first_wrong "first_wrong" = true)
    (k_first_wrong : PySem.W.keepIn K (.ref f_first_wrong) = true)
    (a_fixed_otherwise : PySem.W.nsIn K mainGlobals "fixed_otherwise" = some (some (.ref f_fixed_otherwise)))
    (l_fixed_otherwise : K.lookup f_fixed_otherwise = some ⟨oc_fixed_otherwise, od_fixed_otherwise, .func (PySem.W.fnOf "fixed_otherwise" "fixed_otherwise" (defArgs s_fixed_otherwise) (defBody s_fixed_otherwise) (defScope s_fixed_otherwise) .none kV_fixed_otherwise dc_fixed_otherwise pm_fixed_otherwise an_fixed_otherwise cd_fixed_otherwise ct_fixed_otherwise), sl_fixed_otherwise⟩)
    (c_fixed_otherwise : PySem.W.codeIn K cd_fixed_otherwise "fixed_otherwise" = true)
    (k_fixed_otherwise : PySem.W.keepIn K (.ref f_fixed_otherwise) = true)
    (a_too_steep : PySem.W.nsIn K mainGlobals "too_steep" = some (some (.ref f_too_steep)))
    (l_too_steep : K.lookup f_too_steep = some ⟨oc_too_steep, od_too_steep, .func (PySem.W.fnOf "too_steep" "too_steep" (defArgs s_too_steep) (defBody s_too_steep) (defScope s_too_steep) .none kV_too_steep dc_too_steep pm_too_steep an_too_steep cd_too_steep ct_too_steep), sl_too_steep⟩)
    (c_too_steep : PySem.W.codeIn K cd_too_steep "too_steep" = true)
    (k_too_steep : PySem.W.keepIn K (.ref f_too_steep) = true)
    (a_bends_too_much : PySem.W.nsIn K mainGlobals "bends_too_much" = some (some (.ref f_bends_too_much)))
    (l_bends_too_much : K.lookup f_bends_too_much = some ⟨oc_bends_too_much, od_bends_too_much, .func (PySem.W.fnOf "bends_too_much" "bends_too_much" (defArgs s_bends_too_much) (defBody s_bends_too_much) (defScope s_bends_too_much) .none kV_bends_too_much dc_bends_too_much pm_bends_too_much an_bends_too_much cd_bends_too_much ct_bends_too_much), sl_bends_too_much⟩)
    (c_bends_too_much : PySem.W.codeIn K cd_bends_too_much "bends_too_much" = true)
    (k_bends_too_much : PySem.W.keepIn K (.ref f_bends_too_much) = true)
    (a_units_over : PySem.W.nsIn K mainGlobals "units_over" = some (some (.ref f_units_over)))
    (l_units_over : K.lookup f_units_over = some ⟨oc_units_over, od_units_over, .func (PySem.W.fnOf "units_over" "units_over" (defArgs s_units_over) (defBody s_units_over) (defScope s_units_over) .none kV_units_over dc_units_over pm_units_over an_units_over cd_units_over ct_units_over), sl_units_over⟩)
    (c_units_over : PySem.W.codeIn K cd_units_over "units_over" = true)
    (k_units_over : PySem.W.keepIn K (.ref f_units_over) = true)
    (a_line_cost : PySem.W.nsIn K mainGlobals "line_cost" = some (some (.ref f_line_cost)))
    (l_line_cost : K.lookup f_line_cost = some ⟨oc_line_cost, od_line_cost, .func (PySem.W.fnOf "line_cost" "line_cost" (defArgs s_line_cost) (defBody s_line_cost) (defScope s_line_cost) .none kV_line_cost dc_line_cost pm_line_cost an_line_cost cd_line_cost ct_line_cost), sl_line_cost⟩)
    (c_line_cost : PySem.W.codeIn K cd_line_cost "line_cost" = true)
    (k_line_cost : PySem.W.keepIn K (.ref f_line_cost) = true)
    (a_priced : PySem.W.nsIn K mainGlobals "priced" = some (some (.ref f_priced)))
    (l_priced : K.lookup f_priced = some ⟨oc_priced, od_priced, .func (PySem.W.fnOf "priced" "priced" (defArgs s_priced) (defBody s_priced) (defScope s_priced) .none kV_priced dc_priced pm_priced an_priced cd_priced ct_priced), sl_priced⟩)
    (c_priced : PySem.W.codeIn K cd_priced "priced" = true)
    (k_priced : PySem.W.keepIn K (.ref f_priced) = true)
    (a_units_left : PySem.W.nsIn K mainGlobals "units_left" = some (some (.ref f_units_left)))
    (l_units_left : K.lookup f_units_left = some ⟨oc_units_left, od_units_left, .func (PySem.W.fnOf "units_left" "units_left" (defArgs s_units_left) (defBody s_units_left) (defScope s_units_left) .none kV_units_left dc_units_left pm_units_left an_units_left cd_units_left ct_units_left), sl_units_left⟩)
    (c_units_left : PySem.W.codeIn K cd_units_left "units_left" = true)
    (k_units_left : PySem.W.keepIn K (.ref f_units_left) = true)
    (a_carrying_cost : PySem.W.nsIn K mainGlobals "carrying_cost" = some (some (.ref f_carrying_cost)))
    (l_carrying_cost : K.lookup f_carrying_cost = some ⟨oc_carrying_cost, od_carrying_cost, .func (PySem.W.fnOf "carrying_cost" "carrying_cost" (defArgs s_carrying_cost) (defBody s_carrying_cost) (defScope s_carrying_cost) .none kV_carrying_cost dc_carrying_cost pm_carrying_cost an_carrying_cost cd_carrying_cost ct_carrying_cost), sl_carrying_cost⟩)
    (c_carrying_cost : PySem.W.codeIn K cd_carrying_cost "carrying_cost" = true)
    (k_carrying_cost : PySem.W.keepIn K (.ref f_carrying_cost) = true)
    (a_may_be_left : PySem.W.nsIn K mainGlobals "may_be_left" = some (some (.ref f_may_be_left)))
    (l_may_be_left : K.lookup f_may_be_left = some ⟨oc_may_be_left, od_may_be_left, .func (PySem.W.fnOf "may_be_left" "may_be_left" (defArgs s_may_be_left) (defBody s_may_be_left) (defScope s_may_be_left) .none kV_may_be_left dc_may_be_left pm_may_be_left an_may_be_left cd_may_be_left ct_may_be_left), sl_may_be_left⟩)
    (c_may_be_left : PySem.W.codeIn K cd_may_be_left "may_be_left" = true)
    (k_may_be_left : PySem.W.keepIn K (.ref f_may_be_left) = true)
    (a_pit_cost : PySem.W.nsIn K mainGlobals "pit_cost" = some (some (.ref f_pit_cost)))
    (l_pit_cost : K.lookup f_pit_cost = some ⟨oc_pit_cost, od_pit_cost, .func (PySem.W.fnOf "pit_cost" "pit_cost" (defArgs s_pit_cost) (defBody s_pit_cost) (defScope s_pit_cost) .none kV_pit_cost dc_pit_cost pm_pit_cost an_pit_cost cd_pit_cost ct_pit_cost), sl_pit_cost⟩)
    (c_pit_cost : PySem.W.codeIn K cd_pit_cost "pit_cost" = true)
    (k_pit_cost : PySem.W.keepIn K (.ref f_pit_cost) = true)
    (a_Road_init : PySem.W.findIn K (.ref C_Road) "__init__" = some (some (.ref f_Road_init)))
    (i_Road_init : PySem.W.isFn K (.ref f_Road_init) = true)
    (l_Road_init : K.lookup f_Road_init = some ⟨oc_Road_init, od_Road_init, .func (PySem.W.fnOf "__init__" "Road.__init__" (defArgs s_Road_init) (defBody s_Road_init) (defScope s_Road_init) .none kV_Road_init dc_Road_init pm_Road_init an_Road_init cd_Road_init ct_Road_init), sl_Road_init⟩)
    (c_Road_init : PySem.W.codeIn K cd_Road_init "Road.__init__" = true)
    (k_Road_init : PySem.W.keepIn K (.ref f_Road_init) = true)
    (a_Road_begins : PySem.W.findIn K (.ref C_Road) "begins" = some (some (.ref f_Road_begins)))
    (i_Road_begins : PySem.W.isFn K (.ref f_Road_begins) = true)
    (l_Road_begins : K.lookup f_Road_begins = some ⟨oc_Road_begins, od_Road_begins, .func (PySem.W.fnOf "begins" "Road.begins" (defArgs s_Road_begins) (defBody s_Road_begins) (defScope s_Road_begins) .none kV_Road_begins dc_Road_begins pm_Road_begins an_Road_begins cd_Road_begins ct_Road_begins), sl_Road_begins⟩)
    (c_Road_begins : PySem.W.codeIn K cd_Road_begins "Road.begins" = true)
    (k_Road_begins : PySem.W.keepIn K (.ref f_Road_begins) = true)
    (a_Road_add_point : PySem.W.findIn K (.ref C_Road) "add_point" = some (some (.ref f_Road_add_point)))
    (i_Road_add_point : PySem.W.isFn K (.ref f_Road_add_point) = true)
    (l_Road_add_point : K.lookup f_Road_add_point = some ⟨oc_Road_add_point, od_Road_add_point, .func (PySem.W.fnOf "add_point" "Road.add_point" (defArgs s_Road_add_point) (defBody s_Road_add_point) (defScope s_Road_add_point) .none kV_Road_add_point dc_Road_add_point pm_Road_add_point an_Road_add_point cd_Road_add_point ct_Road_add_point), sl_Road_add_point⟩)
    (c_Road_add_point : PySem.W.codeIn K cd_Road_add_point "Road.add_point" = true)
    (k_Road_add_point : PySem.W.keepIn K (.ref f_Road_add_point) = true)
    (a_Road_fix : PySem.W.findIn K (.ref C_Road) "fix" = some (some (.ref f_Road_fix)))
    (i_Road_fix : PySem.W.isFn K (.ref f_Road_fix) = true)
    (l_Road_fix : K.lookup f_Road_fix = some ⟨oc_Road_fix, od_Road_fix, .func (PySem.W.fnOf "fix" "Road.fix" (defArgs s_Road_fix) (defBody s_Road_fix) (defScope s_Road_fix) .none kV_Road_fix dc_Road_fix pm_Road_fix an_Road_fix cd_Road_fix ct_Road_fix), sl_Road_fix⟩)
    (c_Road_fix : PySem.W.codeIn K cd_Road_fix "Road.fix" = true)
    (k_Road_fix : PySem.W.keepIn K (.ref f_Road_fix) = true)
    (a_Road_free : PySem.W.findIn K (.ref C_Road) "free" = some (some (.ref f_Road_free)))
    (i_Road_free : PySem.W.isFn K (.ref f_Road_free) = true)
    (l_Road_free : K.lookup f_Road_free = some ⟨oc_Road_free, od_Road_free, .func (PySem.W.fnOf "free" "Road.free" (defArgs s_Road_free) (defBody s_Road_free) (defScope s_Road_free) .none kV_Road_free dc_Road_free pm_Road_free an_Road_free cd_Road_free ct_Road_free), sl_Road_free⟩)
    (c_Road_free : PySem.W.codeIn K cd_Road_free "Road.free" = true)
    (k_Road_free : PySem.W.keepIn K (.ref f_Road_free) = true)
    (a_Road_pit : PySem.W.findIn K (.ref C_Road) "pit" = some (some (.ref f_Road_pit)))
    (i_Road_pit : PySem.W.isFn K (.ref f_Road_pit) = true)
    (l_Road_pit : K.lookup f_Road_pit = some ⟨oc_Road_pit, od_Road_pit, .func (PySem.W.fnOf "pit" "Road.pit" (defArgs s_Road_pit) (defBody s_Road_pit) (defScope s_Road_pit) .none kV_Road_pit dc_Road_pit pm_Road_pit an_Road_pit cd_Road_pit ct_Road_pit), sl_Road_pit⟩)
    (c_Road_pit : PySem.W.codeIn K cd_Road_pit "Road.pit" = true)
    (k_Road_pit : PySem.W.keepIn K (.ref f_Road_pit) = true)
    (a_Road_close : PySem.W.findIn K (.ref C_Road) "close" = some (some (.ref f_Road_close)))
    (i_Road_close : PySem.W.isFn K (.ref f_Road_close) = true)
    (l_Road_close : K.lookup f_Road_close = some ⟨oc_Road_close, od_Road_close, .func (PySem.W.fnOf "close" "Road.close" (defArgs s_Road_close) (defBody s_Road_close) (defScope s_Road_close) .none kV_Road_close dc_Road_close pm_Road_close an_Road_close cd_Road_close ct_Road_close), sl_Road_close⟩)
    (c_Road_close : PySem.W.codeIn K cd_Road_close "Road.close" = true)
    (k_Road_close : PySem.W.keepIn K (.ref f_Road_close) = true)
    (a_Road_take_away : PySem.W.findIn K (.ref C_Road) "take_away" = some (some (.ref f_Road_take_away)))
    (i_Road_take_away : PySem.W.isFn K (.ref f_Road_take_away) = true)
    (l_Road_take_away : K.lookup f_Road_take_away = some ⟨oc_Road_take_away, od_Road_take_away, .func (PySem.W.fnOf "take_away" "Road.take_away" (defArgs s_Road_take_away) (defBody s_Road_take_away) (defScope s_Road_take_away) .none kV_Road_take_away dc_Road_take_away pm_Road_take_away an_Road_take_away cd_Road_take_away ct_Road_take_away), sl_Road_take_away⟩)
    (c_Road_take_away : PySem.W.codeIn K cd_Road_take_away "Road.take_away" = true)
    (k_Road_take_away : PySem.W.keepIn K (.ref f_Road_take_away) = true)
    (a_Road_has_point : PySem.W.findIn K (.ref C_Road) "has_point" = some (some (.ref f_Road_has_point)))
    (i_Road_has_point : PySem.W.isFn K (.ref f_Road_has_point) = true)
    (l_Road_has_point : K.lookup f_Road_has_point = some ⟨oc_Road_has_point, od_Road_has_point, .func (PySem.W.fnOf "has_point" "Road.has_point" (defArgs s_Road_has_point) (defBody s_Road_has_point) (defScope s_Road_has_point) .none kV_Road_has_point dc_Road_has_point pm_Road_has_point an_Road_has_point cd_Road_has_point ct_Road_has_point), sl_Road_has_point⟩)
    (c_Road_has_point : PySem.W.codeIn K cd_Road_has_point "Road.has_point" = true)
    (k_Road_has_point : PySem.W.keepIn K (.ref f_Road_has_point) = true)
    (a_check : PySem.W.nsIn K mainGlobals "check" = some (some (.ref f_check)))
    (l_check : K.lookup f_check = some ⟨oc_check, od_check, .func (PySem.W.fnOf "check" "check" (defArgs s_check) (defBody s_check) (defScope s_check) .none kV_check dc_check pm_check an_check cd_check ct_check), sl_check⟩)
    (c_check : PySem.W.codeIn K cd_check "check" = true)
    (k_check : PySem.W.keepIn K (.ref f_check) = true)
    (a_line_allowed : PySem.W.nsIn K mainGlobals "line_allowed" = some (some (.ref f_line_allowed)))
    (l_line_allowed : K.lookup f_line_allowed = some ⟨oc_line_allowed, od_line_allowed, .func (PySem.W.fnOf "line_allowed" "line_allowed" (defArgs s_line_allowed) (defBody s_line_allowed) (defScope s_line_allowed) .none kV_line_allowed dc_line_allowed pm_line_allowed an_line_allowed cd_line_allowed ct_line_allowed), sl_line_allowed⟩)
    (c_line_allowed : PySem.W.codeIn K cd_line_allowed "line_allowed" = true)
    (k_line_allowed : PySem.W.keepIn K (.ref f_line_allowed) = true)
    (a_hauls_allowed : PySem.W.nsIn K mainGlobals "hauls_allowed" = some (some (.ref f_hauls_allowed)))
    (l_hauls_allowed : K.lookup f_hauls_allowed = some ⟨oc_hauls_allowed, od_hauls_allowed, .func (PySem.W.fnOf "hauls_allowed" "hauls_allowed" (defArgs s_hauls_allowed) (defBody s_hauls_allowed) (defScope s_hauls_allowed) .none kV_hauls_allowed dc_hauls_allowed pm_hauls_allowed an_hauls_allowed cd_hauls_allowed ct_hauls_allowed), sl_hauls_allowed⟩)
    (c_hauls_allowed : PySem.W.codeIn K cd_hauls_allowed "hauls_allowed" = true)
    (k_hauls_allowed : PySem.W.keepIn K (.ref f_hauls_allowed) = true)
    (a_haul_allowed : PySem.W.nsIn K mainGlobals "haul_allowed" = some (some (.ref f_haul_allowed)))
    (l_haul_allowed : K.lookup f_haul_allowed = some ⟨oc_haul_allowed, od_haul_allowed, .func (PySem.W.fnOf "haul_allowed" "haul_allowed" (defArgs s_haul_allowed) (defBody s_haul_allowed) (defScope s_haul_allowed) .none kV_haul_allowed dc_haul_allowed pm_haul_allowed an_haul_allowed cd_haul_allowed ct_haul_allowed), sl_haul_allowed⟩)
    (c_haul_allowed : PySem.W.codeIn K cd_haul_allowed "haul_allowed" = true)
    (k_haul_allowed : PySem.W.keepIn K (.ref f_haul_allowed) = true)
    (a_best : PySem.W.nsIn K mainGlobals "best" = some (some (.ref f_best)))
    (l_best : K.lookup f_best = some ⟨oc_best, od_best, .func (PySem.W.fnOf "best" "best" (defArgs s_best) (defBody s_best) (defScope s_best) .none kV_best dc_best pm_best an_best cd_best ct_best), sl_best⟩)
    (c_best : PySem.W.codeIn K cd_best "best" = true)
    (k_best : PySem.W.keepIn K (.ref f_best) = true)
    (a_lines_built : PySem.W.nsIn K mainGlobals "lines_built" = some (some (.ref f_lines_built)))
    (l_lines_built : K.lookup f_lines_built = some ⟨oc_lines_built, od_lines_built, .func (PySem.W.fnOf "lines_built" "lines_built" (defArgs s_lines_built) (defBody s_lines_built) (defScope s_lines_built) .none kV_lines_built dc_lines_built pm_lines_built an_lines_built cd_lines_built ct_lines_built), sl_lines_built⟩)
    (c_lines_built : PySem.W.codeIn K cd_lines_built "lines_built" = true)
    (k_lines_built : PySem.W.keepIn K (.ref f_lines_built) = true)
    (a_longer_ends : PySem.W.nsIn K mainGlobals "longer_ends" = some (some (.ref f_longer_ends)))
    (l_longer_ends : K.lookup f_longer_ends = some ⟨oc_longer_ends, od_longer_ends, .func (PySem.W.fnOf "longer_ends" "longer_ends" (defArgs s_longer_ends) (defBody s_longer_ends) (defScope s_longer_ends) .none kV_longer_ends dc_longer_ends pm_longer_ends an_longer_ends cd_longer_ends ct_longer_ends), sl_longer_ends⟩)
    (c_longer_ends : PySem.W.codeIn K cd_longer_ends "longer_ends" = true)
    (k_longer_ends : PySem.W.keepIn K (.ref f_longer_ends) = true)
    (a_fits_ahead : PySem.W.nsIn K mainGlobals "fits_ahead" = some (some (.ref f_fits_ahead)))
    (l_fits_ahead : K.lookup f_fits_ahead = some ⟨oc_fits_ahead, od_fits_ahead, .func (PySem.W.fnOf "fits_ahead" "fits_ahead" (defArgs s_fits_ahead) (defBody s_fits_ahead) (defScope s_fits_ahead) .none kV_fits_ahead dc_fits_ahead pm_fits_ahead an_fits_ahead cd_fits_ahead ct_fits_ahead), sl_fits_ahead⟩)
    (c_fits_ahead : PySem.W.codeIn K cd_fits_ahead "fits_ahead" = true)
    (k_fits_ahead : PySem.W.keepIn K (.ref f_fits_ahead) = true)
    (a_costs_past_the_last : PySem.W.nsIn K mainGlobals "costs_past_the_last" = some (some (.ref f_costs_past_the_last)))
    (l_costs_past_the_last : K.lookup f_costs_past_the_last = some ⟨oc_costs_past_the_last, od_costs_past_the_last, .func (PySem.W.fnOf "costs_past_the_last" "costs_past_the_last" (defArgs s_costs_past_the_last) (defBody s_costs_past_the_last) (defScope s_costs_past_the_last) .none kV_costs_past_the_last dc_costs_past_the_last pm_costs_past_the_last an_costs_past_the_last cd_costs_past_the_last ct_costs_past_the_last), sl_costs_past_the_last⟩)
    (c_costs_past_the_last : PySem.W.codeIn K cd_costs_past_the_last "costs_past_the_last" = true)
    (k_costs_past_the_last : PySem.W.keepIn K (.ref f_costs_past_the_last) = true)
    (a_costs_at_point : PySem.W.nsIn K mainGlobals "costs_at_point" = some (some (.ref f_costs_at_point)))
    (l_costs_at_point : K.lookup f_costs_at_point = some ⟨oc_costs_at_point, od_costs_at_point, .func (PySem.W.fnOf "costs_at_point" "costs_at_point" (defArgs s_costs_at_point) (defBody s_costs_at_point) (defScope s_costs_at_point) .none kV_costs_at_point dc_costs_at_point pm_costs_at_point an_costs_at_point cd_costs_at_point ct_costs_at_point), sl_costs_at_point⟩)
    (c_costs_at_point : PySem.W.codeIn K cd_costs_at_point "costs_at_point" = true)
    (k_costs_at_point : PySem.W.keepIn K (.ref f_costs_at_point) = true)
    (a_cheapened : PySem.W.nsIn K mainGlobals "cheapened" = some (some (.ref f_cheapened)))
    (l_cheapened : K.lookup f_cheapened = some ⟨oc_cheapened, od_cheapened, .func (PySem.W.fnOf "cheapened" "cheapened" (defArgs s_cheapened) (defBody s_cheapened) (defScope s_cheapened) .none kV_cheapened dc_cheapened pm_cheapened an_cheapened cd_cheapened ct_cheapened), sl_cheapened⟩)
    (c_cheapened : PySem.W.codeIn K cd_cheapened "cheapened" = true)
    (k_cheapened : PySem.W.keepIn K (.ref f_cheapened) = true)
    (a_costs_ahead : PySem.W.nsIn K mainGlobals "costs_ahead" = some (some (.ref f_costs_ahead)))
    (l_costs_ahead : K.lookup f_costs_ahead = some ⟨oc_costs_ahead, od_costs_ahead, .func (PySem.W.fnOf "costs_ahead" "costs_ahead" (defArgs s_costs_ahead) (defBody s_costs_ahead) (defScope s_costs_ahead) .none kV_costs_ahead dc_costs_ahead pm_costs_ahead an_costs_ahead cd_costs_ahead ct_costs_ahead), sl_costs_ahead⟩)
    (c_costs_ahead : PySem.W.codeIn K cd_costs_ahead "costs_ahead" = true)
    (k_costs_ahead : PySem.W.keepIn K (.ref f_costs_ahead) = true)
    (a_earliest_way : PySem.W.nsIn K mainGlobals "earliest_way" = some (some (.ref f_earliest_way)))
    (l_earliest_way : K.lookup f_earliest_way = some ⟨oc_earliest_way, od_earliest_way, .func (PySem.W.fnOf "earliest_way" "earliest_way" (defArgs s_earliest_way) (defBody s_earliest_way) (defScope s_earliest_way) .none kV_earliest_way dc_earliest_way pm_earliest_way an_earliest_way cd_earliest_way ct_earliest_way), sl_earliest_way⟩)
    (c_earliest_way : PySem.W.codeIn K cd_earliest_way "earliest_way" = true)
    (k_earliest_way : PySem.W.keepIn K (.ref f_earliest_way) = true)
    (a_costs_along : PySem.W.nsIn K mainGlobals "costs_along" = some (some (.ref f_costs_along)))
    (l_costs_along : K.lookup f_costs_along = some ⟨oc_costs_along, od_costs_along, .func (PySem.W.fnOf "costs_along" "costs_along" (defArgs s_costs_along) (defBody s_costs_along) (defScope s_costs_along) .none kV_costs_along dc_costs_along pm_costs_along an_costs_along cd_costs_along ct_costs_along), sl_costs_along⟩)
    (c_costs_along : PySem.W.codeIn K cd_costs_along "costs_along" = true)
    (k_costs_along : PySem.W.keepIn K (.ref f_costs_along) = true)
    (a_fewest_onwards : PySem.W.nsIn K mainGlobals "fewest_onwards" = some (some (.ref f_fewest_onwards)))
    (l_fewest_onwards : K.lookup f_fewest_onwards = some ⟨oc_fewest_onwards, od_fewest_onwards, .func (PySem.W.fnOf "fewest_onwards" "fewest_onwards" (defArgs s_fewest_onwards) (defBody s_fewest_onwards) (defScope s_fewest_onwards) .none kV_fewest_onwards dc_fewest_onwards pm_fewest_onwards an_fewest_onwards cd_fewest_onwards ct_fewest_onwards), sl_fewest_onwards⟩)
    (c_fewest_onwards : PySem.W.codeIn K cd_fewest_onwards "fewest_onwards" = true)
    (k_fewest_onwards : PySem.W.keepIn K (.ref f_fewest_onwards) = true)
    (a_answers : PySem.W.nsIn K mainGlobals "answers" = some (some (.ref f_answers)))
    (l_answers : K.lookup f_answers = some ⟨oc_answers, od_answers, .func (PySem.W.fnOf "answers" "answers" (defArgs s_answers) (defBody s_answers) (defScope s_answers) .none kV_answers dc_answers pm_answers an_answers cd_answers ct_answers), sl_answers⟩)
    (c_answers : PySem.W.codeIn K cd_answers "answers" = true)
    (k_answers : PySem.W.keepIn K (.ref f_answers) = true)
    (a_call_end : PySem.W.nsIn K mainGlobals "call_end" = some (some (.ref f_call_end)))
    (l_call_end : K.lookup f_call_end = some ⟨oc_call_end, od_call_end, .func (PySem.W.fnOf "call_end" "call_end" (defArgs s_call_end) (defBody s_call_end) (defScope s_call_end) .none kV_call_end dc_call_end pm_call_end an_call_end cd_call_end ct_call_end), sl_call_end⟩)
    (c_call_end : PySem.W.codeIn K cd_call_end "call_end" = true)
    (k_call_end : PySem.W.keepIn K (.ref f_call_end) = true)
    (a_row_end : PySem.W.nsIn K mainGlobals "row_end" = some (some (.ref f_row_end)))
    (l_row_end : K.lookup f_row_end = some ⟨oc_row_end, od_row_end, .func (PySem.W.fnOf "row_end" "row_end" (defArgs s_row_end) (defBody s_row_end) (defScope s_row_end) .none kV_row_end dc_row_end pm_row_end an_row_end cd_row_end ct_row_end), sl_row_end⟩)
    (c_row_end : PySem.W.codeIn K cd_row_end "row_end" = true)
    (k_row_end : PySem.W.keepIn K (.ref f_row_end) = true)
    (a_answer : PySem.W.nsIn K mainGlobals "answer" = some (some (.ref f_answer)))
    (l_answer : K.lookup f_answer = some ⟨oc_answer, od_answer, .func (PySem.W.fnOf "answer" "answer" (defArgs s_answer) (defBody s_answer) (defScope s_answer) .none kV_answer dc_answer pm_answer an_answer cd_answer ct_answer), sl_answer⟩)
    (c_answer : PySem.W.codeIn K cd_answer "answer" = true)
    (k_answer : PySem.W.keepIn K (.ref f_answer) = true)
    (a_in_threes : PySem.W.nsIn K mainGlobals "in_threes" = some (some (.ref f_in_threes)))
    (l_in_threes : K.lookup f_in_threes = some ⟨oc_in_threes, od_in_threes, .func (PySem.W.fnOf "in_threes" "in_threes" (defArgs s_in_threes) (defBody s_in_threes) (defScope s_in_threes) .none kV_in_threes dc_in_threes pm_in_threes an_in_threes cd_in_threes ct_in_threes), sl_in_threes⟩)
    (c_in_threes : PySem.W.codeIn K cd_in_threes "in_threes" = true)
    (k_in_threes : PySem.W.keepIn K (.ref f_in_threes) = true)
    (pg_Road : PySem.W.plainGet K C_Road Str.empty = true)
    (hd_Road : PySem.W.hasDictIn K C_Road = true)
    (po_Road : PySem.W.plainOver K C_Road = true)
    (sa_Road : PySem.W.findIn K (.ref C_Road) "__setattr__" = some (some (.builtin "object.__setattr__")))
    (mk_Road : PySem.W.makesIn K C_Road = true)
    (kc_Road : PySem.W.keepIn K (.ref C_Road) = true)
    (n_Road_steep : PySem.W.findIn K (.ref C_Road) "steep" = some none)
    (n_Road_bend : PySem.W.findIn K (.ref C_Road) "bend" = some none)
    (n_Road_dig : PySem.W.findIn K (.ref C_Road) "dig" = some none)
    (n_Road_fill : PySem.W.findIn K (.ref C_Road) "fill" = some none)
    (n_Road_grounds : PySem.W.findIn K (.ref C_Road) "grounds" = some none)
    (n_Road_fixed : PySem.W.findIn K (.ref C_Road) "fixed" = some none)
    (n_Road_pits : PySem.W.findIn K (.ref C_Road) "pits" = some none)
    (g_OTHER_HEIGHT_FIXED : PySem.W.nsIn K mainGlobals "OTHER_HEIGHT_FIXED" = some (some (.int (1) t_OTHER_HEIGHT_FIXED)))
    (g_TOO_STEEP : PySem.W.nsIn K mainGlobals "TOO_STEEP" = some (some (.int (2) t_TOO_STEEP)))
    (g_BENT_TOO_MUCH : PySem.W.nsIn K mainGlobals "BENT_TOO_MUCH" = some (some (.int (3) t_BENT_TOO_MUCH)))
    (g_MOST_STEEP : PySem.W.nsIn K mainGlobals "MOST_STEEP" = some (some (.int (2) t_MOST_STEEP)))
    (g_MOST_BEND : PySem.W.nsIn K mainGlobals "MOST_BEND" = some (some (.int (4) t_MOST_BEND)))
    (g_MOST_PRICE : PySem.W.nsIn K mainGlobals "MOST_PRICE" = some (some (.int (100) t_MOST_PRICE)))
    (g_MOST_HEIGHT : PySem.W.nsIn K mainGlobals "MOST_HEIGHT" = some (some (.int (6) t_MOST_HEIGHT)))
    (g_MOST_POINTS : PySem.W.nsIn K mainGlobals "MOST_POINTS" = some (some (.int (5) t_MOST_POINTS)))
    (g_NOT_ALLOWED : PySem.W.nsIn K mainGlobals "NOT_ALLOWED" = some (some (.int (-1) t_NOT_ALLOWED)))
    (g_NO_SUCH_POINT : PySem.W.nsIn K mainGlobals "NO_SUCH_POINT" = some (some (.int (-2) t_NO_SUCH_POINT)))
    (g_NOTHING_THERE : PySem.W.nsIn K mainGlobals "NOTHING_THERE" = some (some (.int (-4) t_NOTHING_THERE)))
    (g_NO_ROOM : PySem.W.nsIn K mainGlobals "NO_ROOM" = some (some (.int (-5) t_NO_ROOM)))
    (g_MOST_HAULS : PySem.W.nsIn K mainGlobals "MOST_HAULS" = some (some (.int (20) t_MOST_HAULS)))
    (g_MOST_UNITS : PySem.W.nsIn K mainGlobals "MOST_UNITS" = some (some (.int (1000) t_MOST_UNITS)))
    (g_WRONG_LINE : PySem.W.nsIn K mainGlobals "WRONG_LINE" = some (some (.int (-6) t_WRONG_LINE)))
    (g_WRONG_HAULS : PySem.W.nsIn K mainGlobals "WRONG_HAULS" = some (some (.int (-7) t_WRONG_HAULS)))
    (g_NO_RIGHT_LINE : PySem.W.nsIn K mainGlobals "NO_RIGHT_LINE" = some (some (.int (-6) t_NO_RIGHT_LINE)))
    (g_REACH : PySem.W.nsIn K mainGlobals "REACH" = some (some (.int (30) t_REACH)))
    (g_NEVER : PySem.W.nsIn K mainGlobals "NEVER" = some (some (.int (1000000) t_NEVER)))
    (g_BEGINS : PySem.W.nsIn K mainGlobals "BEGINS" = some (some (.int (0) t_BEGINS)))
    (g_POINT : PySem.W.nsIn K mainGlobals "POINT" = some (some (.int (1) t_POINT)))
    (g_FIX : PySem.W.nsIn K mainGlobals "FIX" = some (some (.int (2) t_FIX)))
    (g_FREE : PySem.W.nsIn K mainGlobals "FREE" = some (some (.int (3) t_FREE)))
    (g_PIT : PySem.W.nsIn K mainGlobals "PIT" = some (some (.int (4) t_PIT)))
    (g_CLOSE : PySem.W.nsIn K mainGlobals "CLOSE" = some (some (.int (5) t_CLOSE)))
    (g_BEST : PySem.W.nsIn K mainGlobals "BEST" = some (some (.int (6) t_BEST)))
    (g_CHECK : PySem.W.nsIn K mainGlobals "CHECK" = some (some (.int (7) t_CHECK)))
    (g_NUMBERS_BEHIND : PySem.W.nsIn K mainGlobals "NUMBERS_BEHIND" = some (some (.ref a_NUMBERS_BEHIND)))
    (l_NUMBERS_BEHIND : K.lookup a_NUMBERS_BEHIND = some ⟨.type "dict", none, .dict #[⟨0, .int 0 tk_NUMBERS_BEHIND_0, .int 4 tv_NUMBERS_BEHIND_0⟩, ⟨1, .int 1 tk_NUMBERS_BEHIND_1, .int 1 tv_NUMBERS_BEHIND_1⟩, ⟨2, .int 2 tk_NUMBERS_BEHIND_2, .int 2 tv_NUMBERS_BEHIND_2⟩, ⟨3, .int 3 tk_NUMBERS_BEHIND_3, .int 1 tv_NUMBERS_BEHIND_3⟩, ⟨4, .int 4 tk_NUMBERS_BEHIND_4, .int 3 tv_NUMBERS_BEHIND_4⟩, ⟨5, .int 5 tk_NUMBERS_BEHIND_5, .int 1 tv_NUMBERS_BEHIND_5⟩, ⟨6, .int 6 tk_NUMBERS_BEHIND_6, .int 0 tv_NUMBERS_BEHIND_6⟩] ep_NUMBERS_BEHIND, #[]⟩)
    (n_len : PySem.W.nsIn K mainGlobals "len" = some none)
    (n_range : PySem.W.nsIn K mainGlobals "range" = some none)
    (n_abs : PySem.W.nsIn K mainGlobals "abs" = some none)
    (n_min : PySem.W.nsIn K mainGlobals "min" = some none)
    (n_sum : PySem.W.nsIn K mainGlobals "sum" = some none)
    (n_list : PySem.W.nsIn K mainGlobals "list" = some none)
    (n_reversed : PySem.W.nsIn K mainGlobals "reversed" = some none)
    (n_enumerate : PySem.W.nsIn K mainGlobals "enumerate" = some none)
    (n_zip : PySem.W.nsIn K mainGlobals "zip" = some none)
    (n_all : PySem.W.nsIn K mainGlobals "all" = some none)
    : ∃ t : Adr, Txt K mg t ∧ ∀ (s : Shared) (us : List Value), us.length = (["calls"] : List Str).length → BindsTo s t.d_answers ⟨us, []⟩ ((["calls"] : List Str).zip us) := by
  have F_first_wrong := fun_mk (st := s_first_wrong) l_first_wrong c_first_wrong k_first_wrong
  have b_first_wrong := F_first_wrong.binds (ps := ["road", "line"]) fun _ _ _ _ _ _ us hl => by obtain ⟨u0, u1, rfl⟩ := us2 hl; rfl
  have F_fixed_otherwise := fun_mk (st := s_fixed_otherwise) l_fixed_otherwise c_fixed_otherwise k_fixed_otherwise
  have b_fixed_otherwise := F_fixed_otherwise.binds (ps := ["road", "point", "height"]) fun _ _ _ _ _ _ us hl => by obtain ⟨u0, u1, u2, rfl⟩ := us3 hl; rfl
  have F_too_steep := fun_mk (st := s_too_steep) l_too_steep c_too_steep k_too_steep
  have b_too_steep := F_too_steep.binds (ps := ["road", "height", "next_height"]) fun _ _ _ _ _ _ us hl => by obtain ⟨u0, u1, u2, rfl⟩ := us3 hl; rfl
  have F_bends_too_much := fun_mk (st := s_bends_too_much) l_bends_too_much c_bends_too_much k_bends_too_much
  have b_bends_too_much := F_bends_too_much.binds (ps := ["road", "height_before", "height", "next_height"]) fun _ _ _ _ _ _ us hl => by obtain ⟨u0, u1, u2, u3, rfl⟩ := us4 hl; rfl
  have F_units_over := fun_mk (st := s_units_over) l_units_over c_units_over k_units_over
  have b_units_over := F_units_over.binds (ps := ["road", "line"]) fun _ _ _ _ _ _ us hl => by obtain ⟨u0, u1, rfl⟩ := us2 hl; rfl
  have F_line_cost := fun_mk (st := s_line_cost) l_line_cost c_line_cost k_line_cost
  have b_line_cost := F_line_cost.binds (ps := ["road", "line"]) fun _ _ _ _ _ _ us hl => by obtain ⟨u0, u1, rfl⟩ := us2 hl; rfl
  have F_priced := fun_mk (st := s_priced) l_priced c_priced k_priced
  have b_priced := F_priced.binds (ps := ["units", "above", "below"]) fun _ _ _ _ _ _ us hl => by obtain ⟨u0, u1, u2, rfl⟩ := us3 hl; rfl
  have F_units_left := fun_mk (st := s_units_left) l_units_left c_units_left k_units_left
  have b_units_left := F_units_left.binds (ps := ["road", "line", "hauls"]) fun _ _ _ _ _ _ us hl => by obtain ⟨u0, u1, u2, rfl⟩ := us3 hl; rfl
  have F_carrying_cost := fun_mk (st := s_carrying_cost) l_carrying_cost c_carrying_cost k_carrying_cost
  have b_carrying_cost := F_carrying_cost.binds (ps := ["hauls"]) fun _ _ _ _ _ _ us hl => by obtain ⟨u0, rfl⟩ := us1 hl; rfl
  have F_may_be_left := fun_mk (st := s_may_be_left) l_may_be_left c_may_be_left k_may_be_left
  have b_may_be_left := F_may_be_left.binds (ps := ["pit", "left"]) fun _ _ _ _ _ _ us hl => by obtain ⟨u0, u1, rfl⟩ := us2 hl; rfl
  have F_pit_cost := fun_mk (st := s_pit_cost) l_pit_cost c_pit_cost k_pit_cost
  have b_pit_cost := F_pit_cost.binds (ps := ["pit", "left"]) fun _ _ _ _ _ _ us hl => by obtain ⟨u0, u1, rfl⟩ := us2 hl; rfl
  have F_Road_init := fun_mk (st := s_Road_init) l_Road_init c_Road_init k_Road_init
  have b_Road_init := F_Road_init.binds (ps := ["self"]) fun _ _ _ _ _ _ us hl => by obtain ⟨u0, rfl⟩ := us1 hl; rfl
  have F_Road_begins := fun_mk (st := s_Road_begins) l_Road_begins c_Road_begins k_Road_begins
  have b_Road_begins := F_Road_begins.binds (ps := ["self", "steep", "bend", "dig", "fill"]) fun _ _ _ _ _ _ us hl => by obtain ⟨u0, u1, u2, u3, u4, rfl⟩ := us5 hl; rfl
  have F_Road_add_point := fun_mk (st := s_Road_add_point) l_Road_add_point c_Road_add_point k_Road_add_point
  have b_Road_add_point := F_Road_add_point.binds (ps := ["self", "ground"]) fun _ _ _ _ _ _ us hl => by obtain ⟨u0, u1, rfl⟩ := us2 hl; rfl
  have F_Road_fix := fun_mk (st := s_Road_fix) l_Road_fix c_Road_fix k_Road_fix
  have b_Road_fix := F_Road_fix.binds (ps := ["self", "point", "height"]) fun _ _ _ _ _ _ us hl => by obtain ⟨u0, u1, u2, rfl⟩ := us3 hl; rfl
  have F_Road_free := fun_mk (st := s_Road_free) l_Road_free c_Road_free k_Road_free
  have b_Road_free := F_Road_free.binds (ps := ["self", "point"]) fun _ _ _ _ _ _ us hl => by obtain ⟨u0, u1, rfl⟩ := us2 hl; rfl
  have F_Road_pit := fun_mk (st := s_Road_pit) l_Road_pit c_Road_pit k_Road_pit
  have b_Road_pit := F_Road_pit.binds (ps := ["self", "point", "tipping", "fetching"]) fun _ _ _ _ _ _ us hl => by obtain ⟨u0, u1, u2, u3, rfl⟩ := us4 hl; rfl
  have F_Road_close := fun_mk (st := s_Road_close) l_Road_close c_Road_close k_Road_close
  have b_Road_close := F_Road_close.binds (ps := ["self", "point"]) fun _ _ _ _ _ _ us hl => by obtain ⟨u0, u1, rfl⟩ := us2 hl; rfl
  have F_Road_take_away := fun_mk (st := s_Road_take_away) l_Road_take_away c_Road_take_away k_Road_take_away
  have b_Road_take_away := F_Road_take_away.binds (ps := ["self", "kept", "point"]) fun _ _ _ _ _ _ us hl => by obtain ⟨u0, u1, u2, rfl⟩ := us3 hl; rfl
  have F_Road_has_point := fun_mk (st := s_Road_has_point) l_Road_has_point c_Road_has_point k_Road_has_point
  have b_Road_has_point := F_Road_has_point.binds (ps := ["self", "point"]) fun _ _ _ _ _ _ us hl => by obtain ⟨u0, u1, rfl⟩ := us2 hl; rfl
  have F_check := fun_mk (st := s_check) l_check c_check k_check
  have b_check := F_check.binds (ps := ["road", "line", "hauls"]) fun _ _ _ _ _ _ us hl => by obtain ⟨u0, u1, u2, rfl⟩ := us3 hl; rfl
  have F_line_allowed := fun_mk (st := s_line_allowed) l_line_allowed c_line_allowed k_line_allowed
  have b_line_allowed := F_line_allowed.binds (ps := ["road", "line"]) fun _ _ _ _ _ _ us hl => by obtain ⟨u0, u1, rfl⟩ := us2 hl; rfl
  have F_hauls_allowed := fun_mk (st := s_hauls_allowed) l_hauls_allowed c_hauls_allowed k_hauls_allowed
  have b_hauls_allowed := F_hauls_allowed.binds (ps := ["road", "hauls"]) fun _ _ _ _ _ _ us hl => by obtain ⟨u0, u1, rfl⟩ := us2 hl; rfl
  have F_haul_allowed := fun_mk (st := s_haul_allowed) l_haul_allowed c_haul_allowed k_haul_allowed
  have b_haul_allowed := F_haul_allowed.binds (ps := ["road", "haul"]) fun _ _ _ _ _ _ us hl => by obtain ⟨u0, u1, rfl⟩ := us2 hl; rfl
  have F_best := fun_mk (st := s_best) l_best c_best k_best
  have b_best := F_best.binds (ps := ["road"]) fun _ _ _ _ _ _ us hl => by obtain ⟨u0, rfl⟩ := us1 hl; rfl
  have F_lines_built := fun_mk (st := s_lines_built) l_lines_built c_lines_built k_lines_built
  have b_lines_built := F_lines_built.binds (ps := ["road"]) fun _ _ _ _ _ _ us hl => by obtain ⟨u0, rfl⟩ := us1 hl; rfl
  have F_longer_ends := fun_mk (st := s_longer_ends) l_longer_ends c_longer_ends k_longer_ends
  have b_longer_ends := F_longer_ends.binds (ps := ["road", "point", "ends"]) fun _ _ _ _ _ _ us hl => by obtain ⟨u0, u1, u2, rfl⟩ := us3 hl; rfl
  have F_fits_ahead := fun_mk (st := s_fits_ahead) l_fits_ahead c_fits_ahead k_fits_ahead
  have b_fits_ahead := F_fits_ahead.binds (ps := ["road", "point", "height", "heights"]) fun _ _ _ _ _ _ us hl => by obtain ⟨u0, u1, u2, u3, rfl⟩ := us4 hl; rfl
  have F_costs_past_the_last := fun_mk (st := s_costs_past_the_last) l_costs_past_the_last c_costs_past_the_last k_costs_past_the_last
  have b_costs_past_the_last := F_costs_past_the_last.binds (ps := []) fun _ _ _ _ _ _ us hl => by obtain rfl := us0 hl; rfl
  have F_costs_at_point := fun_mk (st := s_costs_at_point) l_costs_at_point c_costs_at_point k_costs_at_point
  have b_costs_at_point := F_costs_at_point.binds (ps := ["pit", "costs"]) fun _ _ _ _ _ _ us hl => by obtain ⟨u0, u1, rfl⟩ := us2 hl; rfl
  have F_cheapened := fun_mk (st := s_cheapened) l_cheapened c_cheapened k_cheapened
  have b_cheapened := F_cheapened.binds (ps := ["costs", "price"]) fun _ _ _ _ _ _ us hl => by obtain ⟨u0, u1, rfl⟩ := us2 hl; rfl
  have F_costs_ahead := fun_mk (st := s_costs_ahead) l_costs_ahead c_costs_ahead k_costs_ahead
  have b_costs_ahead := F_costs_ahead.binds (ps := ["costs_here", "over"]) fun _ _ _ _ _ _ us hl => by obtain ⟨u0, u1, rfl⟩ := us2 hl; rfl
  have F_earliest_way := fun_mk (st := s_earliest_way) l_earliest_way c_earliest_way k_earliest_way
  have b_earliest_way := F_earliest_way.binds (ps := ["road", "line"]) fun _ _ _ _ _ _ us hl => by obtain ⟨u0, u1, rfl⟩ := us2 hl; rfl
  have F_costs_along := fun_mk (st := s_costs_along) l_costs_along c_costs_along k_costs_along
  have b_costs_along := F_costs_along.binds (ps := ["road", "over"]) fun _ _ _ _ _ _ us hl => by obtain ⟨u0, u1, rfl⟩ := us2 hl; rfl
  have F_fewest_onwards := fun_mk (st := s_fewest_onwards) l_fewest_onwards c_fewest_onwards k_fewest_onwards
  have b_fewest_onwards := F_fewest_onwards.binds (ps := ["pit", "units", "costs", "least"]) fun _ _ _ _ _ _ us hl => by obtain ⟨u0, u1, u2, u3, rfl⟩ := us4 hl; rfl
  have F_answers := fun_mk (st := s_answers) l_answers c_answers k_answers
  have b_answers := F_answers.binds (ps := ["calls"]) fun _ _ _ _ _ _ us hl => by obtain ⟨u0, rfl⟩ := us1 hl; rfl
  have F_call_end := fun_mk (st := s_call_end) l_call_end c_call_end k_call_end
  have b_call_end := F_call_end.binds (ps := ["calls", "start"]) fun _ _ _ _ _ _ us hl => by obtain ⟨u0, u1, rfl⟩ := us2 hl; rfl
  have F_row_end := fun_mk (st := s_row_end) l_row_end c_row_end k_row_end
  have b_row_end := F_row_end.binds (ps := ["numbers", "start"]) fun _ _ _ _ _ _ us hl => by obtain ⟨u0, u1, rfl⟩ := us2 hl; rfl
  have F_answer := fun_mk (st := s_answer) l_answer c_answer k_answer
  have b_answer := F_answer.binds (ps := ["road", "call", "numbers"]) fun _ _ _ _ _ _ us hl => by obtain ⟨u0, u1, u2, rfl⟩ := us3 hl; rfl
  have F_in_threes := fun_mk (st := s_in_threes) l_in_threes c_in_threes k_in_threes
  have b_in_threes := F_in_threes.binds (ps := ["numbers"]) fun _ _ _ _ _ _ us hl => by obtain ⟨u0, rfl⟩ := us1 hl; rfl
  refine ⟨⟨C_Road, a_NUMBERS_BEHIND, f_first_wrong, _, f_fixed_otherwise, _, f_too_steep, _, f_bends_too_much, _, f_units_over, _, f_line_cost, _, f_priced, _, f_units_left, _, f_carrying_cost, _, f_may_be_left, _, f_pit_cost, _, f_Road_init, _, f_Road_begins, _, f_Road_add_point, _, f_Road_fix, _, f_Road_free, _, f_Road_pit, _, f_Road_close, _, f_Road_take_away, _, f_Road_has_point, _, f_check, _, f_line_allowed, _, f_hauls_allowed, _, f_haul_allowed, _, f_best, _, f_lines_built, _, f_longer_ends, _, f_fits_ahead, _, f_costs_past_the_last, _, f_costs_at_point, _, f_cheapened, _, f_costs_ahead, _, f_earliest_way, _, f_costs_along, _, f_fewest_onwards, _, f_answers, _, f_call_end, _, f_row_end, _, f_answer, _, f_in_threes, _⟩, ⟨⟨pg_Road, hd_Road, po_Road, sa_Road⟩, PySem.W.mg_of X G aC_Road, ⟨mk_Road, a_Road_init, i_Road_init, kc_Road⟩, n_Road_steep, n_Road_bend, n_Road_dig, n_Road_fill, n_Road_grounds, n_Road_fixed, n_Road_pits, F_first_wrong, b_first_wrong, PySem.W.mg_of X G a_first_wrong, F_fixed_otherwise, b_fixed_otherwise, PySem.W.mg_of X G a_fixed_otherwise, F_too_steep, b_too_steep, PySem.W.mg_of X G a_too_steep, F_bends_too_much, b_bends_too_much, PySem.W.mg_of X G a_bends_too_much, F_units_over, b_units_over, PySem.W.mg_of X G a_units_over, F_line_cost, b_line_cost, PySem.W.mg_of X G a_line_cost, F_priced, b_priced, PySem.W.mg_of X G a_priced, F_units_left, b_units_left, PySem.W.mg_of X G a_units_left, F_carrying_cost, b_carrying_cost, PySem.W.mg_of X G a_carrying_cost, F_may_be_left, b_may_be_left, PySem.W.mg_of X G a_may_be_left, F_pit_cost, b_pit_cost, PySem.W.mg_of X G a_pit_cost, F_Road_init, b_Road_init, F_Road_begins, b_Road_begins, ⟨a_Road_begins, i_Road_begins, k_Road_begins⟩, F_Road_add_point, b_Road_add_point, ⟨a_Road_add_point, i_Road_add_point, k_Road_add_point⟩, F_Road_fix, b_Road_fix, ⟨a_Road_fix, i_Road_fix, k_Road_fix⟩, F_Road_free, b_Road_free, ⟨a_Road_free, i_Road_free, k_Road_free⟩, F_Road_pit, b_Road_pit, ⟨a_Road_pit, i_Road_pit, k_Road_pit⟩, F_Road_close, b_Road_close, ⟨a_Road_close, i_Road_close, k_Road_close⟩, F_Road_take_away, b_Road_take_away, ⟨a_Road_take_away, i_Road_take_away, k_Road_take_away⟩, F_Road_has_point, b_Road_has_point, ⟨a_Road_has_point, i_Road_has_point, k_Road_has_point⟩, F_check, b_check, PySem.W.mg_of X G a_check, F_line_allowed, b_line_allowed, PySem.W.mg_of X G a_line_allowed, F_hauls_allowed, b_hauls_allowed, PySem.W.mg_of X G a_hauls_allowed, F_haul_allowed, b_haul_allowed, PySem.W.mg_of X G a_haul_allowed, F_best, b_best, PySem.W.mg_of X G a_best, F_lines_built, b_lines_built, PySem.W.mg_of X G a_lines_built, F_longer_ends, b_longer_ends, PySem.W.mg_of X G a_longer_ends, F_fits_ahead, b_fits_ahead, PySem.W.mg_of X G a_fits_ahead, F_costs_past_the_last, b_costs_past_the_last, PySem.W.mg_of X G a_costs_past_the_last, F_costs_at_point, b_costs_at_point, PySem.W.mg_of X G a_costs_at_point, F_cheapened, b_cheapened, PySem.W.mg_of X G a_cheapened, F_costs_ahead, b_costs_ahead, PySem.W.mg_of X G a_costs_ahead, F_earliest_way, b_earliest_way, PySem.W.mg_of X G a_earliest_way, F_costs_along, b_costs_along, PySem.W.mg_of X G a_costs_along, F_fewest_onwards, b_fewest_onwards, PySem.W.mg_of X G a_fewest_onwards, F_answers, b_answers, PySem.W.mg_of X G a_answers, F_call_end, b_call_end, PySem.W.mg_of X G a_call_end, F_row_end, b_row_end, PySem.W.mg_of X G a_row_end, F_answer, b_answer, PySem.W.mg_of X G a_answer, F_in_threes, b_in_threes, PySem.W.mg_of X G a_in_threes, ⟨_, PySem.W.mg_of X G g_OTHER_HEIGHT_FIXED, _, rfl⟩, ⟨_, PySem.W.mg_of X G g_TOO_STEEP, _, rfl⟩, ⟨_, PySem.W.mg_of X G g_BENT_TOO_MUCH, _, rfl⟩, ⟨_, PySem.W.mg_of X G g_MOST_STEEP, _, rfl⟩, ⟨_, PySem.W.mg_of X G g_MOST_BEND, _, rfl⟩, ⟨_, PySem.W.mg_of X G g_MOST_PRICE, _, rfl⟩, ⟨_, PySem.W.mg_of X G g_MOST_HEIGHT, _, rfl⟩, ⟨_, PySem.W.mg_of X G g_MOST_POINTS, _, rfl⟩, ⟨_, PySem.W.mg_of X G g_NOT_ALLOWED, _, rfl⟩, ⟨_, PySem.W.mg_of X G g_NO_SUCH_POINT, _, rfl⟩, ⟨_, PySem.W.mg_of X G g_NOTHING_THERE, _, rfl⟩, ⟨_, PySem.W.mg_of X G g_NO_ROOM, _, rfl⟩, ⟨_, PySem.W.mg_of X G g_MOST_HAULS, _, rfl⟩, ⟨_, PySem.W.mg_of X G g_MOST_UNITS, _, rfl⟩, ⟨_, PySem.W.mg_of X G g_WRONG_LINE, _, rfl⟩, ⟨_, PySem.W.mg_of X G g_WRONG_HAULS, _, rfl⟩, ⟨_, PySem.W.mg_of X G g_NO_RIGHT_LINE, _, rfl⟩, ⟨_, PySem.W.mg_of X G g_REACH, _, rfl⟩, ⟨_, PySem.W.mg_of X G g_NEVER, _, rfl⟩, ⟨_, PySem.W.mg_of X G g_BEGINS, _, rfl⟩, ⟨_, PySem.W.mg_of X G g_POINT, _, rfl⟩, ⟨_, PySem.W.mg_of X G g_FIX, _, rfl⟩, ⟨_, PySem.W.mg_of X G g_FREE, _, rfl⟩, ⟨_, PySem.W.mg_of X G g_PIT, _, rfl⟩, ⟨_, PySem.W.mg_of X G g_CLOSE, _, rfl⟩, ⟨_, PySem.W.mg_of X G g_BEST, _, rfl⟩, ⟨_, PySem.W.mg_of X G g_CHECK, _, rfl⟩, ⟨_, PySem.W.mg_of X G g_NUMBERS_BEHIND, rfl⟩, ⟨⟨_, _, l_NUMBERS_BEHIND, (.cons ⟨rfl, ⟨_, rfl⟩, ⟨_, rfl⟩⟩ (.cons ⟨rfl, ⟨_, rfl⟩, ⟨_, rfl⟩⟩ (.cons ⟨rfl, ⟨_, rfl⟩, ⟨_, rfl⟩⟩ (.cons ⟨rfl, ⟨_, rfl⟩, ⟨_, rfl⟩⟩ (.cons ⟨rfl, ⟨_, rfl⟩, ⟨_, rfl⟩⟩ (.cons ⟨rfl, ⟨_, rfl⟩, ⟨_, rfl⟩⟩ (.cons ⟨rfl, ⟨_, rfl⟩, ⟨_, rfl⟩⟩ .nil)))))))⟩, by decide⟩, PySem.W.mg_none_of X G n_len, PySem.W.mg_none_of X G n_range, PySem.W.mg_none_of X G n_abs, PySem.W.mg_none_of X G n_min, PySem.W.mg_none_of X G n_sum, PySem.W.mg_none_of X G n_list, PySem.W.mg_none_of X G n_reversed, PySem.W.mg_none_of X G n_enumerate, PySem.W.mg_none_of X G n_zip, PySem.W.mg_none_of X G n_all⟩, fun s us hu => match us, hu with | [_], _ => .of_eq rfl⟩
end RL

end
section
set_option Elab.async false
set_option linter.all false
set_option maxRecDepth 100000
set_option maxHeartbeats 2000000
namespace RL
open PySem PySem.Spec PyProof.Rows L2
/-! ### the road as it stands in the heap -/
def optV : Option Nat → V
  | none => .non
  | some n => .int n
def gV (b : Uw17.Build) : List V := b.road.points.map fun q => V.int q.ground
def xV (b : Uw17.Build) : List V := b.road.points.map fun q => optV q.fixed
def rf (b : Uw17.Build) (lg lf lp : Addr) : List (Str × V) := [("steep", .int b.road.slope), ("bend", .int b.road.bend), ("dig", .int b.road.dig), ("fill", .int b.road.fill), ("grounds", .ref lg), ("fixed", .ref lf), ("pits", .ref lp)]
def PitIs (H : Hp) (v : V) : Option (Nat × Nat) → Prop
  | none => v = .non
  | some (t, d) => ∃ a, v = .ref a ∧ H a = some (.tup [.int t, .int d])
def PitsAt (H : Hp) (vs : List V) (ps : List (Option (Nat × Nat))) : Prop := vs.length = ps.length ∧ ∀ (i : Nat) (v : V) (o : Option (Nat × Nat)), vs[i]? = some v → ps[i]? = some o → PitIs H v o
structure RoadAt (C : Addr) (H : Hp) (p lg lf lp : Addr) (b : Uw17.Build) : Prop where
  ob : ∃ dx, H p = some (.ins C dx (rf b lg lf lp))
  gs : H lg = some (.lst (gV b))
  xs : H lf = some (.lst (xV b))
  ps : ∃ vs, H lp = some (.lst vs) ∧ PitsAt H vs b.pits
  ne1 : lg ≠ lf
  ne2 : lg ≠ lp
  ne3 : lf ≠ lp
  ok : Ok b
theorem gV_len (b : Uw17.Build) : (gV b).length = b.road.points.length := List.length_map ..
theorem xV_len (b : Uw17.Build) : (xV b).length = b.road.points.length := List.length_map ..
/-- the tuples that there were -/
def Tups (H H' : Hp) : Prop := ∀ a xs, H a = some (.tup xs) → H' a = some (.tup xs)
theorem Tups.refl (H : Hp) : Tups H H := fun _ _ e => e
theorem Tups.upd {H H' : Hp} {a : Addr} {o : HO} (t : Tups H H') (h : ∀ xs, H a ≠ some (.tup xs)) : Tups H (upd H' a o) := fun x xs e => by
  have : x ≠ a := by
    rintro rfl
    exact h xs e
  rw [upd_ne this]
  exact t x xs e
theorem PitIs.keep {H H' : Hp} {v : V} {o : Option (Nat × Nat)} (t : Tups H H') (h : PitIs H v o) : PitIs H' v o := by
  cases o with
  | none => exact h
  | some x =>
    obtain ⟨a, e1, e2⟩ := h
    exact ⟨a, e1, t _ _ e2⟩
theorem PitsAt.keep {H H' : Hp} {vs : List V} {ps : List (Option (Nat × Nat))} (t : Tups H H') (h : PitsAt H vs ps) : PitsAt H' vs ps := ⟨h.1, fun i v o e1 e2 => (h.2 i v o e1 e2).keep t⟩
theorem _root_.L2.Same.tups {H H' : Hp} (s : Same H H') : Tups H H' := fun a xs e => s _ _ e
theorem RoadAt.keep {C : Addr} {H H' : Hp} {p lg lf lp : Addr} {b : Uw17.Build} (R : RoadAt C H p lg lf lp b) (hp : H' p = H p) (hg : H' lg = H lg) (hf : H' lf = H lf) (hl : H' lp = H lp) (ht : Tups H H') : RoadAt C H' p lg lf lp b := by
  obtain ⟨dx, h⟩ := R.ob
  obtain ⟨vs, h1, h2⟩ := R.ps
  exact ⟨⟨dx, hp.trans h⟩, hg.trans R.gs, hf.trans R.xs, ⟨vs, hl.trans h1, h2.keep ht⟩, R.ne1, R.ne2, R.ne3, R.ok⟩
theorem RoadAt.same {C : Addr} {H H' : Hp} {p lg lf lp : Addr} {b : Uw17.Build} (R : RoadAt C H p lg lf lp b) (s : Same H H') : RoadAt C H' p lg lf lp b := by
  obtain ⟨dx, h⟩ := R.ob
  obtain ⟨vs, h1, h2⟩ := R.ps
  exact ⟨⟨dx, s _ _ h⟩, s _ _ R.gs, s _ _ R.xs, ⟨vs, s _ _ h1, h2.keep s.tups⟩, R.ne1, R.ne2, R.ne3, R.ok⟩
/-- all but these is as it was -/
structure Fr (H H' : Hp) (fp : List Addr) : Prop where
  keep : ∀ x o, H x = some o → x ∉ fp → H' x = some o
  free : ∀ x, H' x = none → H x = none
theorem Fr.refl (H : Hp) (fp : List Addr) : Fr H H fp := ⟨fun _ _ e _ => e, fun _ e => e⟩
theorem upd_free {H : Hp} {a x : Addr} {o : HO} (h : upd H a o x = none) : H x = none := by
  by_cases e : x = a
  · subst e
    rw [upd_same] at h
    cases h
  · rwa [upd_ne e] at h
/-- one more thing written -/
theorem Fr.upd {H H' : Hp} {fp : List Addr} {a : Addr} {o : HO} (f : Fr H H' fp) (h : a ∈ fp ∨ H a = none) : Fr H (upd H' a o) fp := by
  refine ⟨fun x u e hx => ?_, fun x e => f.free x (upd_free e)⟩
  have : x ≠ a := by
    rintro rfl
    rcases h with h | h
    · exact hx h
    · rw [h] at e
      cases e
  rw [upd_ne this]
  exact f.keep x u e hx
theorem Fr.of_same {H H' : Hp} {fp : List Addr} (s : Same H H') : Fr H H' fp := ⟨fun x o e _ => s x o e, fun x e => s.free e⟩
/-- what a call about the road does -/
def RoadStep (C : Addr) (H : Hp) (p : Addr) (b : Uw17.Build) (c : Uw17.Call) (Q : VK) : Prop := ∃ lg lf lp, RoadAt C H p lg lf lp b ∧
  ∀ H' lg' lf' lp', RoadAt C H' p lg' lf' lp' (Uw17.step b c).1 → Fr H H' [p, lg, lf, lp] → (∀ x, x ∈ [lg', lf', lp'] → x ∈ [lg, lf, lp] ∨ H x = none) → Q (.int (Uw17.step b c).2.v) H'
def spInit (C : Addr) : Sp := fun vs H Q _ => ∃ p dx, vs = [.ref p] ∧ H p = some (.ins C dx []) ∧
  ∀ H' lg lf lp, RoadAt C H' p lg lf lp Uw17.init → Fr H H' [p] → H lg = none → H lf = none → H lp = none → Q .non H'
def spHas (C : Addr) : Sp := fun vs H Q _ => ∃ p lg lf lp b, ∃ n : Nat, vs = [.ref p, .int n] ∧ RoadAt C H p lg lf lp b ∧ Q (.bl (decide (n < b.road.points.length))) H
def spBegins (C : Addr) : Sp := fun vs H Q _ => ∃ p b, ∃ s t d f : Nat, vs = [.ref p, .int s, .int t, .int d, .int f] ∧ RoadStep C H p b (.begins s t d f) Q
def spPoint (C : Addr) : Sp := fun vs H Q _ => ∃ p b, ∃ g : Nat, vs = [.ref p, .int g] ∧ RoadStep C H p b (.point g) Q
def spFix (C : Addr) : Sp := fun vs H Q _ => ∃ p b, ∃ i h : Nat, vs = [.ref p, .int i, .int h] ∧ RoadStep C H p b (.fix i h) Q
def spFree (C : Addr) : Sp := fun vs H Q _ => ∃ p b, ∃ i : Nat, vs = [.ref p, .int i] ∧ RoadStep C H p b (.free i) Q
def spPit (C : Addr) : Sp := fun vs H Q _ => ∃ p b, ∃ i tp fe : Nat, vs = [.ref p, .int i, .int tp, .int fe] ∧ RoadStep C H p b (.pit i tp fe) Q
def spClose (C : Addr) : Sp := fun vs H Q _ => ∃ p b, ∃ i : Nat, vs = [.ref p, .int i] ∧ RoadStep C H p b (.close i) Q
def spTake (C : Addr) : Sp := fun vs H Q _ => ∃ p lg lf lp b l ws, ∃ i : Nat, vs = [.ref p, .ref l, .int i] ∧ RoadAt C H p lg lf lp b ∧ H l = some (.lst ws) ∧ ws.length = b.road.points.length ∧
  (b.road.points.length ≤ i → Q (.int (-2)) H) ∧ ∀ v, i < b.road.points.length → ws[i]? = some v → (v = .non → Q (.int (-4)) H) ∧ (v ≠ .non → Q (.int 0) (upd H l (.lst (ws.set i .non))))
section
variable {P : Program} {w : World} {K : PySem.W.Frag} {mg : Str → Option Value} {base : Heap} {t : Adr}
theorem ok_Road_init (T : Txt K mg t) : FnOk P w K mg base CX0 1 t.f_Road_init t.d_Road_init ["self"] (spInit t.C_Road) := by
  have S := sc_Road_init
  refine T.F_Road_init.ok S (fun vs H Q E h => ?_) (fun cdv A outer s H vs Q E hr h => ?_)
  · obtain ⟨p, dx, rfl, _⟩ := h
    rfl
  · obtain ⟨p, dx, rfl, hp, k⟩ := h
    refine ⟨_, (pss_cons (ps_fld (pv 0) pe_int rfl)
 (pss_cons (ps_fld (pv 0) pe_int rfl)
 (pss_cons (ps_fld (pv 0) pe_int rfl)
 (pss_cons (ps_fld (pv 0) pe_int rfl)
 (pss_cons (ps_fld (pv 0) (pe_lst pa_nil) rfl)
 (pss_cons (ps_fld (pv 0) (pe_lst pa_nil) rfl)
 (pss_one (ps_fld (pv 0) (pe_lst pa_nil) rfl)))))))), ?_⟩
    refine ⟨_, rfl, p, t.C_Road, dx, _, rfl, hp, T.cl_Road, T.n_Road_steep, (by show 0 < 1000; decide), ?_⟩
    refine ⟨_, rfl, p, t.C_Road, dx, _, rfl, upd_same, T.cl_Road, T.n_Road_bend, (by show 1 < 1000; decide), ?_⟩
    refine ⟨_, rfl, p, t.C_Road, dx, _, rfl, upd_same, T.cl_Road, T.n_Road_dig, (by show 2 < 1000; decide), ?_⟩
    refine ⟨_, rfl, p, t.C_Road, dx, _, rfl, upd_same, T.cl_Road, T.n_Road_fill, (by show 3 < 1000; decide), ?_⟩
    refine ⟨Nat.zero_le _, fun lg hlg => ?_⟩
    have pg : p ≠ lg := ne_of_none upd_same hlg
    refine ⟨_, rfl, p, t.C_Road, dx, _, rfl, (upd_ne pg).trans upd_same, T.cl_Road, T.n_Road_grounds, (by show 4 < 1000; decide), ?_⟩
    refine ⟨Nat.zero_le _, fun lf hlf => ?_⟩
    have pf : p ≠ lf := ne_of_none upd_same hlf
    have gf : lg ≠ lf := ne_of_none ((upd_ne pg.symm).trans upd_same) hlf
    refine ⟨_, rfl, p, t.C_Road, dx, _, rfl, (upd_ne pf).trans upd_same, T.cl_Road, T.n_Road_fixed, (by show 5 < 1000; decide), ?_⟩
    refine ⟨Nat.zero_le _, fun lp hlp => ?_⟩
    have pp : p ≠ lp := ne_of_none upd_same hlp
    have gp : lg ≠ lp := ne_of_none ((upd_ne pg.symm).trans ((upd_ne gf).trans ((upd_ne pg.symm).trans upd_same))) hlp
    have fp : lf ≠ lp := ne_of_none ((upd_ne pf.symm).trans upd_same) hlp
    refine ⟨_, rfl, p, t.C_Road, dx, _, rfl, (upd_ne pp).trans upd_same, T.cl_Road, T.n_Road_pits, (by show 6 < 1000; decide), ?_⟩
    rw [upd_ne pg.symm, upd_ne pg.symm, upd_ne pg.symm, upd_ne pg.symm] at hlg
    rw [upd_ne pf.symm, upd_ne gf.symm, upd_ne pf.symm, upd_ne pf.symm, upd_ne pf.symm, upd_ne pf.symm] at hlf
    have hlp' : H lp = none := upd_free (upd_free (upd_free (upd_free (upd_free (upd_free (upd_free (upd_free hlp)))))))
    have pin : p ∈ [p] := List.mem_singleton.mpr rfl
    refine k _ lg lf lp ⟨⟨dx, upd_same⟩, ?_, ?_, ⟨[], ?_, rfl, fun i v o e => (by cases e)⟩, gf, gp, fp, ok_init⟩ (((((((((((Fr.refl _ _).upd (.inl pin)).upd (.inl pin)).upd (.inl pin)).upd (.inl pin)).upd (.inr hlg)).upd (.inl pin)).upd (.inr hlf)).upd (.inl pin)).upd (.inr hlp')).upd (.inl pin)) hlg hlf hlp'
    · rw [upd_ne pg.symm, upd_ne gp, upd_ne pg.symm, upd_ne gf, upd_ne pg.symm]
      exact upd_same
    · rw [upd_ne pf.symm, upd_ne fp, upd_ne pf.symm]
      exact upd_same
    · rw [upd_ne pp.symm]
      exact upd_same
theorem ok_Road_has_point (T : Txt K mg t) : FnOk P w K mg base CX0 1 t.f_Road_has_point t.d_Road_has_point ["self", "point"] (spHas t.C_Road) := by
  have S := sc_Road_has_point
  refine T.F_Road_has_point.ok S (fun vs H Q E h => ?_) (fun cdv A outer s H vs Q E hr h => ?_)
  · obtain ⟨p, lg, lf, lp, b, n, rfl, _⟩ := h
    rfl
  · obtain ⟨p, lg, lf, lp, b, n, rfl, R, k⟩ := h
    obtain ⟨dx, hp⟩ := R.ob
    refine ⟨_, (pss_one (ps_ret (pe_cmpR op_lt (pv 1) (pe_callB call_len_seq (by rfl) T.n_len PySem.boot_len (pa_cons (pe_fld (pv 0) rfl) pa_nil)) (nomark _)))), ?_⟩
    refine ⟨_, rfl, _, rfl, p, _, dx, _, _, rfl, hp, T.cl_Road, T.n_Road_grounds, rfl, lg, _, rfl, .inl (SqL.of R.gs), _, _, rfl, rfl, ?_⟩
    have e : decide ((n : Int) < ((gV b).length : Int)) = decide (n < b.road.points.length) := by
      rw [gV_len]
      exact decide_eq_decide.mpr (by omega)
    show Q (.bl (decide ((n : Int) < ((gV b).length : Int)))) H
    rw [e]
    exact k
theorem ok_Road_begins (T : Txt K mg t) : FnOk P w K mg base CX0 1 t.f_Road_begins t.d_Road_begins ["self", "steep", "bend", "dig", "fill"] (spBegins t.C_Road) := by
  have S := sc_Road_begins
  refine T.F_Road_begins.ok S (fun vs H Q E h => ?_) (fun cdv A outer s H vs Q E hr h => ?_)
  · obtain ⟨p, b, s, t, d, f, rfl, _⟩ := h
    rfl
  · obtain ⟨p, b, s, tt, d, f, rfl, lg, lf, lp, R, k⟩ := h
    obtain ⟨dx, hp⟩ := R.ob
    rw [step_begins] at k
    refine ⟨_, (pss_cons (ps_if (PW.pt (pw_or (pt_cmpR op_gt (pv 1) (pe_gc rfl T.g_MOST_STEEP) (nomark _)) (pw_or (pt_cmpR op_gt (pv 2) (pe_gc rfl T.g_MOST_BEND) (nomark _)) (pw_or (pt_cmpR op_gt (pv 3) (pe_gc rfl T.g_MOST_PRICE) (nomark _)) (pw_or1 (pt_cmpR op_gt (pv 4) (pe_gc rfl T.g_MOST_PRICE) (nomark _)))))))
 (pss_one (ps_ret (pe_gc rfl T.g_NOT_ALLOWED)))
 pss_nil)
 (pss_cons (ps_fld (pv 0) (pv 1) rfl)
 (pss_cons (ps_fld (pv 0) (pv 2) rfl)
 (pss_cons (ps_fld (pv 0) (pv 3) rfl)
 (pss_cons (ps_fld (pv 0) (pv 4) rfl)
 (pss_cons (ps_fld (pv 0) (pe_lst pa_nil) rfl)
 (pss_cons (ps_fld (pv 0) (pe_lst pa_nil) rfl)
 (pss_cons (ps_fld (pv 0) (pe_lst pa_nil) rfl)
 (pss_one (ps_ret pe_int)))))))))), ?_⟩
    have no : (2 < s ∨ 4 < tt ∨ 100 < d ∨ 100 < f) → Q (.int (-1)) H := fun h => by
      rw [if_pos h] at k
      exact k H lg lf lp R (Fr.refl _ _) fun x hx => .inl hx
    refine ⟨_, rfl, _, _, rfl, rfl, _, rfl, ite2 (fun h => iteT (no (.inl (by have := of_decide_eq_true h; omega)))) (fun h1 => ?_)⟩
    refine ⟨_, rfl, _, _, rfl, rfl, _, rfl, ite2 (fun h => iteT (no (.inr (.inl (by have := of_decide_eq_true h; omega))))) (fun h2 => ?_)⟩
    refine ⟨_, rfl, _, _, rfl, rfl, _, rfl, ite2 (fun h => iteT (no (.inr (.inr (.inl (by have := of_decide_eq_true h; omega)))))) (fun h3 => ?_)⟩
    refine ⟨_, rfl, _, _, rfl, rfl, _, rfl, ite2 (fun h => no (.inr (.inr (.inr (by have := of_decide_eq_true h; omega))))) (fun h4 => ?_)⟩
    have a1 : ¬ (2 < s ∨ 4 < tt ∨ 100 < d ∨ 100 < f) := by
      rw [decide_eq_true_iff] at h1 h2 h3 h4
      omega
    rw [if_neg a1] at k
    refine ⟨_, rfl, _, rfl, p, t.C_Road, dx, _, rfl, hp, T.cl_Road, T.n_Road_steep, (by show 7 < 1000; decide), ?_⟩
    refine ⟨_, rfl, _, rfl, p, t.C_Road, dx, _, rfl, upd_same, T.cl_Road, T.n_Road_bend, (by show 7 < 1000; decide), ?_⟩
    refine ⟨_, rfl, _, rfl, p, t.C_Road, dx, _, rfl, upd_same, T.cl_Road, T.n_Road_dig, (by show 7 < 1000; decide), ?_⟩
    refine ⟨_, rfl, _, rfl, p, t.C_Road, dx, _, rfl, upd_same, T.cl_Road, T.n_Road_fill, (by show 7 < 1000; decide), ?_⟩
    refine ⟨Nat.zero_le _, fun lg' hlg => ?_⟩
    have pg : p ≠ lg' := ne_of_none upd_same hlg
    refine ⟨_, rfl, p, t.C_Road, dx, _, rfl, (upd_ne pg).trans upd_same, T.cl_Road, T.n_Road_grounds, (by show 7 < 1000; decide), ?_⟩
    refine ⟨Nat.zero_le _, fun lf' hlf => ?_⟩
    have pf : p ≠ lf' := ne_of_none upd_same hlf
    have gf : lg' ≠ lf' := ne_of_none ((upd_ne pg.symm).trans upd_same) hlf
    refine ⟨_, rfl, p, t.C_Road, dx, _, rfl, (upd_ne pf).trans upd_same, T.cl_Road, T.n_Road_fixed, (by show 7 < 1000; decide), ?_⟩
    refine ⟨Nat.zero_le _, fun lp' hlp => ?_⟩
    have pp : p ≠ lp' := ne_of_none upd_same hlp
    have gp : lg' ≠ lp' := ne_of_none ((upd_ne pg.symm).trans ((upd_ne gf).trans ((upd_ne pg.symm).trans upd_same))) hlp
    have fp : lf' ≠ lp' := ne_of_none ((upd_ne pf.symm).trans upd_same) hlp
    refine ⟨_, rfl, p, t.C_Road, dx, _, rfl, (upd_ne pp).trans upd_same, T.cl_Road, T.n_Road_pits, (by show 7 < 1000; decide), ?_⟩
    have hlg' : H lg' = none := upd_free (upd_free (upd_free (upd_free hlg)))
    have hlf' : H lf' = none := upd_free (upd_free (upd_free (upd_free (upd_free (upd_free hlf)))))
    have hlp' : H lp' = none := upd_free (upd_free (upd_free (upd_free (upd_free (upd_free (upd_free (upd_free hlp)))))))
    have pin : p ∈ [p, lg, lf, lp] := List.mem_cons_self
    refine k _ lg' lf' lp' ⟨⟨dx, upd_same⟩, ?_, ?_, ⟨[], ?_, rfl, fun i v o e => (by cases e)⟩, gf, gp, fp, ?_⟩ (((((((((((Fr.refl _ _).upd (.inl pin)).upd (.inl pin)).upd (.inl pin)).upd (.inl pin)).upd (.inr hlg')).upd (.inl pin)).upd (.inr hlf')).upd (.inl pin)).upd (.inr hlp')).upd (.inl pin)) (fun x hx => ?_)
    · rw [upd_ne pg.symm, upd_ne gp, upd_ne pg.symm, upd_ne gf, upd_ne pg.symm]
      exact upd_same
    · rw [upd_ne pf.symm, upd_ne fp, upd_ne pf.symm]
      exact upd_same
    · rw [upd_ne pp.symm]
      exact upd_same
    · have := R.ok.step (.begins s tt d f)
      rw [step_begins, if_neg a1] at this
      exact this
    · right
      simp only [List.mem_cons, or_false, List.not_mem_nil] at hx
      rcases hx with rfl | rfl | rfl
      · exact hlg'
      · exact hlf'
      · exact hlp'
theorem ixN_nat {n i : Nat} (h : i < n) : ixN n (i : Int) = some i := by
  unfold ixN
  rw [if_pos (by omega), if_pos (by omega)]
  rfl
theorem map_same {r : Uw16.Road} {i : Nat} (f : Option Nat) : (r.points.set i ⟨(r.point i).ground, f⟩).map (fun q => V.int q.ground) = r.points.map fun q => V.int q.ground := by
  rw [List.map_set]
  by_cases h : i < r.points.length
  · apply List.ext_getElem?
    intro j
    by_cases e : j = i
    · subst e
      rw [List.getElem?_set_self (by rw [List.length_map]; exact h), List.getElem?_map]
      unfold Uw16.Road.point
      rw [List.getD_eq_getElem?_getD, List.getElem?_eq_getElem h]
      rfl
    · rw [List.getElem?_set_ne (fun q => e q.symm)]
  · rw [List.set_eq_of_length_le (by rw [List.length_map]; omega)]
theorem xV_at {b : Uw17.Build} {i : Nat} (h : i < b.road.points.length) : (xV b)[i]? = some (optV (b.road.point i).fixed) := by
  unfold xV Uw16.Road.point
  rw [List.getElem?_map, List.getD_eq_getElem?_getD, List.getElem?_eq_getElem h]
  rfl
theorem small5 {n : Nat} (h : n ≤ 5) : n < sizeLine := small1000 (by omega)
theorem no_tup {H : Hp} {a : Addr} {o : HO} (h : H a = some o) (ho : ∀ xs, o ≠ .tup xs) : ∀ xs, H a ≠ some (.tup xs) := fun xs e => by
  rw [h] at e
  exact ho xs (Option.some.inj e)
theorem PitsAt.snoc {H : Hp} {vs : List V} {ps : List (Option (Nat × Nat))} (h : PitsAt H vs ps) : PitsAt H (vs ++ [V.non]) (ps ++ [none]) := by
  refine ⟨by rw [List.length_append, List.length_append, h.1]; rfl, fun i v o e1 e2 => ?_⟩
  by_cases q : i < vs.length
  · rw [List.getElem?_append_left q] at e1
    rw [List.getElem?_append_left (by rw [← h.1]; exact q)] at e2
    exact h.2 i v o e1 e2
  · rw [List.getElem?_append_right (by omega)] at e1
    rw [List.getElem?_append_right (by rw [← h.1]; omega)] at e2
    have e : i - vs.length = 0 := by
      have := (List.getElem?_eq_some_iff.mp e1).1
      have : i - vs.length < 1 := this
      omega
    rw [e] at e1
    rw [← h.1, e] at e2
    cases e1
    cases e2
    rfl
theorem PitsAt.put {H : Hp} {vs : List V} {ps : List (Option (Nat × Nat))} {i : Nat} {v : V} {o : Option (Nat × Nat)} (h : PitsAt H vs ps) (hv : PitIs H v o) : PitsAt H (vs.set i v) (ps.set i o) := by
  refine ⟨by rw [List.length_set, List.length_set, h.1], fun j u q e1 e2 => ?_⟩
  by_cases e : i = j
  · subst e
    have l1 : i < vs.length := by have := (List.getElem?_eq_some_iff.mp e1).1; rwa [List.length_set] at this
    rw [List.getElem?_set_self l1] at e1
    rw [List.getElem?_set_self (by rw [← h.1]; exact l1)] at e2
    cases e1
    cases e2
    exact hv
  · rw [List.getElem?_set_ne e] at e1 e2
    exact h.2 j u q e1 e2
theorem ok_Road_add_point (T : Txt K mg t) : FnOk P w K mg base CX0 1 t.f_Road_add_point t.d_Road_add_point ["self", "ground"] (spPoint t.C_Road) := by
  have S := sc_Road_add_point
  refine T.F_Road_add_point.ok S (fun vs H Q E h => ?_) (fun cdv A outer s H vs Q E hr h => ?_)
  · obtain ⟨p, b, g, rfl, _⟩ := h
    rfl
  · obtain ⟨p, b, g, rfl, lg, lf, lp, R, k⟩ := h
    obtain ⟨dx, hp⟩ := R.ob
    obtain ⟨ws, hw, pw⟩ := R.ps
    have wl : ws.length = b.road.points.length := by rw [pw.1, R.ok.pl]
    have st := R.ok.step (.point g)
    rw [step_point g R.ok] at k st
    refine ⟨_, (pss_cons (ps_if (pt_cmpR op_gt (pv 1) (pe_gc rfl T.g_MOST_HEIGHT) (nomark _))
 (pss_one (ps_ret (pe_gc rfl T.g_NOT_ALLOWED)))
 pss_nil)
 (pss_cons (ps_if (pt_cmpR op_eq (pe_callB call_len_seq (by rfl) T.n_len PySem.boot_len (pa_cons (pe_fld (pv 0) rfl) pa_nil)) (pe_gc rfl T.g_MOST_POINTS) (nomark _))
 (pss_one (ps_ret (pe_gc rfl T.g_NO_ROOM)))
 pss_nil)
 (pss_cons (ps_expr (pe_bm PySem.F.plainAttrs_list PySem.F.slot_list_append PySem.F.type_list_append mt_append (pe_fld (pv 0) rfl) (pa_cons (pv 1) pa_nil)))
 (pss_cons (ps_expr (pe_bm PySem.F.plainAttrs_list PySem.F.slot_list_append PySem.F.type_list_append mt_append (pe_fld (pv 0) rfl) (pa_cons pe_non pa_nil)))
 (pss_cons (ps_expr (pe_bm PySem.F.plainAttrs_list PySem.F.slot_list_append PySem.F.type_list_append mt_append (pe_fld (pv 0) rfl) (pa_cons pe_non pa_nil)))
 (pss_one (ps_ret (pe_op op_sub (pe_callB call_len_seq (by rfl) T.n_len PySem.boot_len (pa_cons (pe_fld (pv 0) rfl) pa_nil)) pe_int)))))))), ?_⟩
    refine ⟨_, rfl, _, _, rfl, rfl, _, rfl, ite2 (fun h => ?_) (fun h1 => ?_)⟩
    · have h' : 6 < g := by have := of_decide_eq_true h; omega
      rw [if_pos h'] at k
      exact k H lg lf lp R (Fr.refl _ _) fun x hx => .inl hx
    have h1' : ¬ 6 < g := by
      rw [decide_eq_true_iff] at h1
      omega
    rw [if_neg h1'] at k st
    refine ⟨_, rfl, p, _, dx, _, _, rfl, hp, T.cl_Road, T.n_Road_grounds, rfl, lg, _, rfl, .inl (SqL.of R.gs), rfl, _, rfl, ite2 (fun h => ?_) (fun h2 => ?_)⟩
    · have h' : 5 ≤ b.road.points.length := by
        have e := V.int.inj (of_decide_eq_true h)
        rw [gV_len] at e
        omega
      rw [if_pos h'] at k
      exact k H lg lf lp R (Fr.refl _ _) fun x hx => .inl hx
    have h2' : ¬ 5 ≤ b.road.points.length := fun q => h2 (decide_eq_true (congrArg V.int (by rw [gV_len]; have := R.ok.few; omega)))
    rw [if_neg h2'] at k st
    refine ⟨_, rfl, p, _, dx, _, _, rfl, hp, T.cl_Road, T.n_Road_grounds, rfl, .inl ⟨rfl, _, SqL.of R.gs⟩, _, rfl, lg, _, _, rfl, rfl, R.gs, small5 (by rw [gV_len]; omega), ?_⟩
    have pg : p ≠ lg := ne_of hp R.gs (by intro q; cases q)
    have pf : p ≠ lf := ne_of hp R.xs (by intro q; cases q)
    have pp : p ≠ lp := ne_of hp hw (by intro q; cases q)
    have hx1 : (upd H lg (.lst (gV b ++ [V.int g]))) lf = some (.lst (xV b)) := (upd_ne R.ne1.symm).trans R.xs
    refine ⟨_, rfl, p, _, dx, _, _, rfl, (upd_ne pg).trans hp, T.cl_Road, T.n_Road_fixed, rfl, .inl ⟨rfl, _, SqL.of hx1⟩, lf, _, _, rfl, rfl, hx1, small5 (by rw [xV_len]; omega), ?_⟩
    have hw1 : (upd (upd H lg (.lst (gV b ++ [V.int g]))) lf (.lst (xV b ++ [V.non]))) lp = some (.lst ws) := (upd_ne R.ne3.symm).trans ((upd_ne R.ne2.symm).trans hw)
    refine ⟨_, rfl, p, _, dx, _, _, rfl, (upd_ne pf).trans ((upd_ne pg).trans hp), T.cl_Road, T.n_Road_pits, rfl, .inl ⟨rfl, _, SqL.of hw1⟩, lp, _, _, rfl, rfl, hw1, small5 (by rw [wl]; omega), ?_⟩
    have hg : (upd (upd (upd H lg (.lst (gV b ++ [V.int g]))) lf (.lst (xV b ++ [V.non]))) lp (.lst (ws ++ [V.non]))) lg = some (.lst (gV b ++ [V.int g])) := (upd_ne R.ne2).trans ((upd_ne R.ne1).trans upd_same)
    have hf : (upd (upd (upd H lg (.lst (gV b ++ [V.int g]))) lf (.lst (xV b ++ [V.non]))) lp (.lst (ws ++ [V.non]))) lf = some (.lst (xV b ++ [V.non])) := (upd_ne R.ne3).trans upd_same
    have hp2 : (upd (upd (upd H lg (.lst (gV b ++ [V.int g]))) lf (.lst (xV b ++ [V.non]))) lp (.lst (ws ++ [V.non]))) p = some (.ins t.C_Road dx (rf b lg lf lp)) := (upd_ne pp).trans ((upd_ne pf).trans ((upd_ne pg).trans hp))
    refine ⟨_, rfl, p, _, dx, _, _, rfl, hp2, T.cl_Road, T.n_Road_grounds, rfl, lg, _, rfl, .inl (SqL.of hg), _, _, rfl, rfl, ?_⟩
    have ev : (((gV b ++ [V.int g]).length : Nat) : Int) - 1 = ((b.road.points.length : Nat) : Int) := by
      rw [List.length_append, gV_len]
      show ((b.road.points.length + 1 : Nat) : Int) - 1 = _
      omega
    show Q (.int ((((gV b ++ [V.int g]).length : Nat) : Int) - 1)) _
    rw [ev]
    have tu : Tups H (upd (upd (upd H lg (.lst (gV b ++ [V.int g]))) lf (.lst (xV b ++ [V.non]))) lp (.lst (ws ++ [V.non]))) :=
      (((Tups.refl H).upd (no_tup R.gs (by intro _ q; cases q))).upd (no_tup R.xs (by intro _ q; cases q))).upd (no_tup hw (by intro _ q; cases q))
    refine k _ lg lf lp ⟨⟨dx, hp2⟩, ?_, ?_, ⟨ws ++ [V.non], upd_same, (pw.keep tu).snoc⟩, R.ne1, R.ne2, R.ne3, st⟩ ((((Fr.refl _ _).upd (.inl (by simp))).upd (.inl (by simp))).upd (.inl (by simp))) (fun x hx => .inl hx)
    · rw [hg]
      show some (HO.lst (gV b ++ [V.int g])) = some (HO.lst ((b.road.points ++ [_]).map _))
      rw [List.map_append]
      rfl
    · rw [hf]
      show some (HO.lst (xV b ++ [V.non])) = some (HO.lst ((b.road.points ++ [_]).map _))
      rw [List.map_append]
      rfl
theorem ok_Road_fix (T : Txt K mg t) : FnOk P w K mg base CX0 3 t.f_Road_fix t.d_Road_fix ["self", "point", "height"] (spFix t.C_Road) := by
  have S := sc_Road_fix
  refine T.F_Road_fix.ok S (fun vs H Q E h => ?_) (fun cdv A outer s H vs Q E hr h => ?_)
  · obtain ⟨p, b, i, h, rfl, _⟩ := h
    rfl
  · obtain ⟨p, b, i, h, rfl, lg, lf, lp, R, k⟩ := h
    obtain ⟨dx, hp⟩ := R.ob
    obtain ⟨ws, hw, pw⟩ := R.ps
    have st := R.ok.step (.fix i h)
    rw [step_fix] at k st
    refine ⟨_, (pss_cons (ps_if (pt_not (pt_val (pe_meth (pv 0) T.cl_Road T.m_Road_has_point (ok_Road_has_point T) (hr.mono (by decide)) T.b_Road_has_point .nil pass0 (pa_cons (pv 1) pa_nil))))
 (pss_one (ps_ret (pe_gc rfl T.g_NO_SUCH_POINT)))
 pss_nil)
 (pss_cons (ps_if (pt_cmpR op_gt (pv 2) (pe_gc rfl T.g_MOST_HEIGHT) (nomark _))
 (pss_one (ps_ret (pe_gc rfl T.g_NOT_ALLOWED)))
 pss_nil)
 (pss_cons (ps_asg (pv 2) (pg_sub (pe_fld (pv 0) rfl) (pv 1) set_list))
 (pss_one (ps_ret pe_int))))), ?_⟩
    refine ⟨_, rfl, p, dx, _, rfl, hp, rfl, _, rfl, p, lg, lf, lp, b, i, rfl, R, _, rfl, ite2 (fun h0 => ?_) (fun h0 => ?_)⟩
    · have h' : b.road.points.length ≤ i := by
        simp at h0
        omega
      rw [if_pos h'] at k
      exact k H lg lf lp R (Fr.refl _ _) fun x hx => .inl hx
    have h' : ¬ b.road.points.length ≤ i := by
      simp at h0
      omega
    rw [if_neg h'] at k st
    refine ⟨_, rfl, _, _, rfl, rfl, _, rfl, ite2 (fun h2 => ?_) (fun h2 => ?_)⟩
    · have h2' : 6 < h := by have := of_decide_eq_true h2; omega
      rw [if_pos h2'] at k
      exact k H lg lf lp R (Fr.refl _ _) fun x hx => .inl hx
    have h2' : ¬ 6 < h := by
      rw [decide_eq_true_iff] at h2
      omega
    rw [if_neg h2'] at k st
    refine ⟨_, rfl, _, rfl, p, _, dx, _, _, rfl, hp, T.cl_Road, T.n_Road_fixed, rfl, _, rfl, lf, _, _, i, rfl, rfl, R.xs, ixN_nat (by rw [xV_len]; omega), ?_⟩
    have pf : p ≠ lf := ne_of hp R.xs (by intro q; cases q)
    refine k _ lg lf lp ⟨⟨dx, (upd_ne pf).trans hp⟩, ?_, ?_, ⟨ws, (upd_ne R.ne3.symm).trans hw, pw.keep ((Tups.refl H).upd (no_tup R.xs (by intro _ q; cases q)))⟩, R.ne1, R.ne2, R.ne3, st⟩ ((Fr.refl _ _).upd (.inl (by simp))) (fun x hx => .inl hx)
    · rw [upd_ne R.ne1, R.gs]
      exact congrArg (fun l => some (HO.lst l)) (map_same (r := b.road) (some h)).symm
    · rw [upd_same]
      refine congrArg (fun l => some (HO.lst l)) ?_
      show (b.road.points.map fun q => optV q.fixed).set i (V.int h) = (b.road.points.set i _).map fun q => optV q.fixed
      rw [List.map_set]
      rfl
theorem ok_Road_take_away (T : Txt K mg t) : FnOk P w K mg base CX0 3 t.f_Road_take_away t.d_Road_take_away ["self", "kept", "point"] (spTake t.C_Road) := by
  have S := sc_Road_take_away
  refine T.F_Road_take_away.ok S (fun vs H Q E h => ?_) (fun cdv A outer s H vs Q E hr h => ?_)
  · obtain ⟨p, lg, lf, lp, b, l, ws, i, rfl, _⟩ := h
    rfl
  · obtain ⟨p, lg, lf, lp, b, l, ws, i, rfl, R, hl, wl, k1, k2⟩ := h
    obtain ⟨dx, hp⟩ := R.ob
    refine ⟨_, (pss_cons (ps_if (pt_not (pt_val (pe_meth (pv 0) T.cl_Road T.m_Road_has_point (ok_Road_has_point T) (hr.mono (by decide)) T.b_Road_has_point .nil pass0 (pa_cons (pv 2) pa_nil))))
 (pss_one (ps_ret (pe_gc rfl T.g_NO_SUCH_POINT)))
 pss_nil)
 (pss_cons (ps_if (pt_cmp (pc_isN (pe_ix ix_list (pv 1) (pv 2) (fun _ _ => rfl))))
 (pss_one (ps_ret (pe_gc rfl T.g_NOTHING_THERE)))
 pss_nil)
 (pss_cons (ps_asg pe_non (pg_sub (pv 1) (pv 2) set_list))
 (pss_one (ps_ret pe_int))))), ?_⟩
    refine ⟨_, rfl, p, dx, _, rfl, hp, rfl, _, rfl, p, lg, lf, lp, b, i, rfl, R, _, rfl, ite2 (fun h0 => ?_) (fun h0 => ?_)⟩
    · exact k1 (by simp at h0; omega)
    have h' : i < b.road.points.length := by
      simp at h0
      omega
    have hi : ws[i]? = some ws[i] := List.getElem?_eq_getElem (by omega)
    obtain ⟨k3, k4⟩ := k2 _ h' hi
    refine ⟨_, rfl, _, rfl, l, _, _, _, rfl, rfl, SqL.of hl, atI_nat hi, _, rfl, ite2 (fun h2 => ?_) (fun h2 => ?_)⟩
    · exact k3 (of_decide_eq_true h2)
    · refine ⟨_, rfl, _, rfl, l, _, _, i, rfl, rfl, hl, ixN_nat (by omega), ?_⟩
      exact k4 (fun q => h2 (decide_eq_true q))
theorem ok_Road_free (T : Txt K mg t) : FnOk P w K mg base CX0 5 t.f_Road_free t.d_Road_free ["self", "point"] (spFree t.C_Road) := by
  have S := sc_Road_free
  refine T.F_Road_free.ok S (fun vs H Q E h => ?_) (fun cdv A outer s H vs Q E hr h => ?_)
  · obtain ⟨p, b, i, rfl, _⟩ := h
    rfl
  · obtain ⟨p, b, i, rfl, lg, lf, lp, R, k⟩ := h
    obtain ⟨dx, hp⟩ := R.ob
    obtain ⟨ws, hw, pw⟩ := R.ps
    have st := R.ok.step (.free i)
    rw [step_free] at k st
    refine ⟨_, (pss_one (ps_ret (pe_meth (pv 0) T.cl_Road T.m_Road_take_away (ok_Road_take_away T) (hr.mono (by decide)) T.b_Road_take_away .nil pass0 (pa_cons (pe_fld (pv 0) rfl) (pa_cons (pv 1) pa_nil))))), ?_⟩
    refine ⟨_, rfl, p, dx, _, rfl, hp, rfl, _, rfl, p, _, dx, _, _, rfl, hp, T.cl_Road, T.n_Road_fixed, rfl, _, rfl, ?_⟩
    refine ⟨p, lg, lf, lp, b, lf, xV b, i, rfl, R, R.xs, xV_len b, fun h => ?_, fun v h hv => ?_⟩
    · rw [if_pos h] at k
      exact k H lg lf lp R (Fr.refl _ _) fun x hx => .inl hx
    · rw [if_neg (by omega)] at k st
      rw [xV_at h] at hv
      cases hv
      refine ⟨fun hn => ?_, fun hn => ?_⟩
      · have h2' : (b.road.point i).fixed = none := by
          cases q : (b.road.point i).fixed with
          | none => rfl
          | some n =>
            rw [q] at hn
            cases hn
        rw [if_pos h2'] at k
        exact k H lg lf lp R (Fr.refl _ _) fun x hx => .inl hx
      · have h2' : ¬ (b.road.point i).fixed = none := fun q => hn (by rw [q]; rfl)
        rw [if_neg h2'] at k st
        have pf : p ≠ lf := ne_of hp R.xs (by intro q; cases q)
        refine k _ lg lf lp ⟨⟨dx, (upd_ne pf).trans hp⟩, ?_, ?_, ⟨ws, (upd_ne R.ne3.symm).trans hw, pw.keep ((Tups.refl H).upd (no_tup R.xs (by intro _ q; cases q)))⟩, R.ne1, R.ne2, R.ne3, st⟩ ((Fr.refl _ _).upd (.inl (by simp))) (fun x hx => .inl hx)
        · rw [upd_ne R.ne1, R.gs]
          exact congrArg (fun l => some (HO.lst l)) (map_same (r := b.road) none).symm
        · rw [upd_same]
          refine congrArg (fun l => some (HO.lst l)) ?_
          show (b.road.points.map fun q => optV q.fixed).set i V.non = (b.road.points.set i _).map fun q => optV q.fixed
          rw [List.map_set]
          rfl
theorem ok_Road_pit (T : Txt K mg t) : FnOk P w K mg base CX0 3 t.f_Road_pit t.d_Road_pit ["self", "point", "tipping", "fetching"] (spPit t.C_Road) := by
  have S := sc_Road_pit
  refine T.F_Road_pit.ok S (fun vs H Q E h => ?_) (fun cdv A outer s H vs Q E hr h => ?_)
  · obtain ⟨p, b, i, tp, fe, rfl, _⟩ := h
    rfl
  · obtain ⟨p, b, i, tp, fe, rfl, lg, lf, lp, R, k⟩ := h
    obtain ⟨dx, hp⟩ := R.ob
    obtain ⟨ws, hw, pw⟩ := R.ps
    have wl : ws.length = b.road.points.length := by rw [pw.1, R.ok.pl]
    have st := R.ok.step (.pit i tp fe)
    rw [step_pit] at k st
    refine ⟨_, (pss_cons (ps_if (pt_not (pt_val (pe_meth (pv 0) T.cl_Road T.m_Road_has_point (ok_Road_has_point T) (hr.mono (by decide)) T.b_Road_has_point .nil pass0 (pa_cons (pv 1) pa_nil))))
 (pss_one (ps_ret (pe_gc rfl T.g_NO_SUCH_POINT)))
 pss_nil)
 (pss_cons (ps_if (PW.pt (pw_or (pt_cmpR op_gt (pv 2) (pe_gc rfl T.g_MOST_PRICE) (nomark _)) (pw_or1 (pt_cmpR op_gt (pv 3) (pe_gc rfl T.g_MOST_PRICE) (nomark _)))))
 (pss_one (ps_ret (pe_gc rfl T.g_NOT_ALLOWED)))
 pss_nil)
 (pss_cons (ps_asg (pe_tup (pa_cons (pv 2) (pa_cons (pv 3) pa_nil))) (pg_sub (pe_fld (pv 0) rfl) (pv 1) set_list))
 (pss_one (ps_ret pe_int))))), ?_⟩
    refine ⟨_, rfl, p, dx, _, rfl, hp, rfl, _, rfl, p, lg, lf, lp, b, i, rfl, R, _, rfl, ite2 (fun h0 => ?_) (fun h0 => ?_)⟩
    · have h' : b.road.points.length ≤ i := by
        simp at h0
        omega
      rw [if_pos h'] at k
      exact k H lg lf lp R (Fr.refl _ _) fun x hx => .inl hx
    have h' : ¬ b.road.points.length ≤ i := by
      simp at h0
      omega
    rw [if_neg h'] at k st
    have no : (100 < tp ∨ 100 < fe) → Q (.int (-1)) H := fun h => by
      rw [if_pos h] at k
      exact k H lg lf lp R (Fr.refl _ _) fun x hx => .inl hx
    refine ⟨_, rfl, _, _, rfl, rfl, _, rfl, ite2 (fun h => iteT (no (.inl (by have := of_decide_eq_true h; omega)))) (fun h1 => ?_)⟩
    refine ⟨_, rfl, _, _, rfl, rfl, _, rfl, ite2 (fun h => no (.inr (by have := of_decide_eq_true h; omega))) (fun h2 => ?_)⟩
    have a1 : ¬ (100 < tp ∨ 100 < fe) := by
      rw [decide_eq_true_iff] at h1 h2
      omega
    rw [if_neg a1] at k st
    refine ⟨_, rfl, _, rfl, (by show 2 ≤ sizeLine; decide), fun q hq => ?_⟩
    have qp : p ≠ q := ne_of_none hp hq
    have ql : lp ≠ q := ne_of_none hw hq
    have qg : lg ≠ q := ne_of_none R.gs hq
    have qf : lf ≠ q := ne_of_none R.xs hq
    have hw1 : (upd H q (.tup [V.int tp, V.int fe])) lp = some (.lst ws) := (upd_ne ql).trans hw
    refine ⟨_, rfl, p, _, dx, _, _, rfl, (upd_ne qp).trans hp, T.cl_Road, T.n_Road_pits, rfl, _, rfl, lp, _, _, i, rfl, rfl, hw1, ixN_nat (by omega), ?_⟩
    have pp : p ≠ lp := ne_of hp hw (by intro q; cases q)
    have tu : Tups H (upd (upd H q (.tup [V.int tp, V.int fe])) lp (.lst (ws.set i (.ref q)))) :=
      ((Tups.refl H).upd (fun xs e => by rw [hq] at e; cases e)).upd (no_tup hw (by intro _ q; cases q))
    refine k _ lg lf lp ⟨⟨dx, (upd_ne pp).trans ((upd_ne qp).trans hp)⟩, ?_, ?_, ⟨ws.set i (.ref q), upd_same, (pw.keep tu).put ⟨q, rfl, ?_⟩⟩, R.ne1, R.ne2, R.ne3, st⟩ (((Fr.refl _ _).upd (.inr hq)).upd (.inl (by simp))) (fun x hx => .inl hx)
    · exact (upd_ne R.ne2).trans ((upd_ne qg).trans R.gs)
    · exact (upd_ne R.ne3).trans ((upd_ne qf).trans R.xs)
    · exact (upd_ne ql.symm).trans upd_same
theorem ok_Road_close (T : Txt K mg t) : FnOk P w K mg base CX0 5 t.f_Road_close t.d_Road_close ["self", "point"] (spClose t.C_Road) := by
  have S := sc_Road_close
  refine T.F_Road_close.ok S (fun vs H Q E h => ?_) (fun cdv A outer s H vs Q E hr h => ?_)
  · obtain ⟨p, b, i, rfl, _⟩ := h
    rfl
  · obtain ⟨p, b, i, rfl, lg, lf, lp, R, k⟩ := h
    obtain ⟨dx, hp⟩ := R.ob
    obtain ⟨ws, hw, pw⟩ := R.ps
    have wl : ws.length = b.road.points.length := by rw [pw.1, R.ok.pl]
    have st := R.ok.step (.close i)
    rw [step_close] at k st
    refine ⟨_, (pss_one (ps_ret (pe_meth (pv 0) T.cl_Road T.m_Road_take_away (ok_Road_take_away T) (hr.mono (by decide)) T.b_Road_take_away .nil pass0 (pa_cons (pe_fld (pv 0) rfl) (pa_cons (pv 1) pa_nil))))), ?_⟩
    refine ⟨_, rfl, p, dx, _, rfl, hp, rfl, _, rfl, p, _, dx, _, _, rfl, hp, T.cl_Road, T.n_Road_pits, rfl, _, rfl, ?_⟩
    refine ⟨p, lg, lf, lp, b, lp, ws, i, rfl, R, hw, wl, fun h => ?_, fun v h hv => ?_⟩
    · rw [if_pos h] at k
      exact k H lg lf lp R (Fr.refl _ _) fun x hx => .inl hx
    · rw [if_neg (by omega)] at k st
      have hip : i < b.pits.length := by rw [R.ok.pl]; exact h
      have ho : b.pits[i]? = some b.pits[i] := List.getElem?_eq_getElem hip
      have pv := pw.2 i v _ hv ho
      have eg : b.pits.getD i none = b.pits[i] := by rw [List.getD_eq_getElem?_getD, ho]; rfl
      rw [eg] at k st
      refine ⟨fun hn => ?_, fun hn => ?_⟩
      · have h2' : b.pits[i] = none := by
          cases q : b.pits[i] with
          | none => rfl
          | some x =>
            rw [q] at pv
            obtain ⟨a, e, _⟩ := pv
            rw [hn] at e
            cases e
        rw [if_pos h2'] at k
        exact k H lg lf lp R (Fr.refl _ _) fun x hx => .inl hx
      · have h2' : ¬ b.pits[i] = none := fun q => by
          rw [q] at pv
          exact hn pv
        rw [if_neg h2'] at k st
        have pp : p ≠ lp := ne_of hp hw (by intro q; cases q)
        have tu : Tups H (upd H lp (.lst (ws.set i .non))) := (Tups.refl H).upd (no_tup hw (by intro _ q; cases q))
        refine k _ lg lf lp ⟨⟨dx, (upd_ne pp).trans hp⟩, (upd_ne R.ne2).trans R.gs, (upd_ne R.ne3).trans R.xs, ⟨_, upd_same, (pw.keep tu).put rfl⟩, R.ne1, R.ne2, R.ne3, st⟩ ((Fr.refl _ _).upd (.inl (by simp))) (fun x hx => .inl hx)
end

end RL

end
section
set_option Elab.async false
set_option linter.all false
set_option maxRecDepth 100000
set_option maxHeartbeats 2000000
namespace RL
open PySem PySem.Spec PyProof.Rows L2
section
variable {P : Program} {w : World} {K : PySem.W.Frag} {mg : Str → Option Value} {base : Heap} {t : Adr}
theorem iteD {c A B : Prop} [Decidable c] (hc : c) (h : A) : if decide c = true then A else B := by
  rw [decide_eq_true hc]
  exact iteT h
theorem iteDn {c A B : Prop} [Decidable c] (hc : ¬ c) (h : B) : if decide c = true then A else B := by
  rw [decide_eq_false hc]
  exact iteF h
theorem int_ne {i j : Int} (h : i ≠ j) : ¬ V.int i = V.int j := fun q => h (V.int.inj q)
def nV (l : List Nat) : List V := l.map fun (n : Nat) => V.int n
def iV (l : List Int) : List V := l.map V.int
/-! ### lines -/
def fxB (b : Uw17.Build) (i h : Nat) : Bool := match (b.road.point i).fixed with
  | some f => !(f == h)
  | none => false
def spFixO (C : Addr) : Sp := fun vs H Q _ => ∃ p lg lf lp b, ∃ i h : Nat, vs = [.ref p, .int i, .int h] ∧ RoadAt C H p lg lf lp b ∧ i < b.road.points.length ∧ Q (.bl (fxB b i h)) H
theorem ok_fixed_otherwise (T : Txt K mg t) : FnOk P w K mg base CX0 1 t.f_fixed_otherwise t.d_fixed_otherwise ["road", "point", "height"] (spFixO t.C_Road) := by
  have S := sc_fixed_otherwise
  refine T.F_fixed_otherwise.ok S (fun vs H Q E h => ?_) (fun cdv A outer s H vs Q E hr h => ?_)
  · obtain ⟨p, lg, lf, lp, b, i, h, rfl, _⟩ := h
    rfl
  · obtain ⟨p, lg, lf, lp, b, i, h, rfl, R, hi, k⟩ := h
    obtain ⟨dx, hp⟩ := R.ob
    refine ⟨_, (pss_one (ps_ret (pe_and (pe_cmp (pc_notN (pe_ix ix_list (pe_fld (pv 0) rfl) (pv 1) (fun _ _ => rfl)))) (pe_one (pe_cmpR op_ne (pe_ix ix_list (pe_fld (pv 0) rfl) (pv 1) (fun _ _ => rfl)) (pv 2) (nomark _)))))), ?_⟩
    refine ⟨_, rfl, p, _, dx, _, _, rfl, hp, T.cl_Road, T.n_Road_fixed, rfl, _, rfl, lf, _, _, _, rfl, rfl, SqL.of R.xs, atI_nat (xV_at hi), _, rfl, ?_⟩
    unfold fxB at k
    cases e : (b.road.point i).fixed with
    | none =>
      rw [e] at k
      exact iteF k
    | some f =>
      rw [e] at k
      refine iteT ?_
      have xe : (xV b)[i]? = some (V.int f) := by rw [xV_at hi, e]; rfl
      refine ⟨_, rfl, p, _, dx, _, _, rfl, hp, T.cl_Road, T.n_Road_fixed, rfl, _, rfl, lf, _, _, _, rfl, rfl, SqL.of R.xs, atI_nat xe, _, rfl, rfl, ?_⟩
      have q : (!decide (V.int (f : Int) = V.int (h : Int))) = !(f == h) := by
        by_cases z : f = h
        · subst z
          simp
        · rw [decide_eq_false (int_ne (by omega)), beq_eq_false_iff_ne.mpr z]
      show Q (.bl (!decide (V.int (f : Int) = V.int (h : Int)))) H
      rw [q]
      exact k
def spSteep (C : Addr) : Sp := fun vs H Q _ => ∃ p lg lf lp b, ∃ h n : Nat, vs = [.ref p, .int h, .int n] ∧ RoadAt C H p lg lf lp b ∧ Q (.bl (decide (b.road.slope < Uw16.apart h n))) H
theorem ok_too_steep (T : Txt K mg t) : FnOk P w K mg base CX0 1 t.f_too_steep t.d_too_steep ["road", "height", "next_height"] (spSteep t.C_Road) := by
  have S := sc_too_steep
  refine T.F_too_steep.ok S (fun vs H Q E h => ?_) (fun cdv A outer s H vs Q E hr h => ?_)
  · obtain ⟨p, lg, lf, lp, b, h, n, rfl, _⟩ := h
    rfl
  · obtain ⟨p, lg, lf, lp, b, h, n, rfl, R, k⟩ := h
    obtain ⟨dx, hp⟩ := R.ob
    refine ⟨_, (pss_one (ps_ret (pe_cmpR op_gt (pe_callB call_abs (by rfl) T.n_abs PyProof.Rows.boot_abs (pa_cons (pe_op op_sub (pv 2) (pv 1)) pa_nil)) (pe_fld (pv 0) rfl) (nomark _)))), ?_⟩
    refine ⟨_, rfl, _, rfl, _, _, rfl, rfl, _, rfl, _, rfl, p, _, dx, _, _, rfl, hp, T.cl_Road, T.n_Road_steep, rfl, _, _, rfl, rfl, ?_⟩
    have e : decide ((b.road.slope : Int) < (if ((n : Int) - (h : Int)) < 0 then -((n : Int) - (h : Int)) else ((n : Int) - (h : Int)))) = decide (b.road.slope < Uw16.apart h n) := by
      unfold Uw16.apart
      refine decide_eq_decide.mpr ?_
      split <;> omega
    show Q (.bl (decide ((b.road.slope : Int) < (if ((n : Int) - (h : Int)) < 0 then -((n : Int) - (h : Int)) else ((n : Int) - (h : Int)))))) H
    rw [e]
    exact k
def spBends (C : Addr) : Sp := fun vs H Q _ => ∃ p lg lf lp b, ∃ g h n : Nat, vs = [.ref p, .int g, .int h, .int n] ∧ RoadAt C H p lg lf lp b ∧ Q (.bl (decide (b.road.bend < Uw16.apart (g + n) (2 * h)))) H
theorem ok_bends_too_much (T : Txt K mg t) : FnOk P w K mg base CX0 1 t.f_bends_too_much t.d_bends_too_much ["road", "height_before", "height", "next_height"] (spBends t.C_Road) := by
  have S := sc_bends_too_much
  refine T.F_bends_too_much.ok S (fun vs H Q E h => ?_) (fun cdv A outer s H vs Q E hr h => ?_)
  · obtain ⟨p, lg, lf, lp, b, g, h, n, rfl, _⟩ := h
    rfl
  · obtain ⟨p, lg, lf, lp, b, g, h, n, rfl, R, k⟩ := h
    obtain ⟨dx, hp⟩ := R.ob
    refine ⟨_, (pss_one (ps_ret (pe_cmpR op_gt (pe_callB call_abs (by rfl) T.n_abs PyProof.Rows.boot_abs (pa_cons (pe_op op_sub (pe_op op_add (pv 1) (pv 3)) (pe_op op_mul pe_int (pv 2))) pa_nil)) (pe_fld (pv 0) rfl) (nomark _)))), ?_⟩
    refine ⟨_, rfl, _, rfl, _, _, rfl, rfl, _, rfl, _, _, rfl, rfl, .inl (by decide), _, _, rfl, rfl, _, rfl, _, rfl, p, _, dx, _, _, rfl, hp, T.cl_Road, T.n_Road_bend, rfl, _, _, rfl, rfl, ?_⟩
    have e : decide ((b.road.bend : Int) < (if ((g : Int) + (n : Int) - 2 * (h : Int)) < 0 then -((g : Int) + (n : Int) - 2 * (h : Int)) else ((g : Int) + (n : Int) - 2 * (h : Int)))) = decide (b.road.bend < Uw16.apart (g + n) (2 * h)) := by
      unfold Uw16.apart
      refine decide_eq_decide.mpr ?_
      split <;> omega
    show Q (.bl (decide ((b.road.bend : Int) < (if ((g : Int) + (n : Int) - 2 * (h : Int)) < 0 then -((g : Int) + (n : Int) - 2 * (h : Int)) else ((g : Int) + (n : Int) - 2 * (h : Int)))))) H
    rw [e]
    exact k
def prI (x a c : Int) : Int := if 0 < x then x * a else -x * c
def spPriced : Sp := fun vs H Q _ => ∃ x a c : Int, vs = [.int x, .int a, .int c] ∧ (-1000000 ≤ x ∧ x ≤ 1000000) ∧ Q (.int (prI x a c)) H
theorem ok_priced (T : Txt K mg t) : FnOk P w K mg base CX0 1 t.f_priced t.d_priced ["units", "above", "below"] spPriced := by
  have S := sc_priced
  refine T.F_priced.ok S (fun vs H Q E h => ?_) (fun cdv A outer s H vs Q E hr h => ?_)
  · obtain ⟨x, a, c, rfl, _⟩ := h
    rfl
  · obtain ⟨x, a, c, rfl, hx, k⟩ := h
    refine ⟨_, (pss_cons (ps_if (pt_cmpR op_gt (pv 0) pe_int (nomark _))
 (pss_one (ps_ret (pe_op op_mul (pv 0) (pv 1))))
 pss_nil)
 (pss_one (ps_ret (pe_op op_mul (pe_un un_neg (pv 0)) (pv 2))))), ?_⟩
    unfold prI at k
    refine ⟨_, rfl, _, _, rfl, rfl, _, rfl, ite2 (fun h => ?_) (fun h => ?_)⟩
    · have h' : 0 < x := of_decide_eq_true h
      rw [if_pos h'] at k
      exact ⟨_, rfl, _, rfl, _, _, rfl, rfl, .inl (by omega), k⟩
    · have h' : ¬ 0 < x := fun q => h (decide_eq_true q)
      rw [if_neg h'] at k
      exact ⟨_, rfl, _, rfl, _, rfl, _, _, rfl, rfl, .inl (by omega), k⟩
/-! ### what is over -/
def ovs (b : Uw17.Build) (l : List Nat) : List Int := (List.range l.length).map fun i => ((b.road.point i).ground : Int) - (l.getD i 0 : Int)
theorem ovs_len (b : Uw17.Build) (l : List Nat) : (ovs b l).length = l.length := by
  unfold ovs
  rw [List.length_map, List.length_range]
theorem ovs_at (b : Uw17.Build) {l : List Nat} {i : Nat} (h : i < l.length) : (ovs b l)[i]? = some (((b.road.point i).ground : Int) - (l.getD i 0 : Int)) := by
  unfold ovs
  rw [List.getElem?_map, List.getElem?_range h]
  rfl
theorem gV_at {b : Uw17.Build} {i : Nat} (h : i < b.road.points.length) : (gV b)[i]? = some (V.int (b.road.point i).ground) := by
  unfold gV Uw16.Road.point
  rw [List.getElem?_map, List.getD_eq_getElem?_getD, List.getElem?_eq_getElem h]
  rfl
theorem nV_at {l : List Nat} {i : Nat} (h : i < l.length) : (nV l)[i]? = some (V.int (l.getD i 0 : Nat)) := by
  unfold nV
  rw [List.getElem?_map, List.getD_eq_getElem?_getD, List.getElem?_eq_getElem h]
  rfl
theorem nV_len (l : List Nat) : (nV l).length = l.length := List.length_map ..
theorem iV_len (l : List Int) : (iV l).length = l.length := List.length_map ..
theorem iV_at {l : List Int} {i : Nat} {x : Int} (h : l[i]? = some x) : (iV l)[i]? = some (V.int x) := by
  unfold iV
  rw [List.getElem?_map, h]
  rfl
/-- a line in the heap, as a list or a tuple -/
def LnAt (K : PySem.W.Frag) (H : Hp) (a : Addr) (l : List Nat) : Prop := SqL K H a (nV l) ∨ SqT K H a (nV l)
def spOver (C : Addr) (K : PySem.W.Frag) : Sp := fun vs H Q _ => ∃ p lg lf lp b a l, vs = [.ref p, .ref a] ∧ RoadAt C H p lg lf lp b ∧ LnAt K H a l ∧ l.length = b.road.points.length ∧
  ∀ H' r, Same H H' → H r = none → H' r = some (.lst (iV (ovs b l))) → Q (.ref r) H'
theorem ok_units_over (T : Txt K mg t) : FnOk P w K mg base CX0 1 t.f_units_over t.d_units_over ["road", "line"] (spOver t.C_Road K) := by
  have S := sc_units_over
  refine T.F_units_over.ok S (fun vs H Q E h => ?_) (fun cdv A outer s H vs Q E hr h => ?_)
  · obtain ⟨p, lg, lf, lp, b, a, l, rfl, _⟩ := h
    rfl
  · obtain ⟨p, lg, lf, lp, b, a, l, rfl, R, hl, hn, k⟩ := h
    obtain ⟨dx, hp⟩ := R.ob
    refine ⟨_, (pss_one (ps_ret (pe_lc rfl S.nd (pi_zipB rfl T.n_zip (pa_cons (pe_fld (pv 0) rfl) (pa_cons (pv 1) pa_nil))) (blkOk_by (own := [("ground", 2), ("height", 3)]) rfl) (fun _ _ _ _ _ => (pg_tupK (K := K) (n := 2) rfl rfl (pgs_cons (pg_name (i := 2) S.nd rfl (Or.inl rfl)) (pgs_cons (pg_name (i := 3) S.nd rfl (Or.inl rfl)) pgs_nil)))) (fun _ _ _ _ _ => pts_nil) (fun _ _ _ _ _ => (pe_op op_sub (pv 2) (pv 3)))))), ?_⟩
    refine ⟨_, rfl, p, _, dx, _, _, rfl, hp, T.cl_Road, T.n_Road_grounds, rfl, _, rfl, lg, a, gV b, nV l, rfl, SqL.of R.gs, ?_⟩
    have few := R.ok.few
    have hlen : (iV (ovs b l)).length = b.road.points.length := by rw [iV_len, ovs_len, hn]
    have val : ∀ i, i < b.road.points.length → (iV (ovs b l))[i]? = some (V.int (((b.road.point i).ground : Int) - (l.getD i 0 : Int))) := fun i lt => iV_at (ovs_at b (by omega))
    rcases hl with hl | hl
    · refine .inl ⟨hl, fun D hD => lc_map (n := b.road.points.length) (iV (ovs b l)) hlen (by omega) hD (fun i H' lt sm => ⟨_, _, _, _, sm.seq (SqL.of R.gs), sm.seq hl, gV_at lt, nV_at (by omega)⟩) (fun H' sm => ⟨_, _, sm.seq (SqL.of R.gs), sm.seq hl, .inl (by rw [gV_len]; exact Nat.le_refl _)⟩) (fun i H1 x H2 y => ?_) (fun i H1 x H2 lt sm y sm2 N hN => ?_) (fun H' sm hD' => k H' D sm hD hD')⟩
      · obtain ⟨T', x', y', rfl, hT, rfl, _⟩ := y
        exact Same.new hT
      · obtain ⟨T', x', y', rfl, hT, rfl, hx, hy⟩ := y
        have ex := hx _ (sm.seq (SqL.of R.gs))
        have ey := hy _ (sm.seq hl)
        rw [gV_at lt] at ex
        rw [nV_at (by omega)] at ey
        cases ex
        cases ey
        exact ⟨T', _, rfl, SqT.of upd_same, rfl, _, _, rfl, _, _, rfl, rfl, rfl, _, rfl, _, rfl, _, _, rfl, rfl, hN _ _ (val i lt) (Same.refl _)⟩
    · refine .inr ⟨hl, fun D hD => lc_map (n := b.road.points.length) (iV (ovs b l)) hlen (by omega) hD (fun i H' lt sm => ⟨_, _, _, _, sm.seq (SqL.of R.gs), sm.tup hl, gV_at lt, nV_at (by omega)⟩) (fun H' sm => ⟨_, _, sm.seq (SqL.of R.gs), sm.tup hl, .inl (by rw [gV_len]; exact Nat.le_refl _)⟩) (fun i H1 x H2 y => ?_) (fun i H1 x H2 lt sm y sm2 N hN => ?_) (fun H' sm hD' => k H' D sm hD hD')⟩
      · obtain ⟨T', x', y', rfl, hT, rfl, _⟩ := y
        exact Same.new hT
      · obtain ⟨T', x', y', rfl, hT, rfl, hx, hy⟩ := y
        have ex := hx _ (sm.seq (SqL.of R.gs))
        have ey := hy _ (sm.tup hl)
        rw [gV_at lt] at ex
        rw [nV_at (by omega)] at ey
        cases ex
        cases ey
        exact ⟨T', _, rfl, SqT.of upd_same, rfl, _, _, rfl, _, _, rfl, rfl, rfl, _, rfl, _, rfl, _, _, rfl, rfl, hN _ _ (val i lt) (Same.refl _)⟩
/-! ### what a line costs -/
theorem total16_int : ∀ l : List Nat, ((Uw16.total l : Nat) : Int) = (l.map fun (n : Nat) => (n : Int)).sum
  | [] => rfl
  | x :: l => by
    have e : Uw16.total (x :: l) = x + Uw16.total l := by
      unfold Uw16.total
      rw [List.foldl_cons, foldl_add]
      omega
    rw [e, Int.natCast_add, total16_int l]
    rfl
theorem total9_int : ∀ l : List Nat, ((Uw09.total l : Nat) : Int) = (l.map fun (n : Nat) => (n : Int)).sum
  | [] => rfl
  | x :: l => by
    rw [total_cons, Int.natCast_add, total9_int l]
    rfl
def prices (b : Uw17.Build) (l : List Nat) : List Int := (ovs b l).map fun x => prI x b.road.dig b.road.fill
theorem prI_price {b : Uw17.Build} {i h : Nat} : prI (((b.road.point i).ground : Int) - (h : Int)) b.road.dig b.road.fill = (b.road.price i h : Nat) := by
  unfold prI
  by_cases c : 0 < ((b.road.point i).ground : Int) - (h : Int)
  · rw [if_pos c, price_dig (by omega)]
  · rw [if_neg c, price_fill (by omega)]
    congr 1
    omega
theorem prices_sum {b : Uw17.Build} {l : List Nat} : (prices b l).sum = (b.road.cost l : Nat) := by
  show _ = ((Uw16.total ((List.range l.length).map fun i => b.road.price i (l.getD i 0)) : Nat) : Int)
  rw [total16_int]
  unfold prices ovs
  rw [List.map_map]; rw [List.map_map]
  congr 1
  refine List.map_congr_left fun i hmem => ?_
  exact prI_price
theorem ovs_low {b : Uw17.Build} (o : Ok b) {l : List Nat} (hl : ∀ x ∈ l, x ≤ 6) {i : Nat} {x : Int} (h : (ovs b l)[i]? = some x) : -6 ≤ x ∧ x ≤ 6 := by
  have hi : i < l.length := by
    have := (List.getElem?_eq_some_iff.mp h).1
    rwa [ovs_len] at this
  rw [ovs_at b hi] at h
  cases h
  have h1 := ground_low o i
  have h2 := low_at hl i
  omega
def spCost (C : Addr) (K : PySem.W.Frag) : Sp := fun vs H Q _ => ∃ p lg lf lp b a l, vs = [.ref p, .ref a] ∧ RoadAt C H p lg lf lp b ∧ LnAt K H a l ∧ l.length = b.road.points.length ∧ (∀ x ∈ l, x ≤ 6) ∧
  ∀ H', Same H H' → Q (.int (b.road.cost l : Nat)) H'
theorem ok_line_cost (T : Txt K mg t) : FnOk P w K mg base CX0 3 t.f_line_cost t.d_line_cost ["road", "line"] (spCost t.C_Road K) := by
  have S := sc_line_cost
  refine T.F_line_cost.ok S (fun vs H Q E h => ?_) (fun cdv A outer s H vs Q E hr h => ?_)
  · obtain ⟨p, lg, lf, lp, b, a, l, rfl, _⟩ := h
    rfl
  · obtain ⟨p, lg, lf, lp, b, a, l, rfl, R, hl, hn, low, k⟩ := h
    refine ⟨_, (pss_one (ps_ret (pe_callB (cr_sum rfl) (by rfl) T.n_sum PyProof.Rows.boot_sum (pa_cons (pe_lc rfl S.nd (pi_list (pe_call (ok_units_over T) (hr.mono (by decide)) rfl T.m_units_over T.F_units_over.kp T.b_units_over .nil pass0 (pa_cons (pv 0) (pa_cons (pv 1) pa_nil)))) (blkOk_by (own := [("units", 2)]) rfl) (fun _ _ _ _ _ => (pg_name (i := 2) S.nd rfl (Or.inl rfl))) (fun _ _ _ _ _ => pts_nil) (fun _ _ _ _ _ => (pe_call (ok_priced T) (hr.mono (by decide)) rfl T.m_priced T.F_priced.kp T.b_priced .nil pass0 (pa_cons (pv 2) (pa_cons (pe_fldK (K := K) rfl (pv 0) rfl) (pa_cons (pe_fldK (K := K) rfl (pv 0) rfl) pa_nil)))))) pa_nil)))), ?_⟩
    have few := R.ok.few
    refine ⟨_, rfl, _, rfl, p, lg, lf, lp, b, a, l, rfl, R, hl, hn, fun H1 r s1 hr0 hr1 => ?_⟩
    have R1 := R.same s1
    obtain ⟨dx, hp⟩ := R1.ob
    refine ⟨r, rfl, ⟨_, SqL.of hr1⟩, fun D hD => lc_map (n := b.road.points.length) (iV (prices b l)) (by unfold prices; rw [iV_len, List.length_map, ovs_len, hn]) (by omega) hD (fun i H' lt sm => ⟨_, _, sm.seq (SqL.of hr1), iV_at (ovs_at b (by omega))⟩) (fun H' sm => ⟨_, sm.seq (SqL.of hr1), by rw [iV_len, ovs_len]; omega⟩) (fun i H1 x H2 y => ?_) (fun i H1 x H2 lt sm y sm2 N hN => ?_) (fun H' sm hD' => ?_)⟩
    · obtain ⟨rfl, _⟩ := y
      exact Same.refl _
    · obtain ⟨rfl, hy⟩ := y
      have ey := hy _ (sm.seq (SqL.of hr1))
      have e0 := ovs_at b (l := l) (i := i) (by omega)
      rw [iV_at e0] at ey
      cases ey
      have lw := ovs_low R.ok low e0
      refine ⟨rfl, _, rfl, _, rfl, p, _, dx, _, _, rfl, sm _ _ hp, T.cl_Road, T.n_Road_dig, rfl, _, rfl, p, _, dx, _, _, rfl, sm _ _ hp, T.cl_Road, T.n_Road_fill, rfl, _, _, _, rfl, by omega, ?_⟩
      refine hN _ _ ?_ (Same.refl _)
      refine iV_at ?_
      unfold prices
      rw [List.getElem?_map, e0]
      rfl
    · refine ⟨D, prices b l, rfl, SqL.of hD', ?_⟩
      show Q (.int (prices b l).sum) H'
      rw [prices_sum]
      exact k H' (s1.trans sm)
end

end RL

end
section
set_option Elab.async false
set_option linter.all false
set_option maxRecDepth 100000
set_option maxHeartbeats 2000000
namespace RL
open PySem PySem.Spec PyProof.Rows L2
section
variable {P : Program} {w : World} {K : PySem.W.Frag} {mg : Str → Option Value} {base : Heap} {t : Adr}
/-! ### hauling -/
def spMay : Sp := fun vs H Q _ => ∃ v o, ∃ x : Int, vs = [v, .int x] ∧ PitIs H v o ∧ Q (.bl (mayB o x)) H
theorem ok_may_be_left (T : Txt K mg t) : FnOk P w K mg base CX0 1 t.f_may_be_left t.d_may_be_left ["pit", "left"] spMay := by
  have S := sc_may_be_left
  refine T.F_may_be_left.ok S (fun vs H Q E h => ?_) (fun cdv A outer s H vs Q E hr h => ?_)
  · obtain ⟨v, o, x, rfl, _⟩ := h
    rfl
  · obtain ⟨v, o, x, rfl, hv, k⟩ := h
    refine ⟨_, (pss_one (ps_ret (pe_or (pe_cmp (pc_notN (pv 0))) (pe_one (pe_cmpR op_eq (pv 1) pe_int (nomark _)))))), ?_⟩
    refine ⟨_, rfl, _, rfl, ?_⟩
    unfold mayB at k
    cases o with
    | none =>
      have hv' : v = .non := hv
      subst hv'
      refine iteF ⟨_, rfl, rfl, ?_⟩
      have e : decide (V.int x = V.int 0) = decide (x = 0) := decide_eq_decide.mpr ⟨fun q => V.int.inj q, fun q => by rw [q]⟩
      show Q (.bl (decide (V.int x = V.int 0))) H
      rw [e]
      exact k
    | some y =>
      obtain ⟨a, rfl, _⟩ := hv
      exact iteT k
def spPitCost : Sp := fun vs H Q _ => ∃ v o, ∃ x : Int, vs = [v, .int x] ∧ PitIs H v o ∧ (-1000000 ≤ x ∧ x ≤ 1000000) ∧ Q (.int (pcost o x)) H
theorem ok_pit_cost (T : Txt K mg t) : FnOk P w K mg base CX0 3 t.f_pit_cost t.d_pit_cost ["pit", "left"] spPitCost := by
  have S := sc_pit_cost
  refine T.F_pit_cost.ok S (fun vs H Q E h => ?_) (fun cdv A outer s H vs Q E hr h => ?_)
  · obtain ⟨v, o, x, rfl, _⟩ := h
    rfl
  · obtain ⟨v, o, x, rfl, hv, hx, k⟩ := h
    refine ⟨_, (pss_cons (ps_if (pt_cmp (pc_isN (pv 0)))
 (pss_one (ps_ret pe_int))
 pss_nil)
 (pss_one (ps_ret (pe_call (ok_priced T) (hr.mono (by decide)) rfl T.m_priced T.F_priced.kp T.b_priced .nil pass0 (pa_cons (pv 1) (pa_cons (pe_ix ix_tup (pv 0) pe_int (fun _ _ => rfl)) (pa_cons (pe_ix ix_tup (pv 0) pe_int (fun _ _ => rfl)) pa_nil))))))), ?_⟩
    unfold pcost at k
    cases o with
    | none =>
      have hv' : v = .non := hv
      subst hv'
      exact ⟨_, rfl, _, rfl, iteT k⟩
    | some y =>
      obtain ⟨tp, fe⟩ := y
      obtain ⟨a, rfl, ha⟩ := hv
      refine ⟨_, rfl, _, rfl, iteF ?_⟩
      exact ⟨_, rfl, _, rfl, a, _, _, _, rfl, rfl, SqT.of ha, atI_nat (j := 0) rfl, _, rfl, a, _, _, _, rfl, rfl, SqT.of ha, atI_nat (j := 1) rfl, x, _, _, rfl, hx, k⟩
/-- hauls in the heap -/
def HaulsAt (K : PySem.W.Frag) (H : Hp) (a : Addr) (p : Uw09.Plan) : Prop := ∃ rs : List Addr, SqL K H a (rs.map V.ref) ∧ rs.length = p.length ∧ ∀ (i : Nat) (r : Addr) (h : Uw09.Haul), rs[i]? = some r → p[i]? = some h → SqL K H r [.int h.from_, .int h.to, .int h.loads]
theorem HaulsAt.same {H H' : Hp} {a : Addr} {p : Uw09.Plan} (h : HaulsAt K H a p) (s : Same H H') : HaulsAt K H' a p := by
  obtain ⟨rs, h1, h2, h3⟩ := h
  exact ⟨rs, s.seq h1, h2, fun i r g e1 e2 => s.seq (h3 i r g e1 e2)⟩
def lefts (b : Uw17.Build) (l : List Nat) (p : Uw09.Plan) : List Int := (List.range l.length).map fun i => Uw09.rest (b.earth l) p i
theorem lefts_len (b : Uw17.Build) (l : List Nat) (p : Uw09.Plan) : (lefts b l p).length = l.length := by
  unfold lefts
  rw [List.length_map, List.length_range]
theorem lefts_at (b : Uw17.Build) {l : List Nat} {p : Uw09.Plan} {i : Nat} (h : i < l.length) : (lefts b l p)[i]? = some (Uw09.rest (b.earth l) p i) := by
  unfold lefts
  rw [List.getElem?_map, List.getElem?_range h]
  rfl
theorem lefts_nil (b : Uw17.Build) (l : List Nat) : lefts b l [] = ovs b l := by
  unfold lefts ovs
  refine List.map_congr_left fun i hi => ?_
  rw [rest_eq, earth_getD b (List.mem_range.mp hi)]
  show (((b.road.point i).ground : Int) - (l.getD i 0 : Int) + (0 : Int)) - 0 = ((b.road.point i).ground : Int) - (l.getD i 0 : Int)
  omega
theorem lefts_snoc (b : Uw17.Build) {l : List Nat} {p : Uw09.Plan} {h : Uw09.Haul} (h1 : h.from_ < l.length) (h2 : h.to < l.length) (ne : h.from_ ≠ h.to) :
    lefts b l (p ++ [h]) = ((lefts b l p).set h.from_ (Uw09.rest (b.earth l) p h.from_ - h.loads)).set h.to (Uw09.rest (b.earth l) p h.to + h.loads) := by
  apply List.ext_getElem?
  intro j
  by_cases hj : j < l.length
  · rw [lefts_at b hj, rest_eq, inAt_snoc, outAt_snoc]
    by_cases e2 : h.to = j
    · subst e2
      rw [List.getElem?_set_self (by rw [List.length_set, lefts_len]; exact h2), if_pos rfl, if_neg ne, rest_eq]
      congr 1
      omega
    · rw [List.getElem?_set_ne e2, if_neg e2]
      by_cases e1 : h.from_ = j
      · subst e1
        rw [List.getElem?_set_self (by rw [lefts_len]; exact h1), if_pos rfl, rest_eq]
        congr 1
        omega
      · rw [List.getElem?_set_ne e1, lefts_at b hj, if_neg e1, rest_eq]
        congr 1
        omega
  · rw [List.getElem?_eq_none (by rw [lefts_len]; omega), List.getElem?_eq_none (by rw [List.length_set, List.length_set, lefts_len]; omega)]
/-- hauls as check lets them through -/
def HOk (n : Nat) (p : Uw09.Plan) : Prop := p.length ≤ 20 ∧ ∀ h ∈ p, h.from_ < n ∧ h.to < n ∧ h.from_ ≠ h.to ∧ h.loads ≤ 1000
def spLeft (C : Addr) (K : PySem.W.Frag) : Sp := fun vs H Q _ => ∃ p lg lf lp b a l c pl, vs = [.ref p, .ref a, .ref c] ∧ RoadAt C H p lg lf lp b ∧ LnAt K H a l ∧ l.length = b.road.points.length ∧ HaulsAt K H c pl ∧ HOk l.length pl ∧
  ∀ H' r, Same H H' → H r = none → H' r = some (.lst (iV (lefts b l pl))) → Q (.ref r) H'
theorem ok_units_left (T : Txt K mg t) : FnOk P w K mg base CX0 3 t.f_units_left t.d_units_left ["road", "line", "hauls"] (spLeft t.C_Road K) := by
  have S := sc_units_left
  refine T.F_units_left.ok S (fun vs H Q E h => ?_) (fun cdv A outer s H vs Q E hr h => ?_)
  · obtain ⟨p, lg, lf, lp, b, a, l, c, pl, rfl, _⟩ := h
    rfl
  · obtain ⟨p, lg, lf, lp, b, a, l, c, pl, rfl, R, hl, hn, hh, ho, k⟩ := h
    refine ⟨_, (pss_cons (ps_set (i := 3) S.nd rfl (Or.inl rfl) (pe_call (ok_units_over T) (hr.mono (by decide)) rfl T.m_units_over T.F_units_over.kp T.b_units_over .nil pass0 (pa_cons (pv 0) (pa_cons (pv 1) pa_nil))))
 (pss_cons (ps_for PassesOwn.never rfl (pi_list (pv 2)) (pg_lst rfl (pgs_cons (pg_name (i := 4) S.nd rfl (Or.inl rfl)) (pgs_cons (pg_name (i := 5) S.nd rfl (Or.inl rfl)) (pgs_cons (pg_name (i := 6) S.nd rfl (Or.inl rfl)) pgs_nil))))
 (pss_cons (ps_augS (pv 3) (pv 4) get_list (pv 6) ip_sub set_list)
 (pss_one (ps_augS (pv 3) (pv 5) get_list (pv 6) ip_add set_list))))
 (pss_one (ps_ret (pv 3))))), ?_⟩
    refine ⟨_, rfl, _, rfl, p, lg, lf, lp, b, a, l, rfl, R, hl, hn, fun H1 r s1 hr0 hr1 => ?_⟩
    obtain ⟨rs, g1, g2, g3⟩ := hh
    refine ⟨_, rfl, c, rfl, ⟨_, s1.seq g1⟩, ?_⟩
    refine for_it (n := rs.length) (fun i σ H' => ∃ v4 v5 v6, σ = [some (.ref p), some (.ref a), some (.ref c), some (.ref r), v4, v5, v6] ∧ Same H H' ∧ H' r = some (.lst (iV (lefts b l (pl.take i))))) ⟨none, none, none, rfl, s1, ?_⟩ ?_ ?_ ?_ ?_
    · rw [List.take_zero, lefts_nil]
      exact hr1
    · rintro i σ H' lt ⟨v4, v5, v6, rfl, sm, _⟩
      exact ⟨_, V.ref rs[i], sm.seq g1, by rw [List.getElem?_map, List.getElem?_eq_getElem lt]; rfl⟩
    · rintro σ H' ⟨v4, v5, v6, rfl, sm, _⟩
      exact ⟨_, sm.seq g1, by rw [List.length_map]; exact Nat.le_refl _⟩
    · rintro i σ H' x H2 lt ⟨v4, v5, v6, rfl, sm, hv⟩ ⟨rfl, y⟩
      have ey := y _ (sm.seq g1)
      rw [List.getElem?_map, List.getElem?_eq_getElem lt] at ey
      cases ey
      have hp : pl[i]? = some pl[i] := List.getElem?_eq_getElem (by omega)
      have q := sm.seq (g3 i rs[i] pl[i] (List.getElem?_eq_getElem lt) hp)
      obtain ⟨o1, o2, o3, o4⟩ := ho.2 _ (List.getElem_mem (show i < pl.length by omega))
      generalize pl[i] = h at hp q o1 o2 o3 o4
      refine ⟨_, _, rfl, q, rfl, _, _, rfl, _, _, rfl, _, _, rfl, rfl, ?_⟩
      have e1 : (lefts b l (pl.take i)).length = l.length := lefts_len ..
      have a1 := iV_at (lefts_at b (p := pl.take i) o1)
      refine ⟨_, rfl, _, rfl, r, _, _, _, rfl, rfl, SqL.of hv, atI_nat a1, _, rfl, _, _, rfl, rfl, r, _, _, h.from_, rfl, rfl, hv, ixN_nat (by rw [iV_len, e1]; exact o1), ?_⟩
      have a2 : ((iV (lefts b l (pl.take i))).set h.from_ (V.int (Uw09.rest (b.earth l) (pl.take i) h.from_ - (h.loads : Int))))[h.to]? = some (V.int (Uw09.rest (b.earth l) (pl.take i) h.to)) := by
        rw [List.getElem?_set_ne o3]
        exact iV_at (lefts_at b o2)
      refine ⟨_, rfl, _, rfl, r, _, _, _, rfl, rfl, SqL.of upd_same, atI_nat a2, _, rfl, _, _, rfl, rfl, r, _, _, h.to, rfl, rfl, upd_same, ixN_nat (by rw [List.length_set, iV_len, e1]; exact o2), ?_⟩
      refine ⟨some (.int h.from_), some (.int h.to), some (.int h.loads), rfl, fun b' o' e' => ?_, ?_⟩
      · have nb : b' ≠ r := fun z => by rw [z, hr0] at e'; cases e'
        rw [upd_ne nb, upd_ne nb]
        exact sm _ _ e'
      · rw [upd_same, List.take_add_one, hp]
        show some (HO.lst _) = some (HO.lst (iV (lefts b l (pl.take i ++ [h]))))
        rw [lefts_snoc b o1 o2 o3]
        unfold iV
        rw [List.map_set, List.map_set]
    · rintro σ H' ⟨v4, v5, v6, rfl, sm, hv⟩
      rw [g2, List.take_length] at hv
      exact ⟨_, rfl, k H' r sm hr0 hv⟩
def spCarry (K : PySem.W.Frag) : Sp := fun vs H Q _ => ∃ c pl, vs = [.ref c] ∧ HaulsAt K H c pl ∧ pl.length ≤ 20 ∧ (∀ h ∈ pl, h.from_ ≤ 5 ∧ h.to ≤ 5) ∧ ∀ H', Same H H' → Q (.int (haulsCost pl : Nat)) H'
theorem ok_carrying_cost (T : Txt K mg t) : FnOk P w K mg base CX0 1 t.f_carrying_cost t.d_carrying_cost ["hauls"] (spCarry K) := by
  have S := sc_carrying_cost
  refine T.F_carrying_cost.ok S (fun vs H Q E h => ?_) (fun cdv A outer s H vs Q E hr h => ?_)
  · obtain ⟨c, pl, rfl, _⟩ := h
    rfl
  · obtain ⟨c, pl, rfl, ⟨rs, g1, g2, g3⟩, hn, hs, k⟩ := h
    refine ⟨_, (pss_one (ps_ret (pe_callB (cr_sum rfl) (by rfl) T.n_sum PyProof.Rows.boot_sum (pa_cons (pe_lc rfl S.nd (pi_list (pv 0)) (blkOk_by (own := [("source", 1), ("target", 2), ("units", 3)]) rfl) (fun _ _ _ _ _ => (pg_lstK (K := K) (n := 3) rfl rfl (pgs_cons (pg_name (i := 1) S.nd rfl (Or.inl rfl)) (pgs_cons (pg_name (i := 2) S.nd rfl (Or.inl rfl)) (pgs_cons (pg_name (i := 3) S.nd rfl (Or.inl rfl)) pgs_nil))))) (fun _ _ _ _ _ => pts_nil) (fun _ _ _ _ _ => (pe_op op_mul (pe_callB call_abs (by rfl) T.n_abs PyProof.Rows.boot_abs (pa_cons (pe_op op_sub (pv 2) (pv 1)) pa_nil)) (pv 3)))) pa_nil)))), ?_⟩
    let ys : List Int := pl.map fun h => ((h.loads * Uw09.apart h.from_ h.to : Nat) : Int)
    refine ⟨_, rfl, c, rfl, ⟨_, g1⟩, fun D hD => lc_map (n := rs.length) (iV ys) (by rw [iV_len, List.length_map]; exact g2.symm) (by omega) hD (fun i H' lt sm => ⟨_, V.ref rs[i], sm.seq g1, by rw [List.getElem?_map, List.getElem?_eq_getElem lt]; rfl⟩) (fun H' sm => ⟨_, sm.seq g1, by rw [List.length_map]; exact Nat.le_refl _⟩) (fun i H1 x H2 y => ?_) (fun i H1 x H2 lt sm y sm2 N hN => ?_) (fun H' sm hD' => ?_)⟩
    · obtain ⟨rfl, _⟩ := y
      exact Same.refl _
    · obtain ⟨rfl, hy⟩ := y
      have ey := hy _ (sm.seq g1)
      rw [List.getElem?_map, List.getElem?_eq_getElem lt] at ey
      cases ey
      have hp : pl[i]? = some pl[i] := List.getElem?_eq_getElem (by omega)
      have q := sm.seq (g3 i rs[i] pl[i] (List.getElem?_eq_getElem lt) hp)
      have hm := hs _ (List.getElem_mem (show i < pl.length by omega))
      have hy : (iV ys)[i]? = some (V.int ((pl[i].loads * Uw09.apart pl[i].from_ pl[i].to : Nat) : Int)) := iV_at (by rw [List.getElem?_map, hp]; rfl)
      generalize pl[i] = h at hp q hy hm
      refine ⟨_, _, rfl, q, rfl, _, _, rfl, _, _, rfl, _, _, rfl, rfl, rfl, _, rfl, _, rfl, _, _, rfl, rfl, _, rfl, _, rfl, _, _, rfl, rfl, .inl ?_, ?_⟩
      · split <;> omega
      · have e : (if (h.to : Int) - (h.from_ : Int) < 0 then -((h.to : Int) - (h.from_ : Int)) else (h.to : Int) - (h.from_ : Int)) * (h.loads : Int) = ((h.loads * Uw09.apart h.from_ h.to : Nat) : Int) := by
          rw [Int.natCast_mul, Int.mul_comm, apart9_int]
          congr 1
          split <;> omega
        show N (.int ((if (h.to : Int) - (h.from_ : Int) < 0 then -((h.to : Int) - (h.from_ : Int)) else (h.to : Int) - (h.from_ : Int)) * (h.loads : Int))) _
        rw [e]
        exact hN _ _ hy (Same.refl _)
    · refine ⟨D, ys, rfl, SqL.of hD', ?_⟩
      have e : ys.sum = (haulsCost pl : Nat) := by
        unfold haulsCost
        rw [total9_int, List.map_map]
        rfl
      show Q (.int ys.sum) H'
      rw [e]
      exact k H' sm
end

end RL

end
section
set_option Elab.async false
set_option linter.all false
set_option maxRecDepth 100000
set_option maxHeartbeats 2000000
namespace RL
open PySem PySem.Spec PyProof.Rows L2
section
variable {P : Program} {w : World} {K : PySem.W.Frag} {mg : Str → Option Value} {base : Heap} {t : Adr}
/-! ### checking -/
def laB (b : Uw17.Build) (l : List Nat) : Bool := decide (l.length = b.road.points.length) && l.all fun h => decide (h ≤ 6)
def spLineOk (C : Addr) (K : PySem.W.Frag) : Sp := fun vs H Q _ => ∃ p lg lf lp b a l, vs = [.ref p, .ref a] ∧ RoadAt C H p lg lf lp b ∧ SqL K H a (nV l) ∧ l.length ≤ 20 ∧ ∀ H', Same H H' → Q (.bl (laB b l)) H'
theorem ok_line_allowed (T : Txt K mg t) : FnOk P w K mg base CX0 1 t.f_line_allowed t.d_line_allowed ["road", "line"] (spLineOk t.C_Road K) := by
  have S := sc_line_allowed
  refine T.F_line_allowed.ok S (fun vs H Q E h => ?_) (fun cdv A outer s H vs Q E hr h => ?_)
  · obtain ⟨p, lg, lf, lp, b, a, l, rfl, _⟩ := h
    rfl
  · obtain ⟨p, lg, lf, lp, b, a, l, rfl, R, hl, h20, k⟩ := h
    obtain ⟨dx, hp⟩ := R.ob
    refine ⟨_, (pss_one (ps_ret (pe_and (pe_cmpR op_eq (pe_callB call_len_seq (by rfl) T.n_len PySem.boot_len (pa_cons (pv 1) pa_nil)) (pe_callB call_len_seq (by rfl) T.n_len PySem.boot_len (pa_cons (pe_fld (pv 0) rfl) pa_nil)) (nomark _)) (pe_one (pe_callB (cr_all rfl) (by rfl) T.n_all PyProof.Rows.boot_all (pa_cons (pe_lc rfl S.nd (pi_list (pv 1)) (blkOk_by (own := [("height", 2)]) rfl) (fun _ _ _ _ _ => (pg_name (i := 2) S.nd rfl (Or.inl rfl))) (fun _ _ _ _ _ => pts_nil) (fun _ _ _ _ _ => (pe_cmpR op_le (pv 2) (pe_gc rfl T.g_MOST_HEIGHT) (nomark _)))) pa_nil)))))), ?_⟩
    refine ⟨_, rfl, a, _, rfl, .inl hl, _, rfl, p, _, dx, _, _, rfl, hp, T.cl_Road, T.n_Road_grounds, rfl, lg, _, rfl, .inl (SqL.of R.gs), rfl, _, rfl, ite2 (fun h => ?_) (fun h => ?_)⟩
    · have e : l.length = b.road.points.length := by
        have q := V.int.inj (of_decide_eq_true h)
        rw [nV_len, gV_len] at q
        omega
      let bs : List Bool := l.map fun h => decide (h ≤ 6)
      refine ⟨_, rfl, a, rfl, ⟨_, hl⟩, fun D hD => lc_map (n := l.length) (bs.map V.bl) (by rw [List.length_map, List.length_map]) (by omega) hD (fun i H' lt sm => ⟨_, _, sm.seq hl, nV_at lt⟩) (fun H' sm => ⟨_, sm.seq hl, by rw [nV_len]; exact Nat.le_refl _⟩) (fun i H1 x H2 y => ?_) (fun i H1 x H2 lt sm y sm2 N hN => ?_) (fun H' sm hD' => ?_)⟩
      · obtain ⟨rfl, _⟩ := y
        exact Same.refl _
      · obtain ⟨rfl, hy⟩ := y
        have ey := hy _ (sm.seq hl)
        rw [nV_at lt] at ey
        cases ey
        refine ⟨rfl, _, rfl, _, _, rfl, rfl, ?_⟩
        have q : (bs.map V.bl)[i]? = some (V.bl (decide (l.getD i 0 ≤ 6))) := by
          rw [List.getElem?_map, List.getElem?_map, List.getD_eq_getElem?_getD, List.getElem?_eq_getElem lt]
          rfl
        have e2 : decide (((l.getD i 0 : Nat) : Int) ≤ 6) = decide (l.getD i 0 ≤ 6) := decide_eq_decide.mpr (by omega)
        show N (.bl (decide (((l.getD i 0 : Nat) : Int) ≤ 6))) _
        rw [e2]
        exact hN _ _ q (Same.refl _)
      · refine ⟨D, bs, rfl, SqL.of hD', ?_⟩
        have e2 : bs.all id = laB b l := by
          unfold laB
          rw [decide_eq_true e, Bool.true_and, List.all_map]
          rfl
        show Q (.bl (bs.all id)) H'
        rw [e2]
        exact k H' sm
    · have e : ¬ l.length = b.road.points.length := fun q => h (decide_eq_true (by rw [nV_len, gV_len, q]))
      have e2 : laB b l = false := by
        unfold laB
        rw [decide_eq_false e, Bool.false_and]
      rw [e2] at k
      exact k H (Same.refl H)
def haB (n : Nat) (h : Uw09.Haul) : Bool := decide (h.from_ < n) && (decide (h.to < n) && ((!decide (h.from_ = h.to)) && decide (h.loads ≤ 1000)))
def spHaulOk (C : Addr) (K : PySem.W.Frag) : Sp := fun vs H Q _ => ∃ p lg lf lp b a h, vs = [.ref p, .ref a] ∧ RoadAt C H p lg lf lp b ∧ SqL K H a [.int (h : Uw09.Haul).from_, .int h.to, .int h.loads] ∧ Q (.bl (haB b.road.points.length h)) H
theorem ok_haul_allowed (T : Txt K mg t) : FnOk P w K mg base CX0 3 t.f_haul_allowed t.d_haul_allowed ["road", "haul"] (spHaulOk t.C_Road K) := by
  have S := sc_haul_allowed
  refine T.F_haul_allowed.ok S (fun vs H Q E h => ?_) (fun cdv A outer s H vs Q E hr h => ?_)
  · obtain ⟨p, lg, lf, lp, b, a, h, rfl, _⟩ := h
    rfl
  · obtain ⟨p, lg, lf, lp, b, a, h, rfl, R, hl, k⟩ := h
    obtain ⟨dx, hp⟩ := R.ob
    refine ⟨_, (pss_cons (ps_set (i := 2) S.nd rfl (Or.inl rfl) (pe_ix ix_list (pv 1) pe_int (fun _ _ => rfl)))
 (pss_cons (ps_set (i := 3) S.nd rfl (Or.inl rfl) (pe_ix ix_list (pv 1) pe_int (fun _ _ => rfl)))
 (pss_one (ps_ret (pe_and (pe_meth (pv 0) T.cl_Road T.m_Road_has_point (ok_Road_has_point T) (hr.mono (by decide)) T.b_Road_has_point .nil pass0 (pa_cons (pv 2) pa_nil)) (pe_and (pe_meth (pv 0) T.cl_Road T.m_Road_has_point (ok_Road_has_point T) (hr.mono (by decide)) T.b_Road_has_point .nil pass0 (pa_cons (pv 3) pa_nil)) (pe_and (pe_cmpR op_ne (pv 2) (pv 3) (nomark _)) (pe_one (pe_cmpR op_le (pe_ix ix_list (pv 1) pe_int (fun _ _ => rfl)) (pe_gc rfl T.g_MOST_UNITS) (nomark _)))))))))), ?_⟩
    refine ⟨_, rfl, a, _, _, _, rfl, rfl, hl, atI_nat (j := 0) rfl, ?_⟩
    refine ⟨_, rfl, a, _, _, _, rfl, rfl, hl, atI_nat (j := 1) rfl, ?_⟩
    unfold haB at k
    refine ⟨_, rfl, p, dx, _, rfl, hp, rfl, _, rfl, p, lg, lf, lp, b, h.from_, rfl, R, _, rfl, ?_⟩
    by_cases c1 : h.from_ < b.road.points.length
    · rw [decide_eq_true c1] at k ⊢
      refine iteT ⟨_, rfl, p, dx, _, rfl, hp, rfl, _, rfl, p, lg, lf, lp, b, h.to, rfl, R, _, rfl, ?_⟩
      by_cases c2 : h.to < b.road.points.length
      · rw [decide_eq_true c2] at k ⊢
        refine iteT ⟨_, rfl, _, rfl, rfl, _, rfl, ?_⟩
        by_cases c3 : h.from_ = h.to
        · rw [decide_eq_true c3] at k
          rw [decide_eq_true (show V.int (h.from_ : Int) = V.int (h.to : Int) by rw [c3])]
          exact iteF k
        · rw [decide_eq_false c3] at k
          rw [decide_eq_false (int_ne (show (h.from_ : Int) ≠ (h.to : Int) by omega))]
          refine iteT ⟨_, rfl, a, _, _, _, rfl, rfl, hl, atI_nat (j := 2) rfl, _, _, rfl, rfl, ?_⟩
          have e2 : decide ((h.loads : Int) ≤ 1000) = decide (h.loads ≤ 1000) := decide_eq_decide.mpr (by omega)
          show Q (.bl (decide ((h.loads : Int) ≤ 1000))) H
          rw [e2]
          exact k
      · rw [decide_eq_false c2] at k ⊢
        exact iteF k
    · rw [decide_eq_false c1] at k ⊢
      exact iteF k
def hasB (n : Nat) (p : Uw09.Plan) : Bool := decide (p.length ≤ 20) && p.all (haB n)
def spHaulsOk (C : Addr) (K : PySem.W.Frag) : Sp := fun vs H Q _ => ∃ p lg lf lp b a pl, vs = [.ref p, .ref a] ∧ RoadAt C H p lg lf lp b ∧ HaulsAt K H a pl ∧ pl.length ≤ 40 ∧ ∀ H', Same H H' → Q (.bl (hasB b.road.points.length pl)) H'
theorem ok_hauls_allowed (T : Txt K mg t) : FnOk P w K mg base CX0 5 t.f_hauls_allowed t.d_hauls_allowed ["road", "hauls"] (spHaulsOk t.C_Road K) := by
  have S := sc_hauls_allowed
  refine T.F_hauls_allowed.ok S (fun vs H Q E h => ?_) (fun cdv A outer s H vs Q E hr h => ?_)
  · obtain ⟨p, lg, lf, lp, b, a, pl, rfl, _⟩ := h
    rfl
  · obtain ⟨p, lg, lf, lp, b, a, pl, rfl, R, ⟨rs, g1, g2, g3⟩, h40, k⟩ := h
    refine ⟨_, (pss_one (ps_ret (pe_and (pe_cmpR op_le (pe_callB call_len_seq (by rfl) T.n_len PySem.boot_len (pa_cons (pv 1) pa_nil)) (pe_gc rfl T.g_MOST_HAULS) (nomark _)) (pe_one (pe_callB (cr_all rfl) (by rfl) T.n_all PyProof.Rows.boot_all (pa_cons (pe_lc rfl S.nd (pi_list (pv 1)) (blkOk_by (own := [("haul", 2)]) rfl) (fun _ _ _ _ _ => (pg_name (i := 2) S.nd rfl (Or.inl rfl))) (fun _ _ _ _ _ => pts_nil) (fun _ _ _ _ _ => (pe_call (ok_haul_allowed T) (hr.mono (by decide)) rfl T.m_haul_allowed T.F_haul_allowed.kp T.b_haul_allowed .nil pass0 (pa_cons (pv 0) (pa_cons (pv 2) pa_nil))))) pa_nil)))))), ?_⟩
    refine ⟨_, rfl, a, _, rfl, .inl g1, _, _, rfl, rfl, _, rfl, ite2 (fun h => ?_) (fun h => ?_)⟩
    · have e : pl.length ≤ 20 := by
        have q := of_decide_eq_true h
        rw [List.length_map] at q
        omega
      let bs : List Bool := pl.map (haB b.road.points.length)
      refine ⟨_, rfl, a, rfl, ⟨_, g1⟩, fun D hD => lc_map (n := rs.length) (bs.map V.bl) (by rw [List.length_map, List.length_map]; exact g2.symm) (by omega) hD (fun i H' lt sm => ⟨_, V.ref rs[i], sm.seq g1, by rw [List.getElem?_map, List.getElem?_eq_getElem lt]; rfl⟩) (fun H' sm => ⟨_, sm.seq g1, by rw [List.length_map]; exact Nat.le_refl _⟩) (fun i H1 x H2 y => ?_) (fun i H1 x H2 lt sm y sm2 N hN => ?_) (fun H' sm hD' => ?_)⟩
      · obtain ⟨rfl, _⟩ := y
        exact Same.refl _
      · obtain ⟨rfl, hy⟩ := y
        have ey := hy _ (sm.seq g1)
        rw [List.getElem?_map, List.getElem?_eq_getElem lt] at ey
        cases ey
        have hp : pl[i]? = some pl[i] := List.getElem?_eq_getElem (by omega)
        have q := sm.seq (g3 i rs[i] pl[i] (List.getElem?_eq_getElem lt) hp)
        have qb : (bs.map V.bl)[i]? = some (V.bl (haB b.road.points.length pl[i])) := by
          rw [List.getElem?_map, List.getElem?_map, hp]
          rfl
        exact ⟨rfl, _, rfl, _, rfl, p, lg, lf, lp, b, rs[i], pl[i], rfl, R.same sm, q, hN _ _ qb (Same.refl _)⟩
      · refine ⟨D, bs, rfl, SqL.of hD', ?_⟩
        have e2 : bs.all id = hasB b.road.points.length pl := by
          unfold hasB
          rw [decide_eq_true e, Bool.true_and, List.all_map]
          rfl
        show Q (.bl (bs.all id)) H'
        rw [e2]
        exact k H' sm
    · have e : ¬ pl.length ≤ 20 := fun q => h (decide_eq_true (by rw [List.length_map, g2]; omega))
      have e2 : hasB b.road.points.length pl = false := by
        unfold hasB
        rw [decide_eq_false e, Bool.false_and]
      rw [e2] at k
      exact k H (Same.refl H)
/-! ### what's wrong first -/
def WrongAt (H H' : Hp) (v : V) : Option (Nat × Nat) → Prop
  | none => v = .non
  | some (k, i) => ∃ r, v = .ref r ∧ H r = none ∧ H' r = some (.lst [.int k, .int i])
def spFirst (C : Addr) (K : PySem.W.Frag) : Sp := fun vs H Q _ => ∃ p lg lf lp b a l, vs = [.ref p, .ref a] ∧ RoadAt C H p lg lf lp b ∧ SqL K H a (nV l) ∧ l.length = b.road.points.length ∧ (∀ x ∈ l, x ≤ 6) ∧
  ∀ H' v, Same H H' → WrongAt H H' v (b.road.wrong l) → Q v H'
theorem ok_first_wrong (T : Txt K mg t) : FnOk P w K mg base CX0 3 t.f_first_wrong t.d_first_wrong ["road", "line"] (spFirst t.C_Road K) := by
  have S := sc_first_wrong
  refine T.F_first_wrong.ok S (fun vs H Q E h => ?_) (fun cdv A outer s H vs Q E hr h => ?_)
  · obtain ⟨p, lg, lf, lp, b, a, l, rfl, _⟩ := h
    rfl
  · obtain ⟨p, lg, lf, lp, b, a, l, rfl, R, hl, hn, low, k⟩ := h
    have few := R.ok.few
    refine ⟨_, (pss_cons (ps_for PassesOwn.never rfl (pi_enum rfl T.n_enumerate (pa_cons (pv 1) pa_nil)) (pg_tup rfl (pgs_cons (pg_name (i := 2) S.nd rfl (Or.inl rfl)) (pgs_cons (pg_name (i := 3) S.nd rfl (Or.inl rfl)) pgs_nil)))
 (pss_one (ps_if (pt_val (pe_call (ok_fixed_otherwise T) (hr.mono (by decide)) rfl T.m_fixed_otherwise T.F_fixed_otherwise.kp T.b_fixed_otherwise .nil pass0 (pa_cons (pv 0) (pa_cons (pv 2) (pa_cons (pv 3) pa_nil)))))
 (pss_one (ps_ret (pe_lst (pa_cons (pe_gc rfl T.g_OTHER_HEIGHT_FIXED) (pa_cons (pv 2) pa_nil)))))
 pss_nil)))
 (pss_cons (ps_for PassesOwn.never rfl (pi_range1 rfl T.n_range (pa_cons (pe_op op_sub (pe_callB call_len_seq (by rfl) T.n_len PySem.boot_len (pa_cons (pv 1) pa_nil)) pe_int) pa_nil)) (pg_name (i := 2) S.nd rfl (Or.inl rfl))
 (pss_one (ps_if (pt_val (pe_call (ok_too_steep T) (hr.mono (by decide)) rfl T.m_too_steep T.F_too_steep.kp T.b_too_steep .nil pass0 (pa_cons (pv 0) (pa_cons (pe_ix ix_list (pv 1) (pv 2) (fun _ _ => rfl)) (pa_cons (pe_ix ix_list (pv 1) (pe_op op_add (pv 2) pe_int) (fun _ _ => rfl)) pa_nil)))))
 (pss_one (ps_ret (pe_lst (pa_cons (pe_gc rfl T.g_TOO_STEEP) (pa_cons (pv 2) pa_nil)))))
 pss_nil)))
 (pss_cons (ps_for PassesOwn.never rfl (pi_range2 rfl T.n_range (pa_cons pe_int (pa_cons (pe_op op_sub (pe_callB call_len_seq (by rfl) T.n_len PySem.boot_len (pa_cons (pv 1) pa_nil)) pe_int) pa_nil))) (pg_name (i := 2) S.nd rfl (Or.inl rfl))
 (pss_one (ps_if (pt_val (pe_call (ok_bends_too_much T) (hr.mono (by decide)) rfl T.m_bends_too_much T.F_bends_too_much.kp T.b_bends_too_much .nil pass0 (pa_cons (pv 0) (pa_cons (pe_ix ix_list (pv 1) (pe_op op_sub (pv 2) pe_int) (fun _ _ => rfl)) (pa_cons (pe_ix ix_list (pv 1) (pv 2) (fun _ _ => rfl)) (pa_cons (pe_ix ix_list (pv 1) (pe_op op_add (pv 2) pe_int) (fun _ _ => rfl)) pa_nil))))))
 (pss_one (ps_ret (pe_lst (pa_cons (pe_gc rfl T.g_BENT_TOO_MUCH) (pa_cons (pv 2) pa_nil)))))
 pss_nil)))
 (pss_one (ps_ret pe_non))))), ?_⟩
    rw [wrong_low b.road low] at k
    have fxe : ∀ i, fxB b i (l.getD i 0) = bad1 b.road l i := fun i => by unfold fxB bad1; cases (b.road.point i).fixed <;> rfl
    have two : (2 : Nat) ≤ sizeLine := by decide
    -- the first loop
    refine ⟨_, rfl, a, _, rfl, hl, ?_⟩
    refine for_it (n := l.length) (fun i σ H' => ∃ v2 v3, σ = [some (.ref p), some (.ref a), v2, v3] ∧ Same H H' ∧ ∀ j, j < i → bad1 b.road l j = false) ⟨none, none, rfl, Same.refl H, fun j hj => by omega⟩ ?_ ?_ ?_ ?_
    · rintro i σ H' lt ⟨v2, v3, rfl, sm, _⟩
      exact ⟨_, _, sm.seq hl, nV_at lt⟩
    · rintro σ H' ⟨v2, v3, rfl, sm, _⟩
      exact ⟨_, sm.seq hl, by rw [nV_len]; exact Nat.le_refl _⟩
    · rintro i σ H' x H2 lt ⟨v2, v3, rfl, sm, hb⟩ ⟨T', x', rfl, hT, rfl, hx⟩
      have ex := hx _ (sm.seq hl)
      rw [nV_at lt] at ex
      cases ex
      have sm2 : Same H (upd H' T' (.tup [.int (i : Nat), .int (l.getD i 0 : Nat)])) := sm.trans (Same.new hT)
      refine ⟨T', _, rfl, SqT.of upd_same, rfl, _, _, rfl, _, _, rfl, rfl, ?_⟩
      refine ⟨_, rfl, _, rfl, _, rfl, p, lg, lf, lp, b, i, l.getD i 0, rfl, R.same sm2, by omega, _, rfl, ite2 (fun h => ?_) (fun h => ?_)⟩
      · rw [fxe] at h
        refine ⟨_, rfl, two, fun r hr0 => ?_⟩
        rw [find_some (p := bad1 b.road l) lt h hb] at k
        exact k _ _ (sm2.trans (Same.new hr0)) ⟨r, rfl, sm2.free hr0, upd_same⟩
      · refine ⟨_, _, rfl, sm2, fun j hj => ?_⟩
        rw [fxe] at h
        by_cases e : j = i
        · rw [e]
          cases q : bad1 b.road l i with
          | false => rfl
          | true => exact absurd q h
        · exact hb j (by omega)
    rintro σ H1 ⟨v2, v3, rfl, s1, hb1⟩
    rw [find_none.mpr hb1] at k
    -- the second loop
    refine ⟨_, rfl, a, _, rfl, .inl (s1.seq hl), _, _, rfl, rfl, _, rfl, by rw [nV_len]; omega, by rw [nV_len]; omega, ?_⟩
    have e2 : (((nV l).length : Int) - 1).toNat = l.length - 1 := by rw [nV_len]; omega
    rw [e2]
    refine for_it (n := l.length - 1) (fun i σ H' => ∃ v2 v3, σ = [some (.ref p), some (.ref a), v2, v3] ∧ Same H H' ∧ ∀ j, j < i → bad2 b.road l j = false) ⟨v2, v3, rfl, s1, fun j hj => by omega⟩ ?_ ?_ ?_ ?_
    · rintro i σ H' lt ⟨v2, v3, rfl, sm, _⟩
      exact lt
    · rintro σ H' ⟨v2, v3, rfl, sm, _⟩
      exact Nat.le_refl _
    · rintro i σ H' x H2 lt ⟨v2, v3, rfl, sm, hb⟩ ⟨rfl, rfl⟩
      have z : (0 : Int) + (i : Nat) = (i : Nat) := by omega
      rw [z]
      have a2 : atI (nV l) ((i : Int) + 1) = some (V.int (l.getD (i + 1) 0 : Nat)) := by
        rw [show (i : Int) + 1 = ((i + 1 : Nat) : Int) by omega]
        exact atI_nat (nV_at (by omega))
      refine ⟨_, rfl, _, rfl, _, rfl, a, _, _, _, rfl, rfl, sm.seq hl, atI_nat (nV_at (by omega)), _, rfl, _, rfl, _, _, rfl, rfl, a, _, _, _, rfl, rfl, sm.seq hl, a2, p, lg, lf, lp, b, l.getD i 0, l.getD (i + 1) 0, rfl, R.same sm, _, rfl, ite2 (fun h => ?_) (fun h => ?_)⟩
      · refine ⟨_, rfl, two, fun r hr0 => ?_⟩
        rw [find_some (p := bad2 b.road l) lt h hb] at k
        exact k _ _ (sm.trans (Same.new hr0)) ⟨r, rfl, sm.free hr0, upd_same⟩
      · refine ⟨_, _, rfl, sm, fun j hj => ?_⟩
        by_cases e : j = i
        · rw [e]
          cases q : bad2 b.road l i with
          | false => rfl
          | true => exact absurd q h
        · exact hb j (by omega)
    rintro σ H1 ⟨v2, v3, rfl, s1, hb2⟩
    rw [find_none.mpr hb2] at k
    -- the third loop
    refine ⟨_, rfl, a, _, rfl, .inl (s1.seq hl), _, _, rfl, rfl, _, _, rfl, by rw [nV_len]; omega, ?_⟩
    have e3 : (((nV l).length : Int) - 1 - 1).toNat = l.length - 2 := by rw [nV_len]; omega
    rw [e3]
    refine for_it (n := l.length - 2) (fun i σ H' => ∃ v2 v3, σ = [some (.ref p), some (.ref a), v2, v3] ∧ Same H H' ∧ ∀ j, j < i → bad3 b.road l j = false) ⟨v2, v3, rfl, s1, fun j hj => by omega⟩ ?_ ?_ ?_ ?_
    · rintro i σ H' lt ⟨v2, v3, rfl, sm, _⟩
      exact lt
    · rintro σ H' ⟨v2, v3, rfl, sm, _⟩
      exact Nat.le_refl _
    · rintro i σ H' x H2 lt ⟨v2, v3, rfl, sm, hb⟩ ⟨rfl, rfl⟩
      have z : (1 : Int) + (i : Nat) = ((i + 1 : Nat) : Int) := by omega
      rw [z]
      have a1 : atI (nV l) (((i + 1 : Nat) : Int) - 1) = some (V.int (l.getD i 0 : Nat)) := by
        rw [show ((i + 1 : Nat) : Int) - 1 = ((i : Nat) : Int) by omega]
        exact atI_nat (nV_at (by omega))
      have a3 : atI (nV l) (((i + 1 : Nat) : Int) + 1) = some (V.int (l.getD (i + 2) 0 : Nat)) := by
        rw [show ((i + 1 : Nat) : Int) + 1 = ((i + 2 : Nat) : Int) by omega]
        exact atI_nat (nV_at (by omega))
      refine ⟨_, rfl, _, rfl, _, rfl, _, _, rfl, rfl, a, _, _, _, rfl, rfl, sm.seq hl, a1, _, rfl, _, rfl, a, _, _, _, rfl, rfl, sm.seq hl, atI_nat (nV_at (by omega)), _, rfl, _, rfl, _, _, rfl, rfl, a, _, _, _, rfl, rfl, sm.seq hl, a3, p, lg, lf, lp, b, l.getD i 0, l.getD (i + 1) 0, l.getD (i + 2) 0, rfl, R.same sm, _, rfl, ite2 (fun h => ?_) (fun h => ?_)⟩
      · refine ⟨_, rfl, two, fun r hr0 => ?_⟩
        rw [find_some (p := bad3 b.road l) lt h hb] at k
        exact k _ _ (sm.trans (Same.new hr0)) ⟨r, rfl, sm.free hr0, upd_same⟩
      · refine ⟨_, _, rfl, sm, fun j hj => ?_⟩
        by_cases e : j = i
        · rw [e]
          cases q : bad3 b.road l i with
          | false => rfl
          | true => exact absurd q h
        · exact hb j (by omega)
    rintro σ H1 ⟨v2, v3, rfl, s1, hb3⟩
    rw [find_none.mpr hb3] at k
    exact k _ _ s1 rfl
end

end RL

end
section
set_option Elab.async false
set_option linter.all false
set_option maxRecDepth 100000
set_option maxHeartbeats 2000000
namespace RL
open PySem PySem.Spec PyProof.Rows L2
section
variable {P : Program} {w : World} {K : PySem.W.Frag} {mg : Str → Option Value} {base : Heap} {t : Adr}
theorem refused_iff {b : Uw17.Build} {l : List Nat} {p : Uw09.Plan} : Refused b l p ↔ ¬ (laB b l = true ∧ hasB b.road.points.length p = true) := by
  unfold laB hasB
  rw [Bool.and_eq_true, Bool.and_eq_true, decide_eq_true_iff, decide_eq_true_iff, List.all_eq_true, List.all_eq_true]
  constructor
  · rintro (h | ⟨x, hx, h⟩ | h | ⟨g, hg, h⟩) ⟨⟨a1, a2⟩, a3, a4⟩
    · exact h a1
    · have := of_decide_eq_true (a2 x hx)
      omega
    · omega
    · have := a4 g hg
      unfold haB at this
      rw [Bool.and_eq_true, Bool.and_eq_true, Bool.and_eq_true, decide_eq_true_iff, decide_eq_true_iff, decide_eq_true_iff, Bool.not_eq_true', decide_eq_false_iff_not] at this
      omega
  · intro h
    apply Classical.byContradiction
    intro n
    apply h
    refine ⟨⟨Classical.byContradiction fun z => n (.inl z), fun x hx => decide_eq_true (Nat.le_of_not_lt fun z => n (.inr (.inl ⟨x, hx, z⟩)))⟩, Nat.le_of_not_lt fun z => n (.inr (.inr (.inl z))), fun g hg => ?_⟩
    have m : ¬ (b.road.points.length ≤ g.from_ ∨ b.road.points.length ≤ g.to ∨ g.from_ = g.to ∨ 1000 < g.loads) := fun z => n (.inr (.inr (.inr ⟨g, hg, z⟩)))
    unfold haB
    rw [Bool.and_eq_true, Bool.and_eq_true, Bool.and_eq_true, decide_eq_true_iff, decide_eq_true_iff, decide_eq_true_iff, Bool.not_eq_true', decide_eq_false_iff_not]
    omega
theorem price_may (o : Option (Nat × Nat)) (x : Int) : (Uw09.price o x).isNone = !mayB o x := by
  rw [price_isNone]
  unfold mayB
  cases o with
  | none =>
    show (true && decide (x ≠ 0)) = !(false || decide (x = 0))
    rw [Bool.true_and, Bool.false_or, ← decide_not]
  | some y => rfl
theorem price_pcost {o : Option (Nat × Nat)} {x : Int} (h : mayB o x = true) : (((Uw09.price o x).getD 0 : Nat) : Int) = pcost o x := by
  rw [price_of h]
  exact Int.toNat_of_nonneg (pcost_nn _ _)
theorem sum_bound : ∀ (p : Uw09.Plan) (f : Uw09.Haul → Int), (∀ h ∈ p, 0 ≤ f h ∧ f h ≤ 1000) → 0 ≤ (p.map f).sum ∧ (p.map f).sum ≤ 1000 * p.length
  | [], _, _ => ⟨Int.le_refl _, Int.le_refl _⟩
  | h :: p, f, hf => by
    obtain ⟨i1, i2⟩ := sum_bound p f fun g hg => hf g (List.mem_cons_of_mem _ hg)
    have := hf h List.mem_cons_self
    show 0 ≤ f h + (p.map f).sum ∧ f h + (p.map f).sum ≤ 1000 * ((p.length + 1 : Nat) : Int)
    omega
theorem rest_bound {b : Uw17.Build} (o : Ok b) {l : List Nat} (low : ∀ x ∈ l, x ≤ 6) {p : Uw09.Plan} {n i : Nat} (hp : HOk n p) (hi : i < l.length) : -1000000 ≤ Uw09.rest (b.earth l) p i ∧ Uw09.rest (b.earth l) p i ≤ 1000000 := by
  rw [rest_eq, earth_getD b hi]
  have h1 := ground_low o i
  have h2 := low_at low i
  have h3 := sum_bound p (fun h => if h.to = i then (h.loads : Int) else 0) fun h hh => by
    have := (hp.2 h hh).2.2.2
    split <;> omega
  have h4 := sum_bound p (fun h => if h.from_ = i then (h.loads : Int) else 0) fun h hh => by
    have := (hp.2 h hh).2.2.2
    split <;> omega
  have h5 := hp.1
  show -1000000 ≤ (((b.road.point i).ground : Int) - (l.getD i 0 : Int) + inAt p i) - outAt p i ∧ (((b.road.point i).ground : Int) - (l.getD i 0 : Int) + inAt p i) - outAt p i ≤ 1000000
  unfold inAt outAt
  omega
def ansV (x : Uw17.Ans) : List V := iV (x.v :: x.l)
def spCheck (C : Addr) (K : PySem.W.Frag) : Sp := fun vs H Q _ => ∃ p lg lf lp b a l c pl, vs = [.ref p, .ref a, .ref c] ∧ RoadAt C H p lg lf lp b ∧ SqL K H a (nV l) ∧ l.length ≤ 20 ∧ HaulsAt K H c pl ∧ pl.length ≤ 40 ∧
  ∀ H' r, Same H H' → H r = none → H' r = some (.lst (ansV (Uw17.step b (.check l pl)).2)) → Q (.ref r) H'
theorem ok_check (T : Txt K mg t) : FnOk P w K mg base CX0 9 t.f_check t.d_check ["road", "line", "hauls"] (spCheck t.C_Road K) := by
  have S := sc_check
  refine T.F_check.ok S (fun vs H Q E h => ?_) (fun cdv A outer s H vs Q E hr h => ?_)
  · obtain ⟨p, lg, lf, lp, b, a, l, c, pl, rfl, _⟩ := h
    rfl
  · obtain ⟨p, lg, lf, lp, b, a, l, c, pl, rfl, R, hl, h20, hh, h40, k⟩ := h
    refine ⟨_, (pss_cons (ps_if (PW.pt (pw_or (pt_not (pt_val (pe_call (ok_line_allowed T) (hr.mono (by decide)) rfl T.m_line_allowed T.F_line_allowed.kp T.b_line_allowed .nil pass0 (pa_cons (pv 0) (pa_cons (pv 1) pa_nil))))) (pw_or1 (pt_not (pt_val (pe_call (ok_hauls_allowed T) (hr.mono (by decide)) rfl T.m_hauls_allowed T.F_hauls_allowed.kp T.b_hauls_allowed .nil pass0 (pa_cons (pv 0) (pa_cons (pv 2) pa_nil))))))))
 (pss_one (ps_ret (pe_lst (pa_cons (pe_gc rfl T.g_NOT_ALLOWED) pa_nil))))
 pss_nil)
 (pss_cons (ps_set (i := 3) S.nd rfl (Or.inl rfl) (pe_call (ok_first_wrong T) (hr.mono (by decide)) rfl T.m_first_wrong T.F_first_wrong.kp T.b_first_wrong .nil pass0 (pa_cons (pv 0) (pa_cons (pv 1) pa_nil))))
 (pss_cons (ps_if (pt_cmp (pc_notN (pv 3)))
 (pss_one (ps_ret (pe_op op_cat (pe_lst (pa_cons (pe_gc rfl T.g_WRONG_LINE) pa_nil)) (pv 3))))
 pss_nil)
 (pss_cons (ps_set (i := 4) S.nd rfl (Or.inl rfl) (pe_call (ok_units_left T) (hr.mono (by decide)) rfl T.m_units_left T.F_units_left.kp T.b_units_left .nil pass0 (pa_cons (pv 0) (pa_cons (pv 1) (pa_cons (pv 2) pa_nil)))))
 (pss_cons (ps_for PassesOwn.never rfl (pi_enum rfl T.n_enumerate (pa_cons (pe_fld (pv 0) rfl) pa_nil)) (pg_tup rfl (pgs_cons (pg_name (i := 5) S.nd rfl (Or.inl rfl)) (pgs_cons (pg_name (i := 6) S.nd rfl (Or.inl rfl)) pgs_nil)))
 (pss_one (ps_if (pt_not (pt_val (pe_call (ok_may_be_left T) (hr.mono (by decide)) rfl T.m_may_be_left T.F_may_be_left.kp T.b_may_be_left .nil pass0 (pa_cons (pv 6) (pa_cons (pe_ix ix_list (pv 4) (pv 5) (fun _ _ => rfl)) pa_nil)))))
 (pss_one (ps_ret (pe_lst (pa_cons (pe_gc rfl T.g_WRONG_HAULS) (pa_cons (pv 5) (pa_cons (pe_ix ix_list (pv 4) (pv 5) (fun _ _ => rfl)) pa_nil))))))
 pss_nil)))
 (pss_cons (ps_set (i := 7) S.nd rfl (Or.inl rfl) (pe_callB (cr_sum rfl) (by rfl) T.n_sum PyProof.Rows.boot_sum (pa_cons (pe_lc rfl S.nd (pi_zip rfl T.n_zip (pa_cons (pe_fld (pv 0) rfl) (pa_cons (pv 4) pa_nil))) (blkOk_by (own := [("pit", 6), ("units", 8)]) rfl) (fun _ _ _ _ _ => (pg_tupK (K := K) (n := 2) rfl rfl (pgs_cons (pg_name (i := 6) S.nd rfl (Or.inl rfl)) (pgs_cons (pg_name (i := 8) S.nd rfl (Or.inl rfl)) pgs_nil)))) (fun _ _ _ _ _ => pts_nil) (fun _ _ _ _ _ => (pe_call (ok_pit_cost T) (hr.mono (by decide)) rfl T.m_pit_cost T.F_pit_cost.kp T.b_pit_cost .nil pass0 (pa_cons (pv 6) (pa_cons (pv 8) pa_nil))))) pa_nil)))
 (pss_one (ps_ret (pe_lst (pa_cons (pe_op op_add (pe_op op_add (pe_call (ok_line_cost T) (hr.mono (by decide)) rfl T.m_line_cost T.F_line_cost.kp T.b_line_cost .nil pass0 (pa_cons (pv 0) (pa_cons (pv 1) pa_nil))) (pe_call (ok_carrying_cost T) (hr.mono (by decide)) rfl T.m_carrying_cost T.F_carrying_cost.kp T.b_carrying_cost .nil pass0 (pa_cons (pv 2) pa_nil))) (pv 7)) pa_nil)))))))))), ?_⟩
    have one1 : (1 : Nat) ≤ sizeLine := by decide
    have three : (3 : Nat) ≤ sizeLine := by decide
    have no : ∀ H1, Same H H1 → Refused b l pl → ∀ r, H1 r = none → Q (.ref r) (upd H1 r (.lst [V.int (-1)])) := fun H1 s1 hf r hr0 => by
      rw [step_check_no hf] at k
      exact k _ r (s1.trans (Same.new hr0)) (s1.free hr0) upd_same
    refine ⟨_, rfl, _, rfl, p, lg, lf, lp, b, a, l, rfl, R, hl, h20, fun H1 s1 => ⟨_, rfl, ?_⟩⟩
    cases la : laB b l with
    | false =>
      refine iteT ⟨one1, fun r hr0 => no H1 s1 (refused_iff.mpr fun z => ?_) r hr0⟩
      rw [la] at z
      cases z.1
    | true =>
    refine iteF ⟨_, rfl, _, rfl, p, lg, lf, lp, b, c, pl, rfl, R.same s1, hh.same s1, h40, fun H2 s2 => ⟨_, rfl, ?_⟩⟩
    have s2 := s1.trans s2
    cases ha : hasB b.road.points.length pl with
    | false =>
      refine iteT ⟨one1, fun r hr0 => no H2 s2 (refused_iff.mpr fun z => ?_) r hr0⟩
      rw [ha] at z
      cases z.2
    | true =>
    refine iteF ?_
    have nref : ¬ Refused b l pl := fun z => refused_iff.mp z ⟨la, ha⟩
    rw [step_check_yes nref] at k
    have hlen : l.length = b.road.points.length := Classical.byContradiction fun z => nref (.inl z)
    have low : ∀ x ∈ l, x ≤ 6 := fun x hx => Nat.le_of_not_lt fun z => nref (.inr (.inl ⟨x, hx, z⟩))
    have hok : HOk l.length pl := ⟨Nat.le_of_not_lt fun z => nref (.inr (.inr (.inl z))), fun g hg => by
      have m : ¬ (b.road.points.length ≤ g.from_ ∨ b.road.points.length ≤ g.to ∨ g.from_ = g.to ∨ 1000 < g.loads) := fun z => nref (.inr (.inr (.inr ⟨g, hg, z⟩)))
      omega⟩
    have few := R.ok.few
    -- wrong = first_wrong(road, line)
    refine ⟨_, rfl, _, rfl, p, lg, lf, lp, b, a, l, rfl, R.same s2, s2.seq hl, hlen, low, fun H3 v s3 hv => ?_⟩
    have s3' := s2.trans s3
    cases ew : b.road.wrong l with
    | some x =>
      obtain ⟨kd, i⟩ := x
      rw [ew] at hv k
      obtain ⟨r, rfl, hr0, hr1⟩ := hv
      refine ⟨_, rfl, _, rfl, iteT ⟨one1, fun q hq => ?_⟩⟩
      have qr : r ≠ q := ne_of_none hr1 hq
      refine ⟨_, rfl, q, r, _, _, rfl, rfl, upd_same, (upd_ne qr).trans hr1, (by show 1 + 2 ≤ sizeLine; decide), fun z hz => ?_⟩
      exact k _ z ((s3'.trans (Same.new hq)).trans (Same.new hz)) ((s3'.trans (Same.new hq)).free hz) upd_same
    | none =>
    rw [ew] at hv k
    have hv' : v = .non := hv
    subst hv'
    refine ⟨_, rfl, _, rfl, iteF ?_⟩
    -- left = units_left(road, line, hauls)
    refine ⟨_, rfl, _, rfl, _, rfl, p, lg, lf, lp, b, a, l, c, pl, rfl, R.same s3', .inl (s3'.seq hl), hlen, hh.same s3', hok, fun H4 r s4 hr0 hr1 => ?_⟩
    have s4' := s3'.trans s4
    have R4 := R.same s4'
    obtain ⟨dx, hp⟩ := R4.ob
    obtain ⟨ws, hw, pw⟩ := R4.ps
    have wl : ws.length = l.length := by rw [pw.1, R.ok.pl, hlen]
    have wrongE : Uw09.wrong (b.earth l) pl = (List.range l.length).find? fun i => !mayB (b.pits.getD i none) (Uw09.rest (b.earth l) pl i) := by
      unfold Uw09.wrong
      rw [earth_len]
      refine find_congr fun i hi => ?_
      rw [earth_getD b hi, price_may]
    have pitAt : ∀ i, i < l.length → ∃ v, ws[i]? = some v ∧ PitIs H4 v (b.pits.getD i none) := fun i hi => by
      have h1 : ws[i]? = some ws[i] := List.getElem?_eq_getElem (by omega)
      have hip : i < b.pits.length := by rw [R.ok.pl]; omega
      have h2 : b.pits[i]? = some b.pits[i] := List.getElem?_eq_getElem hip
      refine ⟨_, h1, ?_⟩
      have := pw.2 i _ _ h1 h2
      rw [List.getD_eq_getElem?_getD, h2]
      exact this
    rw [wrongE] at k
    -- the points, one after another
    refine ⟨_, rfl, p, _, dx, _, _, rfl, hp, T.cl_Road, T.n_Road_pits, rfl, lp, ws, rfl, SqL.of hw, ?_⟩
    refine for_it (n := l.length) (fun i σ H' => ∃ v5 v6, σ = [some (.ref p), some (.ref a), some (.ref c), some .non, some (.ref r), v5, v6, none, none] ∧ Same H4 H' ∧ ∀ j, j < i → (!mayB (b.pits.getD j none) (Uw09.rest (b.earth l) pl j)) = false) ⟨none, none, rfl, Same.refl _, fun j hj => by omega⟩ ?_ ?_ ?_ ?_
    · rintro i σ H' lt ⟨v5, v6, rfl, sm, _⟩
      exact ⟨_, ws[i], sm.seq (SqL.of hw), List.getElem?_eq_getElem (by omega)⟩
    · rintro σ H' ⟨v5, v6, rfl, sm, _⟩
      exact ⟨_, sm.seq (SqL.of hw), by omega⟩
    · rintro i σ H' x H2 lt ⟨v5, v6, rfl, sm, hb⟩ ⟨T', x', rfl, hT, rfl, hx⟩
      have ex := hx _ (sm.seq (SqL.of hw))
      obtain ⟨v, e1, pv⟩ := pitAt i lt
      rw [e1] at ex
      have ex' : v = x' := Option.some.inj ex
      subst ex'
      have sm2 : Same H4 (upd H' T' (.tup [.int (i : Nat), v])) := sm.trans (Same.new hT)
      have rv : (upd H' T' (.tup [.int (i : Nat), v])) r = some (.lst (iV (lefts b l pl))) := sm2 _ _ hr1
      refine ⟨T', _, rfl, SqT.of upd_same, rfl, _, _, rfl, _, _, rfl, rfl, ?_⟩
      refine ⟨_, rfl, _, rfl, _, rfl, r, _, _, _, rfl, rfl, SqL.of rv, atI_nat (iV_at (lefts_at b lt)), v, _, _, rfl, pv.keep sm2.tups, _, rfl, ite2 (fun h => ?_) (fun h => ?_)⟩
      · refine ⟨_, rfl, _, rfl, _, rfl, r, _, _, _, rfl, rfl, SqL.of rv, atI_nat (iV_at (lefts_at b lt)), three, fun q hq => ?_⟩
        rw [find_some (p := fun i => !mayB (b.pits.getD i none) (Uw09.rest (b.earth l) pl i)) lt h hb] at k
        exact k _ q ((s4'.trans sm2).trans (Same.new hq)) ((s4'.trans sm2).free hq) upd_same
      · refine ⟨_, _, rfl, sm2, fun j hj => ?_⟩
        by_cases e : j = i
        · rw [e]
          cases q : !mayB (b.pits.getD i none) (Uw09.rest (b.earth l) pl i) with
          | false => rfl
          | true => exact absurd q h
        · exact hb j (by omega)
    rintro σ H5 ⟨v5, v6, rfl, s5, hb⟩
    rw [find_none.mpr hb] at k
    have may : ∀ i, i < l.length → mayB (b.pits.getD i none) (Uw09.rest (b.earth l) pl i) = true := fun i hi => by
      have := hb i hi
      rwa [Bool.not_eq_false'] at this
    -- pits_cost
    let ys : List Int := (List.range l.length).map fun i => pcost (b.pits.getD i none) (Uw09.rest (b.earth l) pl i)
    have yl : (iV ys).length = l.length := by rw [iV_len, List.length_map, List.length_range]
    refine ⟨_, rfl, p, _, dx, _, _, rfl, s5 _ _ hp, T.cl_Road, T.n_Road_pits, rfl, _, rfl, lp, r, ws, _, rfl, s5.seq (SqL.of hw), s5.seq (SqL.of hr1), fun D hD => lc_map (n := l.length) (iV ys) yl (by omega) hD (fun i H' lt sm => ⟨_, _, ws[i], _, sm.seq (s5.seq (SqL.of hw)), sm.seq (s5.seq (SqL.of hr1)), List.getElem?_eq_getElem (by omega), iV_at (lefts_at b lt)⟩) (fun H' sm => ⟨_, _, sm.seq (s5.seq (SqL.of hw)), sm.seq (s5.seq (SqL.of hr1)), .inl (by omega)⟩) (fun i H1 x H2 y => ?_) (fun i H1 x H2 lt sm y sm2 N hN => ?_) (fun H6 s6 hD' => ?_)⟩
    · obtain ⟨T', x', y', rfl, hT, rfl, _⟩ := y
      exact Same.new hT
    · obtain ⟨T', x', y', rfl, hT, rfl, hx, hy⟩ := y
      have ex := hx _ (sm.seq (s5.seq (SqL.of hw)))
      have ey := hy _ (sm.seq (s5.seq (SqL.of hr1)))
      obtain ⟨v, e1, pv⟩ := pitAt i lt
      rw [e1] at ex
      rw [iV_at (lefts_at b lt)] at ey
      have ex' : v = x' := Option.some.inj ex
      subst ex'
      cases ey
      have qy : (iV ys)[i]? = some (V.int (pcost (b.pits.getD i none) (Uw09.rest (b.earth l) pl i))) := iV_at (by rw [List.getElem?_map, List.getElem?_range lt]; rfl)
      exact ⟨T', _, rfl, SqT.of upd_same, rfl, _, _, rfl, _, _, rfl, rfl, rfl, _, rfl, _, rfl, v, _, _, rfl, (pv.keep s5.tups).keep sm2.tups, rest_bound R.ok low hok lt, hN _ _ qy (Same.refl _)⟩
    · have s6' := (s4'.trans s5).trans s6
      refine ⟨D, ys, rfl, SqL.of hD', ?_⟩
      refine ⟨_, rfl, _, rfl, p, lg, lf, lp, b, a, l, rfl, R.same s6', .inl (s6'.seq hl), hlen, low, fun H7 s7 => ?_⟩
      have s7' := s6'.trans s7
      refine ⟨_, rfl, c, pl, rfl, hh.same s7', hok.1, fun h hm => ?_, fun H8 s8 => ⟨_, _, rfl, rfl, _, rfl, _, _, rfl, rfl, one1, fun q hq => ?_⟩⟩
      · have := hok.2 h hm
        omega
      · have e : ((b.road.cost l : Nat) : Int) + (haulsCost pl : Nat) + ys.sum = ((b.road.cost l + Uw09.cost (b.earth l) pl : Nat) : Int) := by
          rw [cost_eq, Int.natCast_add, Int.natCast_add]
          have e2 : ys.sum = ((pitsTo (b.earth l) pl (b.earth l).length : Nat) : Int) := by
            unfold pitsTo
            rw [total9_int, List.map_map, earth_len]
            congr 1
            refine List.map_congr_left fun i hi => ?_
            have hi' := (List.mem_range.mp hi : _)
            show pcost _ _ = (((Uw09.price ((b.earth l).getD i ⟨0, none⟩).pit (Uw09.rest (b.earth l) pl i)).getD 0 : Nat) : Int)
            rw [earth_getD b hi', price_pcost (may i hi')]
          rw [e2]
          omega
        refine k _ q ((s7'.trans s8).trans (Same.new hq)) ((s7'.trans s8).free hq) ?_
        rw [upd_same]
        show some (HO.lst [V.int (((b.road.cost l : Nat) : Int) + (haulsCost pl : Nat) + ys.sum)]) = some (HO.lst [V.int ((b.road.cost l + Uw09.cost (b.earth l) pl : Nat) : Int)])
        rw [e]
end

end RL

end
section
set_option Elab.async false
set_option linter.all false
set_option maxRecDepth 100000
set_option maxHeartbeats 2000000
namespace RL
open PySem PySem.Spec PyProof.Rows L2
section
variable {P : Program} {w : World} {K : PySem.W.Frag} {mg : Str → Option Value} {base : Heap} {t : Adr}
/-! ### tables of costs -/
theorem rep_one (k : Nat) (x : V) : (List.replicate k [x]).flatten = List.replicate k x := by
  induction k with
  | zero => rfl
  | succ k ih => rw [List.replicate_succ, List.flatten_cons, ih, List.replicate_succ]; rfl
theorem iV_rep (k : Nat) (x : Int) : iV (List.replicate k x) = List.replicate k (V.int x) := by
  unfold iV
  rw [List.map_replicate]
theorem iV_app (a b : List Int) : iV (a ++ b) = iV a ++ iV b := by
  unfold iV
  exact List.map_append
theorem iV_drop (a : List Int) (n : Nat) : iV (a.drop n) = (iV a).drop n := by
  unfold iV
  exact List.map_drop
theorem iV_take (a : List Int) (n : Nat) : iV (a.take n) = (iV a).take n := by
  unfold iV
  exact List.map_take
theorem cut_from (xs : List V) {a : Nat} (h : a ≤ xs.length) : cutV xs (some (a : Int)) none = xs.drop a := by
  unfold cutV
  rw [HT.sIx_nat, HT.sIx_none, Nat.min_eq_left h, List.take_of_length_le (by rw [List.length_drop]; exact Nat.le_refl _)]
theorem cut_back (xs : List V) {a : Nat} (h : a ≤ xs.length) (h0 : 0 < a) : cutV xs none (some (-(a : Int))) = xs.take (xs.length - a) := by
  unfold cutV
  have e : HT.sIx xs.length xs.length (some (-(a : Int))) = xs.length - a := by
    show (if (-(a : Int)) < 0 then ((-(a : Int)) + (xs.length : Int)).toNat else min (-(a : Int)).toNat xs.length) = _
    rw [if_pos (by omega)]
    omega
  rw [HT.sIx_none, e, List.drop_zero, Nat.sub_zero]
def NewL (H : Hp) (Q : VK) (l : List Int) : Prop := ∀ H' r, Same H H' → H r = none → H' r = some (.lst (iV l)) → Q (.ref r) H'
def spPast : Sp := fun vs H Q _ => vs = [] ∧ NewL H Q past
theorem one1 : (1 : Nat) ≤ sizeLine := by decide
theorem le_size {n : Nat} (h : n ≤ 1000) : n ≤ sizeLine := Nat.le_trans h (by decide)
theorem ok_costs_past_the_last (T : Txt K mg t) : FnOk P w K mg base CX0 1 t.f_costs_past_the_last t.d_costs_past_the_last [] spPast := by
  have S := sc_costs_past_the_last
  refine T.F_costs_past_the_last.ok S (fun vs H Q E h => ?_) (fun cdv A outer s H vs Q E hr h => ?_)
  · obtain ⟨rfl, _⟩ := h
    rfl
  · obtain ⟨rfl, k⟩ := h
    refine ⟨_, (pss_one (ps_ret (pe_op op_cat (pe_op op_cat (pe_op op_rep (pe_lst (pa_cons (pe_gc rfl T.g_NEVER) pa_nil)) (pe_gc rfl T.g_REACH)) (pe_lst (pa_cons pe_int pa_nil))) (pe_op op_rep (pe_lst (pa_cons (pe_gc rfl T.g_NEVER) pa_nil)) (pe_gc rfl T.g_REACH))))), ?_⟩
    refine ⟨one1, fun p1 h1 => ⟨p1, 30, _, rfl, rfl, upd_same, by decide, by decide, by decide, fun p2 h2 => ⟨one1, fun p3 h3 => ?_⟩⟩⟩
    have a2 : p2 ≠ p3 := ne_of_none upd_same h3
    refine ⟨p2, p3, _, _, rfl, rfl, (upd_ne a2).trans upd_same, upd_same, by decide, fun p4 h4 => ⟨one1, fun p5 h5 => ⟨p5, 30, _, rfl, rfl, upd_same, by decide, by decide, by decide, fun p6 h6 => ?_⟩⟩⟩
    have a4 : p4 ≠ p5 := ne_of_none upd_same h5
    have a6 : p4 ≠ p6 := ne_of_none ((upd_ne a4).trans upd_same) h6
    refine ⟨p4, p6, _, _, rfl, rfl, (upd_ne a6).trans ((upd_ne a4).trans upd_same), upd_same, by decide, fun p7 h7 => ?_⟩
    exact k _ p7 (((((((Same.new h1).trans (Same.new h2)).trans (Same.new h3)).trans (Same.new h4)).trans (Same.new h5)).trans (Same.new h6)).trans (Same.new h7)) (upd_free (upd_free (upd_free (upd_free (upd_free (upd_free h7)))))) (by rw [upd_same]; rfl)
def spCheap (K : PySem.W.Frag) : Sp := fun vs H Q _ => ∃ a T, ∃ p : Int, vs = [.ref a, .int p] ∧ SqL K H a (iV T) ∧ 0 < T.length ∧ T.length ≤ 1000 ∧ NewL H Q (cheap T p)
theorem ok_cheapened (T : Txt K mg t) : FnOk P w K mg base CX0 1 t.f_cheapened t.d_cheapened ["costs", "price"] (spCheap K) := by
  have S := sc_cheapened
  refine T.F_cheapened.ok S (fun vs H Q E h => ?_) (fun cdv A outer s H vs Q E hr h => ?_)
  · obtain ⟨a, Tb, p, rfl, _⟩ := h
    rfl
  · obtain ⟨a, Tb, p, rfl, ha, h0, h1000, k⟩ := h
    refine ⟨_, (pss_cons (ps_set (i := 2) S.nd rfl (Or.inl rfl) (pe_lst (pa_cons (pe_ix ix_list (pv 0) pe_int (fun _ _ => rfl)) pa_nil)))
 (pss_cons (ps_for PassesOwn.never rfl (pi_list (pe_slice sl_list (pv 0) (po_some pe_int) po_none)) (pg_name (i := 3) S.nd rfl (Or.inl rfl))
 (pss_one (ps_expr (pe_bm PySem.F.plainAttrs_list PySem.F.slot_list_append PySem.F.type_list_append mt_append (pv 2) (pa_cons (pe_callB (call_min2 rfl) (by rfl) T.n_min PyProof.Rows.boot_min (pa_cons (pv 3) (pa_cons (pe_op op_add (pe_ix ix_list (pv 2) (pe_un un_neg pe_int) (fun _ _ => rfl)) (pv 1)) pa_nil))) pa_nil)))))
 (pss_one (ps_ret (pv 2))))), ?_⟩
    have at_ : ∀ i, i < Tb.length → (iV Tb)[i]? = some (V.int (Tb.getD i 0)) := fun i hi => iV_at (by rw [List.getD_eq_getElem?_getD, List.getElem?_eq_getElem hi]; rfl)
    refine ⟨_, rfl, a, _, _, _, rfl, rfl, ha, atI_nat (j := 0) (at_ 0 h0), one1, fun r hr0 => ?_⟩
    refine ⟨_, rfl, _, rfl, a, _, rfl, (Same.new hr0).seq ha, fun q hq => ?_⟩
    have rq : r ≠ q := ne_of_none upd_same hq
    have ec : cutV (iV Tb) (some 1) none = (iV Tb).drop 1 := cut_from (iV Tb) (a := 1) (by rw [iV_len]; exact h0)
    rw [ec]
    have sm0 : Same H (upd (upd H r (.lst [V.int (Tb.getD 0 0)])) q (.lst ((iV Tb).drop 1))) := (Same.new hr0).trans (Same.new hq)
    have hqH : H q = none := (Same.new hr0).free hq
    refine ⟨q, rfl, ⟨_, SqL.of upd_same⟩, ?_⟩
    have sl : ∀ i, i < Tb.length - 1 → ((iV Tb).drop 1)[i]? = some (V.int (Tb.getD (i + 1) 0)) := fun i hi => by
      rw [List.getElem?_drop, Nat.add_comm]
      exact at_ (i + 1) (by omega)
    refine for_it (n := Tb.length - 1) (fun i σ H' => ∃ v3, σ = [some (.ref a), some (.int p), some (.ref r), v3] ∧ Same H H' ∧ H' q = some (.lst ((iV Tb).drop 1)) ∧ H' r = some (.lst (iV ((List.range (i + 1)).map (chN Tb p))))) ⟨none, rfl, sm0, upd_same, (upd_ne rq).trans upd_same⟩ ?_ ?_ ?_ ?_
    · rintro i σ H' lt ⟨v3, rfl, sm, hq', _⟩
      exact ⟨_, _, SqL.of hq', sl i lt⟩
    · rintro σ H' ⟨v3, rfl, sm, hq', _⟩
      exact ⟨_, SqL.of hq', by rw [List.length_drop, iV_len]; exact Nat.le_refl _⟩
    · rintro i σ H' x H2 lt ⟨v3, rfl, sm, hq', hr'⟩ ⟨rfl, y⟩
      have ey := y _ (SqL.of hq')
      rw [sl i lt] at ey
      cases ey
      have last : atI (iV ((List.range (i + 1)).map (chN Tb p))) (-1) = some (V.int (chN Tb p i)) := by
        rw [List.range_succ, List.map_append, iV_app]
        exact atI_last _ _
      refine ⟨_, rfl, .inl ⟨rfl, _, SqL.of hr'⟩, _, rfl, _, rfl, _, rfl, r, _, _, _, rfl, rfl, SqL.of hr', last, _, rfl, _, _, rfl, rfl, _, _, rfl, r, _, _, rfl, rfl, hr', ?_, ?_⟩
      · rw [iV_len, List.length_map, List.length_range]
        exact small1000 (by omega)
      · refine ⟨some (V.int (Tb.getD (i + 1) 0)), rfl, fun b o e => ?_, (upd_ne rq.symm).trans hq', ?_⟩
        · have nb : b ≠ r := fun z => by rw [z, hr0] at e; cases e
          rw [upd_ne nb]
          exact sm _ _ e
        · rw [upd_same, List.range_succ (n := i + 1), List.map_append, iV_app]
          refine congrArg (fun l => some (HO.lst l)) ?_
          congr 1
          show [V.int _] = [V.int (min (Tb.getD (i + 1) 0) (chN Tb p i + p))]
          congr 2
          split <;> omega
    · rintro σ H' ⟨v3, rfl, sm, hq', hr'⟩
      refine ⟨_, rfl, k H' r sm hr0 ?_⟩
      rw [hr', show Tb.length - 1 + 1 = Tb.length by omega]
      rfl
def spHere (K : PySem.W.Frag) : Sp := fun vs H Q _ => ∃ v o a T, vs = [v, .ref a] ∧ PitIs H v o ∧ SqL K H a (iV T) ∧ 0 < T.length ∧ T.length ≤ 1000 ∧ NewL H Q (here o T)
theorem ok_costs_at_point (T : Txt K mg t) : FnOk P w K mg base CX0 3 t.f_costs_at_point t.d_costs_at_point ["pit", "costs"] (spHere K) := by
  have S := sc_costs_at_point
  refine T.F_costs_at_point.ok S (fun vs H Q E h => ?_) (fun cdv A outer s H vs Q E hr h => ?_)
  · obtain ⟨v, o, a, Tb, rfl, _⟩ := h
    rfl
  · obtain ⟨v, o, a, Tb, rfl, hv, ha, h0, h1000, k⟩ := h
    refine ⟨_, (pss_cons (ps_setLc (i := 2) rfl S.nd rfl rfl (sw_true rfl rfl rfl rfl) (pi_enum rfl T.n_enumerate (pa_cons (pv 1) pa_nil)) (blkOk_by (own := [("place", 5), ("cost", 6)]) rfl) (fun _ _ _ _ _ => (pg_tupK (K := K) (n := 2) rfl rfl (pgs_cons (pg_name (i := 5) S.nd rfl (Or.inl rfl)) (pgs_cons (pg_name (i := 6) S.nd rfl (Or.inl rfl)) pgs_nil)))) (fun _ _ _ _ _ => pts_nil) (fun _ _ _ _ _ => (pe_op op_add (pv 6) (pe_callB call_abs (by rfl) T.n_abs PyProof.Rows.boot_abs (pa_cons (pe_op op_sub (pv 5) (pe_gc rfl T.g_REACH)) pa_nil)))))
 (pss_cons (ps_if (pt_cmp (pc_isN (pv 0)))
 (pss_one (ps_ret (pv 2)))
 pss_nil)
 (pss_cons (ps_set (i := 3) S.nd rfl (Or.inl rfl) (pe_call (ok_cheapened T) (hr.mono (by decide)) rfl T.m_cheapened T.F_cheapened.kp T.b_cheapened .nil pass0 (pa_cons (pv 2) (pa_cons (pe_ix ix_tup (pv 0) pe_int (fun _ _ => rfl)) pa_nil))))
 (pss_cons (ps_set (i := 4) S.nd rfl (Or.inl rfl) (pe_call (ok_cheapened T) (hr.mono (by decide)) rfl T.m_cheapened T.F_cheapened.kp T.b_cheapened .nil pass0 (pa_cons (pe_listRev rfl rfl T.n_list rfl T.n_reversed (pv 3)) (pa_cons (pe_ix ix_tup (pv 0) pe_int (fun _ _ => rfl)) pa_nil))))
 (pss_one (ps_ret (pe_listRev rfl rfl T.n_list rfl T.n_reversed (pv 4)))))))), ?_⟩
    have at_ : ∀ i, i < Tb.length → (iV Tb)[i]? = some (V.int (Tb.getD i 0)) := fun i hi => iV_at (by rw [List.getD_eq_getElem?_getD, List.getElem?_eq_getElem hi]; rfl)
    refine ⟨_, rfl, a, _, rfl, ha, fun D hD => lc_map (n := Tb.length) (iV (carried Tb)) (by rw [iV_len, carried_len]) h1000 hD (fun i H' lt sm => ⟨_, _, sm.seq ha, at_ i lt⟩) (fun H' sm => ⟨_, sm.seq ha, by rw [iV_len]; exact Nat.le_refl _⟩) (fun i H1 x H2 y => ?_) (fun i H1 x H2 lt sm y sm2 N hN => ?_) (fun H1 s1 hD' => ?_)⟩
    · obtain ⟨T', x', rfl, hT, rfl, _⟩ := y
      exact Same.new hT
    · obtain ⟨T', x', rfl, hT, rfl, hx⟩ := y
      have ex := hx _ (sm.seq ha)
      rw [at_ i lt] at ex
      cases ex
      have qy : (iV (carried Tb))[i]? = some (V.int (Tb.getD i 0 + (((i : Int) - 30).natAbs : Int))) := iV_at (by unfold carried; rw [List.getElem?_map, List.getElem?_range lt]; rfl)
      refine ⟨T', _, rfl, SqT.of upd_same, rfl, _, _, rfl, _, _, rfl, rfl, rfl, _, rfl, _, rfl, _, _, rfl, rfl, _, rfl, _, _, rfl, rfl, ?_⟩
      have e : Tb.getD i 0 + (if ((i : Nat) : Int) - 30 < 0 then -(((i : Nat) : Int) - 30) else ((i : Nat) : Int) - 30) = Tb.getD i 0 + (((i : Int) - 30).natAbs : Int) := by
        split <;> omega
      show N (.int (Tb.getD i 0 + (if ((i : Nat) : Int) - 30 < 0 then -(((i : Nat) : Int) - 30) else ((i : Nat) : Int) - 30))) _
      rw [e]
      exact hN _ _ qy (Same.refl _)
    · cases o with
      | none =>
        have hv' : v = .non := hv
        subst hv'
        exact ⟨_, rfl, _, rfl, iteT ⟨_, rfl, k H1 D s1 hD hD'⟩⟩
      | some z =>
        obtain ⟨tp, fe⟩ := z
        obtain ⟨ap, rfl, hap⟩ := hv
        have cl : (carried Tb).length = Tb.length := carried_len Tb
        refine ⟨_, rfl, _, rfl, iteF ?_⟩
        refine ⟨_, rfl, _, rfl, ap, _, _, _, rfl, rfl, SqT.of (s1 _ _ hap), atI_nat (j := 0) rfl, D, carried Tb, (tp : Int), rfl, SqL.of hD', by omega, by omega, fun H2 r2 s2 _ e2 => ?_⟩
        have l2 : (cheap (carried Tb) tp).length = Tb.length := by rw [cheap_len, cl]
        have s2' := s1.trans s2
        refine ⟨_, rfl, r2, _, rfl, SqL.of e2, fun r3 h3 => ?_⟩
        have s3' : Same H (upd H2 r3 (.lst (iV (cheap (carried Tb) tp)).reverse)) := s2'.trans (Same.new h3)
        have e3 : (upd H2 r3 (.lst (iV (cheap (carried Tb) tp)).reverse)) r3 = some (.lst (iV (cheap (carried Tb) tp).reverse)) := by
          rw [upd_same]
          unfold iV
          rw [List.map_reverse]
        refine ⟨_, rfl, ap, _, _, _, rfl, rfl, SqT.of (s3' _ _ hap), atI_nat (j := 1) rfl, r3, (cheap (carried Tb) tp).reverse, (fe : Int), rfl, SqL.of e3, by rw [List.length_reverse]; omega, by rw [List.length_reverse]; omega, fun H4 r4 s4 _ e4 => ?_⟩
        refine ⟨_, rfl, r4, _, rfl, SqL.of e4, fun r5 h5 => ?_⟩
        have s4' := s3'.trans s4
        refine k _ r5 (s4'.trans (Same.new h5)) (s4'.free h5) ?_
        rw [upd_same]
        show some (HO.lst _) = some (HO.lst (iV (cheap (cheap (carried Tb) tp).reverse fe).reverse))
        unfold iV
        rw [List.map_reverse (l := cheap (cheap (carried Tb) tp).reverse fe)]
def spAhead (K : PySem.W.Frag) : Sp := fun vs H Q _ => ∃ a T, ∃ o : Int, vs = [.ref a, .int o] ∧ H a = some (.lst (iV T)) ∧ T.length = 61 ∧ o.natAbs ≤ 6 ∧ NewL H Q (ahead T o)
theorem ok_costs_ahead (T : Txt K mg t) : FnOk P w K mg base CX0 1 t.f_costs_ahead t.d_costs_ahead ["costs_here", "over"] (spAhead K) := by
  have S := sc_costs_ahead
  refine T.F_costs_ahead.ok S (fun vs H Q E h => ?_) (fun cdv A outer s H vs Q E hr h => ?_)
  · obtain ⟨a, Tb, o, rfl, _⟩ := h
    rfl
  · obtain ⟨a, Tb, o, rfl, ha, h61, ho, k⟩ := h
    refine ⟨_, (pss_cons (ps_if (pt_cmpR op_ge (pv 1) pe_int (nomark _))
 (pss_one (ps_ret (pe_op op_cat (pe_slice sl_list (pv 0) (po_some (pv 1)) po_none) (pe_op op_rep (pe_lst (pa_cons (pe_gc rfl T.g_NEVER) pa_nil)) (pv 1)))))
 pss_nil)
 (pss_one (ps_ret (pe_op op_cat (pe_op op_rep (pe_lst (pa_cons (pe_gc rfl T.g_NEVER) pa_nil)) (pe_un un_neg (pv 1))) (pe_slice sl_list (pv 0) po_none (po_some (pv 1))))))), ?_⟩
    unfold ahead at k
    have l61 : (iV Tb).length = 61 := by rw [iV_len, h61]
    refine ⟨_, rfl, _, _, rfl, rfl, _, rfl, ite2 (fun h => ?_) (fun h => ?_)⟩
    · have h' : 0 ≤ o := of_decide_eq_true h
      rw [if_pos h'] at k
      refine ⟨_, rfl, _, rfl, _, rfl, a, _, rfl, SqL.of ha, fun p1 h1 => ?_⟩
      have ec : cutV (iV Tb) (some o) none = (iV Tb).drop o.toNat := by
        have := cut_from (iV Tb) (a := o.toNat) (by omega)
        rwa [show ((o.toNat : Nat) : Int) = o by omega] at this
      rw [ec]
      refine ⟨one1, fun p2 h2 => ⟨_, rfl, p2, o, _, rfl, rfl, upd_same, by omega, by omega, le_size (by show 1 * o.toNat ≤ 1000; omega), fun p3 h3 => ?_⟩⟩
      have a1 : p1 ≠ p2 := ne_of_none upd_same h2
      have a3 : p1 ≠ p3 := ne_of_none ((upd_ne a1).trans upd_same) h3
      refine ⟨p1, p3, _, _, rfl, rfl, (upd_ne a3).trans ((upd_ne a1).trans upd_same), upd_same, ?_, fun p4 h4 => k _ p4 ((((Same.new h1).trans (Same.new h2)).trans (Same.new h3)).trans (Same.new h4)) (upd_free (upd_free (upd_free h4))) ?_⟩
      · rw [rep_one, List.length_drop, List.length_replicate]
        exact le_size (by omega)
      · rw [upd_same, rep_one, iV_app, iV_drop, iV_rep]
        rfl
    · have h' : ¬ 0 ≤ o := fun q => h (decide_eq_true q)
      rw [if_neg h'] at k
      refine ⟨one1, fun p1 h1 => ⟨_, rfl, _, rfl, p1, -o, _, rfl, rfl, upd_same, by omega, by omega, le_size (by show 1 * (-o).toNat ≤ 1000; omega), fun p2 h2 => ?_⟩⟩
      have s2 := (Same.new (o := HO.lst [V.int 1000000]) h1).trans (Same.new (o := HO.lst (List.replicate (-o).toNat [V.int 1000000]).flatten) h2)
      refine ⟨_, rfl, _, rfl, _, rfl, a, _, rfl, s2.seq (SqL.of ha), fun p3 h3 => ?_⟩
      have ec : cutV (iV Tb) none (some o) = (iV Tb).take (61 - (-o).toNat) := by
        have := cut_back (iV Tb) (a := (-o).toNat) (by omega) (by omega)
        rwa [show -(((-o).toNat : Nat) : Int) = o by omega, l61] at this
      rw [ec]
      have a2 : p2 ≠ p3 := ne_of_none upd_same h3
      refine ⟨p2, p3, _, _, rfl, rfl, (upd_ne a2).trans upd_same, upd_same, ?_, fun p4 h4 => k _ p4 ((s2.trans (Same.new h3)).trans (Same.new h4)) (upd_free (upd_free (upd_free h4))) ?_⟩
      · rw [rep_one, List.length_take, List.length_replicate]
        exact le_size (by omega)
      · rw [upd_same, rep_one, iV_app, iV_take, iV_rep, h61]
        rfl
/-! ### does this height fit ahead? -/
def restB (r : Uw16.Road) (h : Nat) : List Nat → Bool
  | [] => true
  | [x] => decide (Uw16.apart h x ≤ r.slope)
  | x :: y :: _ => decide (Uw16.apart h x ≤ r.slope) && decide (Uw16.apart (h + y) (2 * x) ≤ r.bend)
theorem fits_split (b : Uw17.Build) (i h : Nat) (l : List Nat) : fitsB b.road i h l = ((!fxB b i h) && restB b.road h l) := by
  unfold fitsB fxB
  cases (b.road.point i).fixed with
  | none =>
    match l with
    | [] => rfl
    | [x] => show (true && (decide _ && true)) = (true && decide _); rw [Bool.and_true]
    | x :: y :: l => rfl
  | some f =>
    match l with
    | [] => show ((f == h) && (true && true)) = (!!(f == h) && true); rw [Bool.not_not]; rfl
    | [x] => show ((f == h) && (decide _ && true)) = (!!(f == h) && decide _); rw [Bool.not_not, Bool.and_true]
    | x :: y :: l => show ((f == h) && (decide _ && decide _)) = (!!(f == h) && (decide _ && decide _)); rw [Bool.not_not]
def spFits (C : Addr) (K : PySem.W.Frag) : Sp := fun vs H Q _ => ∃ p lg lf lp b a l, ∃ i h : Nat, vs = [.ref p, .int i, .int h, .ref a] ∧ RoadAt C H p lg lf lp b ∧ i < b.road.points.length ∧ SqT K H a (nV l) ∧ Q (.bl (fitsB b.road i h l)) H
theorem ok_fits_ahead (T : Txt K mg t) : FnOk P w K mg base CX0 3 t.f_fits_ahead t.d_fits_ahead ["road", "point", "height", "heights"] (spFits t.C_Road K) := by
  have S := sc_fits_ahead
  refine T.F_fits_ahead.ok S (fun vs H Q E h => ?_) (fun cdv A outer s H vs Q E hr h => ?_)
  · obtain ⟨p, lg, lf, lp, b, a, l, i, h, rfl, _⟩ := h
    rfl
  · obtain ⟨p, lg, lf, lp, b, a, l, i, h, rfl, R, hi, ha, k⟩ := h
    refine ⟨_, (pss_cons (ps_if (pt_val (pe_call (ok_fixed_otherwise T) (hr.mono (by decide)) rfl T.m_fixed_otherwise T.F_fixed_otherwise.kp T.b_fixed_otherwise .nil pass0 (pa_cons (pv 0) (pa_cons (pv 1) (pa_cons (pv 2) pa_nil)))))
 (pss_one (ps_ret pe_bl))
 pss_nil)
 (pss_cons (ps_if (PW.pt (pw_and (pt_cmpR op_gt (pe_callB call_len_seq (by rfl) T.n_len PySem.boot_len (pa_cons (pv 3) pa_nil)) pe_int (nomark _)) (pw_and1 (pt_val (pe_call (ok_too_steep T) (hr.mono (by decide)) rfl T.m_too_steep T.F_too_steep.kp T.b_too_steep .nil pass0 (pa_cons (pv 0) (pa_cons (pv 2) (pa_cons (pe_ix ix_tup (pv 3) pe_int (fun _ _ => rfl)) pa_nil))))))))
 (pss_one (ps_ret pe_bl))
 pss_nil)
 (pss_one (ps_ret (pe_or (pe_cmpR op_lt (pe_callB call_len_seq (by rfl) T.n_len PySem.boot_len (pa_cons (pv 3) pa_nil)) pe_int (nomark _)) (pe_one (pe_not (pe_call (ok_bends_too_much T) (hr.mono (by decide)) rfl T.m_bends_too_much T.F_bends_too_much.kp T.b_bends_too_much .nil pass0 (pa_cons (pv 0) (pa_cons (pv 2) (pa_cons (pe_ix ix_tup (pv 3) pe_int (fun _ _ => rfl)) (pa_cons (pe_ix ix_tup (pv 3) pe_int (fun _ _ => rfl)) pa_nil)))))))))))), ?_⟩
    rw [fits_split b i h l] at k
    refine ⟨_, rfl, _, rfl, _, rfl, p, lg, lf, lp, b, i, h, rfl, R, hi, _, rfl, ?_⟩
    cases e1 : fxB b i h with
    | true =>
      rw [e1] at k
      exact iteT k
    | false =>
    rw [e1] at k
    refine iteF ⟨_, rfl, a, _, rfl, .inr ha, _, _, rfl, rfl, _, rfl, ?_⟩
    match l, ha, k with
    | [], ha, k =>
      refine iteF (iteF ⟨_, rfl, a, _, rfl, .inr ha, _, _, rfl, rfl, _, rfl, iteT k⟩)
    | [x], ha, k =>
      refine iteT ⟨_, rfl, _, rfl, _, rfl, a, _, _, _, rfl, rfl, ha, atI_nat (j := 0) rfl, p, lg, lf, lp, b, h, x, rfl, R, _, rfl, ?_⟩
      have k' : Q (.bl (true && decide (Uw16.apart h x ≤ b.road.slope))) H := k
      by_cases c : b.road.slope < Uw16.apart h x
      · rw [decide_eq_false (by omega)] at k'
        exact iteD c k'
      · rw [decide_eq_true (by omega)] at k'
        exact iteDn c ⟨_, rfl, a, _, rfl, .inr ha, _, _, rfl, rfl, _, rfl, iteT k'⟩
    | x :: y :: l, ha, k =>
      have g0 : decide ((0 : Int) < (((nV (x :: y :: l)).length : Nat) : Int)) = true := decide_eq_true (by rw [nV_len, List.length_cons]; omega)
      have g2 : decide ((((nV (x :: y :: l)).length : Nat) : Int) < 2) = false := decide_eq_false (by rw [nV_len, List.length_cons, List.length_cons]; omega)
      show if decide ((0 : Int) < (((nV (x :: y :: l)).length : Nat) : Int)) = true then _ else _
      rw [g0]
      refine iteT ⟨_, rfl, _, rfl, _, rfl, a, _, _, _, rfl, rfl, ha, atI_nat (j := 0) rfl, p, lg, lf, lp, b, h, x, rfl, R, _, rfl, ?_⟩
      have k' : Q (.bl (true && (decide (Uw16.apart h x ≤ b.road.slope) && decide (Uw16.apart (h + y) (2 * x) ≤ b.road.bend)))) H := k
      by_cases c : b.road.slope < Uw16.apart h x
      · rw [decide_eq_false (by omega)] at k'
        exact iteD c k'
      · rw [decide_eq_true (show Uw16.apart h x ≤ b.road.slope by omega)] at k'
        refine iteDn c ⟨_, rfl, a, _, rfl, .inr ha, _, _, rfl, rfl, _, rfl, ?_⟩
        show if decide ((((nV (x :: y :: l)).length : Nat) : Int) < 2) = true then _ else _
        rw [g2]
        refine iteF ⟨_, rfl, _, rfl, _, rfl, a, _, _, _, rfl, rfl, ha, atI_nat (j := 0) rfl, _, rfl, a, _, _, _, rfl, rfl, ha, atI_nat (j := 1) rfl, p, lg, lf, lp, b, h, x, y, rfl, R, _, rfl, ?_⟩
        have e : (!decide (b.road.bend < Uw16.apart (h + y) (2 * x))) = decide (Uw16.apart (h + y) (2 * x) ≤ b.road.bend) := by
          rw [← decide_not]
          exact decide_eq_decide.mpr (by omega)
        show Q (.bl (!decide (b.road.bend < Uw16.apart (h + y) (2 * x)))) H
        rw [e]
        exact k'
end

end RL

end
section
set_option Elab.async false
set_option linter.all false
set_option maxRecDepth 100000
set_option maxHeartbeats 2000000
namespace RL
open PySem PySem.Spec PyProof.Rows L2
/-! ### t + u, t not empty, in either case -/
def rCatN (K : PySem.W.Frag) : R2 := fun x y H Q => ∃ a b xs ys, x = .ref a ∧ y = .ref b ∧ SqT K H a xs ∧ SqT K H b ys ∧ xs ≠ [] ∧ xs.length + ys.length ≤ sizeLine ∧ ∀ H' u, Same H H' → SqT K H' u (xs ++ ys) → Q (.ref u) H'
theorem op_catN {X : Cx} : OpR X (binaryOp .Add) (rCatN X.K) := by
  intro pins s σ H x y v u Q I rx ry h
  obtain ⟨a, b, xs, ys, rfl, rfl, ha, hb, hne, hz, q⟩ := h
  refine op_catT pins s σ H _ _ v u Q I rx ry ⟨a, b, xs, ys, rfl, rfl, ha, hb, hne, hz, fun e => ?_, fun e p hp => ?_⟩
  · subst e
    exact q H a (Same.refl H) (by rw [List.append_nil]; exact ha)
  · exact q _ p (Same.new hp) (SqT.of upd_same)
/-! ### the heap without one list -/
def del (H : Hp) (a : Addr) : Hp := fun x => if x = a then none else H x
theorem del_ne {H : Hp} {a x : Addr} (h : x ≠ a) : del H a x = H x := if_neg h
theorem del_same (H : Hp) (a : Addr) : Same (del H a) H := fun x o e => by
  by_cases h : x = a
  · rw [show del H a x = none from if_pos h] at e
    cases e
  · rwa [del_ne h] at e
theorem del_mono {H H' : Hp} (s : Same H H') (a : Addr) : Same (del H a) (del H' a) := fun x o e => by
  by_cases h : x = a
  · rw [show del H a x = none from if_pos h] at e
    cases e
  · rw [del_ne h] at e ⊢
    exact s _ _ e
theorem del_upd (H : Hp) (a : Addr) (o : HO) : del (upd H a o) a = del H a := by
  funext x
  by_cases h : x = a
  · rw [show del (upd H a o) a x = none from if_pos h, show del H a x = none from if_pos h]
  · rw [del_ne h, del_ne h, upd_ne h]
theorem del_of {H H' : Hp} {a : Addr} (h : H a = none) (s : Same H H') : Same H (del H' a) := fun x o e => by
  have : x ≠ a := fun z => by rw [z, h] at e; cases e
  rw [del_ne this]
  exact s _ _ e
section
variable {P : Program} {w : World} {K : PySem.W.Frag} {mg : Str → Option Value} {base : Heap} {t : Adr}
def End1 (K : PySem.W.Frag) (H : Hp) (r : Addr) (x : List Nat × List Int) : Prop := ∃ h c, SqT K H r [.ref h, .ref c] ∧ SqT K H h (nV x.1) ∧ H c = some (.lst (iV x.2))
def EndsR (K : PySem.W.Frag) (H : Hp) (rs : List Addr) (L : List (List Nat × List Int)) : Prop := rs.length = L.length ∧ ∀ (i : Nat) (r : Addr) (x : List Nat × List Int), rs[i]? = some r → L[i]? = some x → End1 K H r x
theorem End1.same {H H' : Hp} {r : Addr} {x : List Nat × List Int} (h : End1 K H r x) (s : Same H H') : End1 K H' r x := by
  obtain ⟨a, c, h1, h2, h3⟩ := h
  exact ⟨a, c, s.tup h1, s.tup h2, s _ _ h3⟩
theorem EndsR.same {H H' : Hp} {rs : List Addr} {L : List (List Nat × List Int)} (h : EndsR K H rs L) (s : Same H H') : EndsR K H' rs L := ⟨h.1, fun i r x e1 e2 => (h.2 i r x e1 e2).same s⟩
theorem EndsR.snoc {H : Hp} {rs : List Addr} {L : List (List Nat × List Int)} {r : Addr} {x : List Nat × List Int} (h : EndsR K H rs L) (hx : End1 K H r x) : EndsR K H (rs ++ [r]) (L ++ [x]) := by
  refine ⟨by rw [List.length_append, List.length_append, h.1]; rfl, fun i q y e1 e2 => ?_⟩
  by_cases c : i < rs.length
  · rw [List.getElem?_append_left c] at e1
    rw [List.getElem?_append_left (by rw [← h.1]; exact c)] at e2
    exact h.2 i q y e1 e2
  · rw [List.getElem?_append_right (by omega)] at e1
    rw [List.getElem?_append_right (by rw [← h.1]; omega)] at e2
    have e : i - rs.length = 0 := by
      have := (List.getElem?_eq_some_iff.mp e1).1
      have : i - rs.length < 1 := this
      omega
    rw [e] at e1
    rw [← h.1, e] at e2
    cases e1
    cases e2
    exact hx
def lngE (b : Uw17.Build) (i : Nat) (x : List Nat × List Int) (h : Nat) : List Nat × List Int := (h :: x.1, ahead (here (b.pits.getD i none) x.2) (((b.road.point i).ground : Int) - (h : Int)))
def lngP (b : Uw17.Build) (i : Nat) (x : List Nat × List Int) (m : Nat) : List (List Nat × List Int) := ((List.range m).filter fun h => fitsB b.road i h x.1).map (lngE b i x)
def lng (b : Uw17.Build) (i : Nat) (L : List (List Nat × List Int)) : List (List Nat × List Int) := L.flatMap fun x => lngP b i x 7
theorem lngP_succ (b : Uw17.Build) (i : Nat) (x : List Nat × List Int) (m : Nat) : lngP b i x (m + 1) = lngP b i x m ++ if fitsB b.road i m x.1 = true then [lngE b i x m] else [] := by
  unfold lngP
  rw [List.range_succ, List.filter_append, List.map_append]
  congr 1
  cases e : fitsB b.road i m x.1 with
  | true =>
    rw [if_pos rfl, List.filter_cons, if_pos (by exact e)]
    rfl
  | false =>
    rw [if_neg (by decide), List.filter_cons, if_neg (by rw [e]; decide)]
    rfl
theorem lngP_len (b : Uw17.Build) (i : Nat) (x : List Nat × List Int) (m : Nat) : (lngP b i x m).length ≤ m := by
  unfold lngP
  rw [List.length_map]
  have := List.length_filter_le (fun h => fitsB b.road i h x.1) (List.range m)
  rwa [List.length_range] at this
theorem lng_take (b : Uw17.Build) (i : Nat) {L : List (List Nat × List Int)} {j : Nat} {x : List Nat × List Int} (h : L[j]? = some x) : lng b i (L.take (j + 1)) = lng b i (L.take j) ++ lngP b i x 7 := by
  unfold lng
  rw [List.take_add_one, h, List.flatMap_append]
  show _ ++ (lngP b i x 7 ++ []) = _
  rw [List.append_nil]
theorem lng_len (b : Uw17.Build) (i : Nat) : ∀ (L : List (List Nat × List Int)), (lng b i L).length ≤ 7 * L.length
  | [] => Nat.le_refl _
  | x :: L => by
    have h1 := lng_len b i L
    have h2 := lngP_len b i x 7
    show (lngP b i x 7 ++ lng b i L).length ≤ 7 * (L.length + 1)
    rw [List.length_append]
    omega
theorem lt_size {n : Nat} (h : n ≤ 100000) : n < sizeLine := Nat.lt_of_le_of_lt h (by decide)
theorem two2 : (2 : Nat) ≤ sizeLine := by decide
def spLonger (C : Addr) (K : PySem.W.Frag) : Sp := fun vs H Q _ => ∃ p lg lf lp b a rs L, ∃ i : Nat, vs = [.ref p, .int i, .ref a] ∧ RoadAt C H p lg lf lp b ∧ i < b.road.points.length ∧ SqL K H a (rs.map V.ref) ∧ EndsR K H rs L ∧ L.length ≤ 2401 ∧ (∀ x ∈ L, x.2.length = 61 ∧ x.1.length ≤ 5) ∧
  ∀ H' r rs', Same H H' → H r = none → H' r = some (.lst (rs'.map V.ref)) → EndsR K H' rs' (lng b i L) → Q (.ref r) H'
theorem ok_longer_ends (T : Txt K mg t) : FnOk P w K mg base CX0 5 t.f_longer_ends t.d_longer_ends ["road", "point", "ends"] (spLonger t.C_Road K) := by
  have S := sc_longer_ends
  refine T.F_longer_ends.ok S (fun vs H Q E h => ?_) (fun cdv A outer s H vs Q E hr h => ?_)
  · obtain ⟨p, lg, lf, lp, b, a, rs, L, i, rfl, _⟩ := h
    rfl
  · obtain ⟨p, lg, lf, lp, b, a, rs, L, i, rfl, R, hi, ha, hE, hL, h61, k⟩ := h
    refine ⟨_, (pss_cons (ps_set (i := 3) S.nd rfl (Or.inl rfl) (pe_lst pa_nil))
 (pss_cons (ps_for PassesOwn.never rfl (pi_list (pv 2)) (pg_tup rfl (pgs_cons (pg_name (i := 4) S.nd rfl (Or.inl rfl)) (pgs_cons (pg_name (i := 5) S.nd rfl (Or.inl rfl)) pgs_nil)))
 (pss_cons (ps_set (i := 6) S.nd rfl (Or.inl rfl) (pe_call (ok_costs_at_point T) (hr.mono (by decide)) rfl T.m_costs_at_point T.F_costs_at_point.kp T.b_costs_at_point .nil pass0 (pa_cons (pe_ix ix_list (pe_fld (pv 0) rfl) (pv 1) (fun _ _ => rfl)) (pa_cons (pv 5) pa_nil))))
 (pss_one (ps_for PassesOwn.never rfl (pi_range1 rfl T.n_range (pa_cons (pe_op op_add (pe_gc rfl T.g_MOST_HEIGHT) pe_int) pa_nil)) (pg_name (i := 7) S.nd rfl (Or.inl rfl))
 (pss_one (ps_if (pt_val (pe_call (ok_fits_ahead T) (hr.mono (by decide)) rfl T.m_fits_ahead T.F_fits_ahead.kp T.b_fits_ahead .nil pass0 (pa_cons (pv 0) (pa_cons (pv 1) (pa_cons (pv 7) (pa_cons (pv 4) pa_nil))))))
 (pss_cons (ps_set (i := 8) S.nd rfl (Or.inl rfl) (pe_op op_sub (pe_ix ix_list (pe_fld (pv 0) rfl) (pv 1) (fun _ _ => rfl)) (pv 7)))
 (pss_one (ps_expr (pe_bm PySem.F.plainAttrs_list PySem.F.slot_list_append PySem.F.type_list_append mt_append (pv 3) (pa_cons (pe_tup (pa_cons (pe_op op_catN (pe_tup (pa_cons (pv 7) pa_nil)) (pv 4)) (pa_cons (pe_call (ok_costs_ahead T) (hr.mono (by decide)) rfl T.m_costs_ahead T.F_costs_ahead.kp T.b_costs_ahead .nil pass0 (pa_cons (pv 6) (pa_cons (pv 8) pa_nil))) pa_nil))) pa_nil)))))
 pss_nil))))))
 (pss_one (ps_ret (pv 3))))), ?_⟩
    -- longer = []
    refine ⟨Nat.zero_le _, fun r hr0 => ?_⟩
    refine ⟨_, rfl, a, rfl, ⟨_, (Same.new hr0).seq ha⟩, ?_⟩
    refine for_it (n := L.length) (fun j σ H' => ∃ v4 v5 v6 v7 v8 rs', σ = [some (.ref p), some (.int i), some (.ref a), some (.ref r), v4, v5, v6, v7, v8] ∧ Same H H' ∧ H' r = some (.lst (rs'.map V.ref)) ∧ EndsR K (del H' r) rs' (lng b i (L.take j))) ⟨none, none, none, none, none, [], rfl, Same.new hr0, upd_same, rfl, fun i r x e => (by cases e)⟩ ?_ ?_ ?_ ?_
    · rintro j σ H' lt ⟨v4, v5, v6, v7, v8, rs', rfl, sm, hr', _⟩
      exact ⟨_, V.ref (rs[j]'(by rw [hE.1]; exact lt)), sm.seq ha, by rw [List.getElem?_map, List.getElem?_eq_getElem (by rw [hE.1]; exact lt)]; rfl⟩
    · rintro σ H' ⟨v4, v5, v6, v7, v8, rs', rfl, sm, hr', _⟩
      exact ⟨_, sm.seq ha, by rw [List.length_map, hE.1]; exact Nat.le_refl _⟩
    · rintro j σ H' x H2 lt ⟨v4, v5, v6, v7, v8, rs', rfl, sm, hr', hR⟩ ⟨rfl, y⟩
      have ltr : j < rs.length := by rw [hE.1]; exact lt
      have ey := y _ (sm.seq ha)
      rw [List.getElem?_map, List.getElem?_eq_getElem ltr] at ey
      cases ey
      have ex : L[j]? = some L[j] := List.getElem?_eq_getElem lt
      obtain ⟨hh, hc, q1, q2, q3⟩ := hE.2 j rs[j] L[j] (List.getElem?_eq_getElem ltr) ex
      obtain ⟨x61, xl5⟩ := h61 _ (List.getElem_mem lt)
      have hk : lng b i (L.take (j + 1)) = lng b i (L.take j) ++ lngP b i L[j] 7 := lng_take b i ex
      have hlen : (lng b i (L.take j)).length ≤ 7 * 2401 := by
        have := lng_len b i (L.take j)
        rw [List.length_take] at this
        omega
      generalize L[j] = x at ex q1 q2 q3 x61 xl5 hk
      have R' := R.same sm
      obtain ⟨dx, hp⟩ := R'.ob
      obtain ⟨ws, hw, pw⟩ := R'.ps
      have hip : i < b.pits.length := by rw [R.ok.pl]; exact hi
      have hiw : i < ws.length := by rw [pw.1]; exact hip
      have ep : b.pits[i]? = some b.pits[i] := List.getElem?_eq_getElem hip
      have eg : b.pits.getD i none = b.pits[i] := by rw [List.getD_eq_getElem?_getD, ep]; rfl
      have pv := pw.2 i _ _ (List.getElem?_eq_getElem hiw) ep
      rw [← eg] at pv
      refine ⟨_, _, rfl, sm.tup q1, rfl, _, _, rfl, _, _, rfl, rfl, ?_⟩
      -- costs_here = costs_at_point(road.pits[point], costs)
      refine ⟨_, rfl, p, _, dx, _, _, rfl, hp, T.cl_Road, T.n_Road_pits, rfl, _, rfl, lp, _, _, _, rfl, rfl, SqL.of hw, atI_nat (List.getElem?_eq_getElem hiw), _, rfl, _, _, hc, x.2, rfl, pv, SqL.of (sm _ _ q3), by omega, by omega, fun H1 ch s1 hc0 hc1 => ?_⟩
      have hr1 : H1 r = some (.lst (rs'.map V.ref)) := s1 _ _ hr'
      have chr : ch ≠ r := fun z => by rw [z, hr'] at hc0; cases hc0
      have sD : Same H (del H1 r) := del_of hr0 (sm.trans s1)
      have hch : (del H1 r) ch = some (.lst (iV (here (b.pits.getD i none) x.2))) := (del_ne chr).trans hc1
      -- for height in range(MOST_HEIGHT + 1)
      refine ⟨_, _, rfl, rfl, _, rfl, by decide, by decide, ?_⟩
      refine for_it (n := 7) (fun m σ H' => ∃ v7 v8 rs2, σ = [some (.ref p), some (.int i), some (.ref a), some (.ref r), some (.ref hh), some (.ref hc), some (.ref ch), v7, v8] ∧ Same (del H1 r) (del H' r) ∧ H' r = some (.lst (rs2.map V.ref)) ∧ EndsR K (del H' r) rs2 (lng b i (L.take j) ++ lngP b i x m)) ⟨v7, v8, rs', rfl, Same.refl _, hr1, ?_⟩ ?_ ?_ ?_ ?_
      · show EndsR K (del H1 r) rs' (lng b i (L.take j) ++ [])
        rw [List.append_nil]
        exact hR.same (del_mono s1 r)
      · rintro m σ H' lt ⟨v7, v8, rs2, rfl, sm2, hr2, _⟩
        exact lt
      · rintro σ H' ⟨v7, v8, rs2, rfl, sm2, hr2, _⟩
        exact Nat.le_refl _
      · rintro m σ H2 y H' lt7 ⟨v7, v8, rs2, rfl, sm2, hr2, hR2⟩ ⟨rfl, rfl⟩
        have z : (0 : Int) + (m : Nat) = (m : Nat) := by omega
        rw [z]
        have sH : Same H H' := (sD.trans sm2).trans (del_same H' r)
        have RH := R.same sH
        obtain ⟨dx2, hp2⟩ := RH.ob
        have len2 : rs2.length ≤ 20000 := by
          have h1 := hR2.1
          rw [List.length_append] at h1
          have h2 := lngP_len b i x m
          omega
        refine ⟨_, rfl, _, rfl, _, rfl, _, rfl, p, lg, lf, lp, b, hh, x.1, i, m, rfl, RH, hi, sH.tup q2, _, rfl, ite2 (fun hf => ?_) (fun hf => ?_)⟩
        · refine ⟨_, rfl, p, _, dx2, _, _, rfl, hp2, T.cl_Road, T.n_Road_grounds, rfl, _, rfl, lg, _, _, _, rfl, rfl, SqL.of RH.gs, atI_nat (gV_at hi), _, rfl, _, _, rfl, rfl, ?_⟩
          refine ⟨_, rfl, .inl ⟨rfl, _, SqL.of hr2⟩, _, rfl, one1, fun p1 h1 => ?_⟩
          have n1 : Same H' (upd H' p1 (.tup [V.int (m : Nat)])) := Same.new h1
          refine ⟨_, rfl, p1, hh, [V.int (m : Nat)], nV x.1, rfl, rfl, SqT.of upd_same, n1.tup (sH.tup q2), by simp, ?_, fun H3 u s3 hu => ?_⟩
          · rw [nV_len]
            exact le_size (by show 1 + x.1.length ≤ 1000; omega)
          have s3' := n1.trans s3
          have ch3 : H3 ch = some (.lst (iV (here (b.pits.getD i none) x.2))) := s3' _ _ (del_same H' r _ _ (sm2 _ _ hch))
          have gl := ground_low R.ok i
          refine ⟨_, rfl, _, rfl, ch, _, _, rfl, ch3, by rw [here_len]; exact x61, by omega, fun H4 c4 s4 c40 c41 => ⟨two2, fun q hq => ?_⟩⟩
          have s4' := s3'.trans s4
          have hr4 : H4 r = some (.lst (rs2.map V.ref)) := s4' _ _ hr2
          have qr : q ≠ r := (ne_of_none hr4 hq).symm
          have c4r : c4 ≠ r := fun z => by
            rw [z, s3' _ _ hr2] at c40
            cases c40
          refine ⟨r, _, _, rfl, rfl, (upd_ne qr.symm).trans hr4, ?_, ?_⟩
          · rw [List.length_map]
            exact lt_size (by omega)
          · have sD4 : Same (del H' r) (del (upd (upd H4 q (.tup [V.ref u, V.ref c4])) r (.lst (rs2.map V.ref ++ [V.ref q]))) r) := by
              rw [del_upd]
              exact del_mono (s4'.trans (Same.new hq)) r
            refine ⟨some (.int (m : Nat)), some (.int (((b.road.point i).ground : Int) - (m : Nat))), rs2 ++ [q], rfl, sm2.trans sD4, ?_, ?_⟩
            · rw [upd_same, List.map_append]
              rfl
            · rw [lngP_succ, if_pos hf, ← List.append_assoc]
              refine (hR2.same sD4).snoc ⟨u, c4, ?_, ?_, ?_⟩
              · rw [del_upd]
                exact SqT.of ((del_ne qr).trans upd_same)
              · rw [del_upd]
                have hu4 : SqT K (upd H4 q (.tup [V.ref u, V.ref c4])) u (V.int (m : Nat) :: nV x.1) := (s4.trans (Same.new hq)).tup hu
                rcases hu4 with (h | ⟨o, h⟩) | h
                · refine .inl (.inl ?_)
                  have : u ≠ r := fun z => by rw [z, upd_ne qr.symm, hr4] at h; cases h
                  exact (del_ne this).trans h
                · refine .inl (.inr ⟨o, ?_⟩)
                  have : u ≠ r := fun z => by rw [z, upd_ne qr.symm, hr4] at h; cases h
                  exact (del_ne this).trans h
                · exact .inr h
              · rw [del_upd]
                have : c4 ≠ q := ne_of_none c41 hq
                exact (del_ne c4r).trans ((upd_ne this).trans c41)
        · refine ⟨some (.int (m : Nat)), v8, rs2, rfl, sm2, hr2, ?_⟩
          rw [lngP_succ, if_neg hf, List.append_nil]
          exact hR2
      · rintro σ H' ⟨v7, v8, rs2, rfl, sm2, hr2, hR2⟩
        refine ⟨some (.ref hh), some (.ref hc), some (.ref ch), v7, v8, rs2, rfl, (sD.trans sm2).trans (del_same H' r), hr2, ?_⟩
        rw [hk]
        exact hR2
    · rintro σ H' ⟨v4, v5, v6, v7, v8, rs', rfl, sm, hr', hR⟩
      rw [List.take_length] at hR
      exact ⟨_, rfl, k H' r rs' sm hr0 hr' (hR.same (del_same H' r))⟩
end

end RL

end
section
set_option Elab.async false
set_option linter.all false
set_option maxRecDepth 100000
set_option maxHeartbeats 2000000
namespace RL
open PySem PySem.Spec PyProof.Rows L2
section
variable {P : Program} {w : World} {K : PySem.W.Frag} {mg : Str → Option Value} {base : Heap} {t : Adr}
/-- the ends with their tables -/
def EL (b : Uw17.Build) (j : Nat) : List (List Nat × List Int) := (ends b.road j).map fun l => (l, tab (earthR b (b.road.points.length - j) l))
theorem EL_succ (b : Uw17.Build) {j : Nat} (h : j < b.road.points.length) : lng b (b.road.points.length - (j + 1)) (EL b j) = EL b (j + 1) := by
  unfold lng EL
  show ((ends b.road j).map _).flatMap _ = ((ends b.road j).flatMap _).map _
  rw [List.flatMap_map, List.map_flatMap]
  congr 1
  funext l
  unfold lngP
  rw [List.map_map]
  congr 1
  funext h
  unfold lngE
  show (h :: l, _) = (h :: l, _)
  congr 1
  rw [show b.road.points.length - j = b.road.points.length - (j + 1) + 1 by omega]
  rfl
theorem EL_len (b : Uw17.Build) : ∀ j, j ≤ b.road.points.length → (EL b j).length ≤ 7 ^ j
  | 0, _ => Nat.le_refl _
  | j + 1, h => by
    have i := EL_len b j (by omega)
    rw [← EL_succ b (by omega)]
    have := lng_len b (b.road.points.length - (j + 1)) (EL b j)
    rw [Nat.pow_succ]
    omega
theorem EL_ok {b : Uw17.Build} (o : Ok b) {j : Nat} (h : j ≤ b.road.points.length) : ∀ x ∈ EL b j, x.2.length = 61 ∧ x.1.length ≤ 5 := fun x hx => by
  obtain ⟨l, hl, rfl⟩ := List.mem_map.mp hx
  obtain ⟨h1, h2, _⟩ := (ends_mem b.road j l h).mp hl
  refine ⟨tab_len (earthR_over o h2), ?_⟩
  have := o.few
  show l.length ≤ 5
  omega
def Blt1 (K : PySem.W.Frag) (H : Hp) (r : Addr) (y : Int × List Nat) : Prop := ∃ la, SqT K H r [.int y.1, .ref la] ∧ SqT K H la (nV y.2)
def BltR (K : PySem.W.Frag) (H : Hp) (rs : List Addr) (L : List (Int × List Nat)) : Prop := rs.length = L.length ∧ ∀ (i : Nat) (r : Addr) (y : Int × List Nat), rs[i]? = some r → L[i]? = some y → Blt1 K H r y
theorem BltR.same {H H' : Hp} {rs : List Addr} {L : List (Int × List Nat)} (h : BltR K H rs L) (s : Same H H') : BltR K H' rs L := ⟨h.1, fun i r x e1 e2 => by
  obtain ⟨la, h1, h2⟩ := h.2 i r x e1 e2
  exact ⟨la, s.tup h1, s.tup h2⟩⟩
theorem BltR.snoc {H : Hp} {rs : List Addr} {L : List (Int × List Nat)} {r : Addr} {x : Int × List Nat} (h : BltR K H rs L) (hx : Blt1 K H r x) : BltR K H (rs ++ [r]) (L ++ [x]) := by
  refine ⟨by rw [List.length_append, List.length_append, h.1]; rfl, fun i q y e1 e2 => ?_⟩
  by_cases c : i < rs.length
  · rw [List.getElem?_append_left c] at e1
    rw [List.getElem?_append_left (by rw [← h.1]; exact c)] at e2
    exact h.2 i q y e1 e2
  · rw [List.getElem?_append_right (by omega)] at e1
    rw [List.getElem?_append_right (by rw [← h.1]; omega)] at e2
    have e : i - rs.length = 0 := by
      have := (List.getElem?_eq_some_iff.mp e1).1
      have : i - rs.length < 1 := this
      omega
    rw [e] at e1
    rw [← h.1, e] at e2
    cases e1
    cases e2
    exact hx
def blE (b : Uw17.Build) (x : List Nat × List Int) : List (Int × List Nat) := if tv x.2 0 < NV then [((b.road.cost x.1 : Int) + tv x.2 0, x.1)] else []
def bl (b : Uw17.Build) (L : List (List Nat × List Int)) : List (Int × List Nat) := L.flatMap (blE b)
theorem bl_take (b : Uw17.Build) {L : List (List Nat × List Int)} {j : Nat} {x : List Nat × List Int} (h : L[j]? = some x) : bl b (L.take (j + 1)) = bl b (L.take j) ++ blE b x := by
  unfold bl
  rw [List.take_add_one, h, List.flatMap_append]
  show _ ++ (blE b x ++ []) = _
  rw [List.append_nil]
theorem bl_len (b : Uw17.Build) : ∀ L, (bl b L).length ≤ L.length
  | [] => Nat.le_refl _
  | x :: L => by
    have h1 := bl_len b L
    have h2 : (blE b x).length ≤ 1 := by
      unfold blE
      split
      · exact Nat.le_refl _
      · exact Nat.zero_le _
    show (blE b x ++ bl b L).length ≤ L.length + 1
    rw [List.length_append]
    omega
theorem flat_filter {α β : Type} (p : α → Bool) (f : α → β) : ∀ L : List α, L.flatMap (fun x => if p x = true then [f x] else []) = (L.filter p).map f
  | [] => rfl
  | x :: L => by
    rw [List.flatMap_cons, List.filter_cons, flat_filter p f L]
    cases e : p x with
    | true => rw [if_pos rfl, if_pos rfl]; rfl
    | false => rw [if_neg (by decide), if_neg (by decide)]; rfl
theorem bl_EL (b : Uw17.Build) : bl b (EL b b.road.points.length) = built b := by
  unfold bl EL built
  rw [List.flatMap_map, ← flat_filter]
  congr 1
  funext l
  unfold blE v0
  rw [Nat.sub_self]
  by_cases c : tv (tab (earthR b 0 l)) 0 < NV
  · rw [if_pos c, if_pos (decide_eq_true c)]
  · rw [if_neg c, if_neg (by rw [decide_eq_true_iff]; exact c)]
def spBuilt (C : Addr) (K : PySem.W.Frag) : Sp := fun vs H Q _ => ∃ p lg lf lp b, vs = [.ref p] ∧ RoadAt C H p lg lf lp b ∧
  ∀ H' r rs', Same H H' → H r = none → H' r = some (.lst (rs'.map V.ref)) → BltR K H' rs' (built b) → Q (.ref r) H'
theorem ok_lines_built (T : Txt K mg t) : FnOk P w K mg base CX0 7 t.f_lines_built t.d_lines_built ["road"] (spBuilt t.C_Road K) := by
  have S := sc_lines_built
  refine T.F_lines_built.ok S (fun vs H Q E h => ?_) (fun cdv A outer s H vs Q E hr h => ?_)
  · obtain ⟨p, lg, lf, lp, b, rfl, _⟩ := h
    rfl
  · obtain ⟨p, lg, lf, lp, b, rfl, R, k⟩ := h
    have few := R.ok.few
    refine ⟨_, (pss_cons (ps_set (i := 1) S.nd rfl (Or.inl rfl) (pe_lst (pa_cons (pe_tup (pa_cons (pe_tup pa_nil) (pa_cons (pe_call0 (ok_costs_past_the_last T) (hr.mono (by decide)) rfl T.m_costs_past_the_last T.F_costs_past_the_last.kp T.b_costs_past_the_last .nil pass0) pa_nil))) pa_nil)))
 (pss_cons (ps_for PassesOwn.never rfl (pi_range3 rfl T.n_range (pa_cons (pe_op op_sub (pe_callB call_len_seq (by rfl) T.n_len PySem.boot_len (pa_cons (pe_fld (pv 0) rfl) pa_nil)) pe_int) (pa_cons (pe_un un_neg pe_int) (pa_cons (pe_un un_neg pe_int) pa_nil)))) (pg_name (i := 2) S.nd rfl (Or.inl rfl))
 (pss_one (ps_set (i := 1) S.nd rfl (Or.inl rfl) (pe_call (ok_longer_ends T) (hr.mono (by decide)) rfl T.m_longer_ends T.F_longer_ends.kp T.b_longer_ends .nil pass0 (pa_cons (pv 0) (pa_cons (pv 2) (pa_cons (pv 1) pa_nil)))))))
 (pss_cons (ps_set (i := 3) S.nd rfl (Or.inl rfl) (pe_lst pa_nil))
 (pss_cons (ps_for PassesOwn.never rfl (pi_list (pv 1)) (pg_tup rfl (pgs_cons (pg_name (i := 4) S.nd rfl (Or.inl rfl)) (pgs_cons (pg_name (i := 5) S.nd rfl (Or.inl rfl)) pgs_nil)))
 (pss_one (ps_if (pt_cmpR op_lt (pe_ix ix_list (pv 5) (pe_gc rfl T.g_REACH) (fun _ _ => rfl)) (pe_gc rfl T.g_NEVER) (nomark _))
 (pss_one (ps_expr (pe_bm PySem.F.plainAttrs_list PySem.F.slot_list_append PySem.F.type_list_append mt_append (pv 3) (pa_cons (pe_tup (pa_cons (pe_op op_add (pe_call (ok_line_cost T) (hr.mono (by decide)) rfl T.m_line_cost T.F_line_cost.kp T.b_line_cost .nil pass0 (pa_cons (pv 0) (pa_cons (pv 4) pa_nil))) (pe_ix ix_list (pv 5) (pe_gc rfl T.g_REACH) (fun _ _ => rfl))) (pa_cons (pv 4) pa_nil))) pa_nil))))
 pss_nil)))
 (pss_one (ps_ret (pv 3))))))), ?_⟩
    -- ends = [((), costs_past_the_last())]
    refine ⟨Nat.zero_le _, fun e0 he0 => ⟨rfl, fun H1 c1 s1 hc0 hc1 => ⟨two2, fun q1 hq1 => ⟨one1, fun a1 ha1 => ?_⟩⟩⟩⟩
    have s1' : Same H H1 := (Same.new he0).trans s1
    have sA : Same H1 (upd (upd H1 q1 (.tup [V.ref e0, V.ref c1])) a1 (.lst [V.ref q1])) := (Same.new hq1).trans (Same.new ha1)
    have R1 := R.same (s1'.trans sA)
    obtain ⟨dx, hp⟩ := R1.ob
    have qa : q1 ≠ a1 := ne_of_none upd_same ha1
    have E0 : EndsR K (upd (upd H1 q1 (.tup [V.ref e0, V.ref c1])) a1 (.lst [V.ref q1])) [q1] (EL b 0) := by
      refine ⟨rfl, fun i r x h1 h2 => ?_⟩
      cases i with
      | zero =>
        cases h1
        cases h2
        exact ⟨e0, c1, SqT.of ((upd_ne qa).trans upd_same), sA.tup (s1.tup (SqT.of upd_same)), sA _ _ hc1⟩
      | succ i => cases h1
    -- the points, from the last to the first
    refine ⟨_, rfl, p, _, dx, _, _, rfl, hp, T.cl_Road, T.n_Road_grounds, rfl, lg, _, rfl, .inl (SqL.of R1.gs), _, _, rfl, rfl, _, rfl, _, rfl, _, _, _, _, rfl, RgC.neg (by rw [gV_len]; omega) (by rw [gV_len]; omega) (by decide) (by decide), ?_⟩
    have en : ((((gV b).length : Nat) : Int) - 1 - -1).toNat = b.road.points.length := by rw [gV_len]; omega
    rw [en]
    refine for_it (n := b.road.points.length) (fun j σ H' => ∃ v2 a rs, σ = [some (.ref p), some (.ref a), v2, none, none, none] ∧ Same H H' ∧ H' a = some (.lst (rs.map V.ref)) ∧ EndsR K H' rs (EL b j)) ⟨none, a1, [q1], rfl, s1'.trans sA, upd_same, E0⟩ ?_ ?_ ?_ ?_
    · rintro j σ H' lt ⟨v2, a, rs, rfl, sm, ha, hE⟩
      exact lt
    · rintro σ H' ⟨v2, a, rs, rfl, sm, ha, hE⟩
      exact Nat.le_refl _
    · rintro j σ H2 x H' lt ⟨v2, a, rs, rfl, sm, ha, hE⟩ ⟨rfl, rfl⟩
      have z : (((gV b).length : Nat) : Int) - 1 + ((j : Nat) : Int) * -1 = ((b.road.points.length - (j + 1) : Nat) : Int) := by rw [gV_len]; omega
      rw [z]
      have l2 : (EL b j).length ≤ 2401 := by
        have h1 := EL_len b j (by omega)
        have h2 : 7 ^ j ≤ 7 ^ 4 := Nat.pow_le_pow_right (by decide) (by omega)
        have h3 : (7 : Nat) ^ 4 = 2401 := by decide
        omega
      refine ⟨_, rfl, _, rfl, _, rfl, p, lg, lf, lp, b, a, rs, EL b j, b.road.points.length - (j + 1), rfl, R.same sm, by omega, SqL.of ha, hE, l2, EL_ok R.ok (by omega), fun H3 r3 rs3 s3 _ hr3 hE3 => ?_⟩
      rw [EL_succ b lt] at hE3
      exact ⟨_, r3, rs3, rfl, sm.trans s3, hr3, hE3⟩
    rintro σ H1 ⟨v2, a, rs, rfl, s1, ha, hE⟩
    -- built = []
    refine ⟨Nat.zero_le _, fun r hr0 => ?_⟩
    have ar : a ≠ r := ne_of_none ha hr0
    have hrH : H r = none := s1.free hr0
    have lE : (EL b b.road.points.length).length ≤ 16807 := by
      have h1 := EL_len b b.road.points.length (Nat.le_refl _)
      have h2 : 7 ^ b.road.points.length ≤ 7 ^ 5 := Nat.pow_le_pow_right (by decide) (by omega)
      have h3 : (7 : Nat) ^ 5 = 16807 := by decide
      omega
    refine ⟨_, rfl, a, rfl, ⟨_, (Same.new hr0).seq (SqL.of ha)⟩, ?_⟩
    refine for_it (n := (EL b b.road.points.length).length) (fun j σ H' => ∃ v2 v4 v5 rs', σ = [some (.ref p), some (.ref a), v2, some (.ref r), v4, v5] ∧ Same H1 (del H' r) ∧ H' r = some (.lst (rs'.map V.ref)) ∧ BltR K (del H' r) rs' (bl b ((EL b b.road.points.length).take j))) ⟨v2, none, none, [], rfl, ?_, upd_same, rfl, fun i r x e => (by cases e)⟩ ?_ ?_ ?_ ?_
    · rw [del_upd]
      exact del_of hr0 (Same.refl H1)
    · rintro j σ H' lt ⟨v2, v4, v5, rs', rfl, sm, hr', hB⟩
      have ltr : j < rs.length := by rw [hE.1]; exact lt
      exact ⟨_, V.ref rs[j], (sm.trans (del_same H' r)).seq (SqL.of ha), by rw [List.getElem?_map, List.getElem?_eq_getElem ltr]; rfl⟩
    · rintro σ H' ⟨v2, v4, v5, rs', rfl, sm, hr', hB⟩
      exact ⟨_, (sm.trans (del_same H' r)).seq (SqL.of ha), by rw [List.length_map, hE.1]; exact Nat.le_refl _⟩
    · rintro j σ H2 x H' lt ⟨v2, v4, v5, rs', rfl, sm, hr', hB⟩ ⟨rfl, y⟩
      have ltr : j < rs.length := by rw [hE.1]; exact lt
      have sH : Same H1 H' := sm.trans (del_same H' r)
      have ey := y _ (sH.seq (SqL.of ha))
      rw [List.getElem?_map, List.getElem?_eq_getElem ltr] at ey
      cases ey
      have ex : (EL b b.road.points.length)[j]? = some (EL b b.road.points.length)[j] := List.getElem?_eq_getElem lt
      have mem : (EL b b.road.points.length)[j] ∈ EL b b.road.points.length := List.getElem_mem lt
      obtain ⟨hh, hc, q1, q2, q3⟩ := hE.2 j rs[j] _ (List.getElem?_eq_getElem ltr) ex
      have hk := bl_take b ex
      have x61 := (EL_ok R.ok (Nat.le_refl _) _ mem).1
      obtain ⟨l0, hl0, el0⟩ := List.mem_map.mp mem
      have xl := (ends_mem b.road b.road.points.length l0 (Nat.le_refl _)).mp hl0
      have xe : (EL b b.road.points.length)[j].1 = l0 := by rw [← el0]
      generalize (EL b b.road.points.length)[j] = x at ex q1 q2 q3 hk x61 xe
      have lenr : rs'.length ≤ 16807 := by
        have h1 := hB.1
        have h2 := bl_len b ((EL b b.road.points.length).take j)
        rw [List.length_take] at h2
        omega
      have t30 : (iV x.2)[30]? = some (V.int (tv x.2 0)) := by
        refine iV_at ?_
        show _ = some (x.2.getD 30 0)
        rw [List.getD_eq_getElem?_getD, List.getElem?_eq_getElem (by omega)]
        rfl
      refine ⟨_, _, rfl, sH.tup q1, rfl, _, _, rfl, _, _, rfl, rfl, ?_⟩
      refine ⟨_, rfl, hc, _, _, _, rfl, rfl, SqL.of (sH _ _ q3), atI_nat (j := 30) t30, _, _, rfl, rfl, _, rfl, ite2 (fun hf => ?_) (fun hf => ?_)⟩
      · have hf' : tv x.2 0 < NV := of_decide_eq_true hf
        refine ⟨_, rfl, .inl ⟨rfl, _, SqL.of hr'⟩, ?_⟩
        refine ⟨_, rfl, _, rfl, p, lg, lf, lp, b, hh, x.1, rfl, R.same (s1.trans sH), .inr (sH.tup q2), by rw [xe]; exact xl.1, by rw [xe]; exact xl.2.1, fun H3 s3 => ?_⟩
        have q3' : H3 hc = some (.lst (iV x.2)) := s3 _ _ (sH _ _ q3)
        refine ⟨_, rfl, hc, _, _, _, rfl, rfl, SqL.of q3', atI_nat (j := 30) t30, _, _, rfl, rfl, _, rfl, two2, fun q hq => ?_⟩
        have hr3 : H3 r = some (.lst (rs'.map V.ref)) := s3 _ _ hr'
        have qr : q ≠ r := (ne_of_none hr3 hq).symm
        refine ⟨r, _, _, rfl, rfl, (upd_ne qr.symm).trans hr3, ?_, ?_⟩
        · rw [List.length_map]
          exact lt_size (by omega)
        · have sD : Same (del H' r) (del (upd (upd H3 q (.tup [V.int ((b.road.cost x.1 : Nat) + tv x.2 0), V.ref hh])) r (.lst (rs'.map V.ref ++ [V.ref q]))) r) := by
            rw [del_upd]
            exact del_mono (s3.trans (Same.new hq)) r
          refine ⟨v2, some (.ref hh), some (.ref hc), rs' ++ [q], rfl, sm.trans sD, ?_, ?_⟩
          · rw [upd_same, List.map_append]
            rfl
          · rw [hk]
            unfold blE
            rw [if_pos hf']
            refine (hB.same sD).snoc ⟨hh, ?_, ?_⟩
            · rw [del_upd]
              exact SqT.of ((del_ne qr).trans upd_same)
            · exact (sm.trans sD).tup q2
      · have hf' : ¬ tv x.2 0 < NV := fun q => hf (decide_eq_true q)
        refine ⟨v2, some (.ref hh), some (.ref hc), rs', rfl, sm, hr', ?_⟩
        rw [hk]
        unfold blE
        rw [if_neg hf', List.append_nil]
        exact hB
    · rintro σ H' ⟨v2, v4, v5, rs', rfl, sm, hr', hB⟩
      rw [List.take_length, bl_EL] at hB
      exact ⟨_, rfl, k H' r rs' (s1.trans (sm.trans (del_same H' r))) hrH hr' (hB.same (del_same H' r))⟩
end

end RL

end
section
set_option Elab.async false
set_option linter.all false
set_option maxRecDepth 100000
set_option maxHeartbeats 2000000
namespace RL
open PySem PySem.Spec PyProof.Rows L2
section
variable {P : Program} {w : World} {K : PySem.W.Frag} {mg : Str → Option Value} {base : Heap} {t : Adr}
/-! ### the lowest that goes on -/
def candB (o : Option (Nat × Nat)) (u : Int) (T : List Int) (least : Int) (j : Nat) : Bool := mayB o (u - ((j : Int) - 30)) && decide (pcost o (u - ((j : Int) - 30)) + ((((j : Int) - 30).natAbs : Nat) : Int) + T.getD j 0 = least)
theorem candB_iff {o : Option (Nat × Nat)} {u : Int} {T : List Int} {least : Int} {j : Nat} : candB o u T least j = true ↔ Cand o u T least ((j : Int) - 30) := by
  unfold candB Cand tv
  rw [Bool.and_eq_true, decide_eq_true_iff, show ((j : Int) - 30 + 30).toNat = j by omega]
def FirstAt (o : Option (Nat × Nat)) (u : Int) (T : List Int) (least : Int) (i : Nat) (ys : List Int) : Prop :=
  ys.length ≤ i ∧ ((ys = [] ∧ ∀ j, j < i → candB o u T least j = false) ∨ ∃ j0 rest, j0 < i ∧ ys = (((j0 : Nat) : Int) - 30) :: rest ∧ candB o u T least j0 = true ∧ ∀ j, j < j0 → candB o u T least j = false)
theorem FirstAt.yes {o : Option (Nat × Nat)} {u : Int} {T : List Int} {least : Int} {i : Nat} {ys : List Int} (h : FirstAt o u T least i ys) (hc : candB o u T least i = true) : FirstAt o u T least (i + 1) (ys ++ [(i : Int) - 30]) := by
  obtain ⟨h0, h⟩ := h
  refine ⟨by rw [List.length_append]; show ys.length + 1 ≤ i + 1; omega, .inr ?_⟩
  rcases h with ⟨rfl, h⟩ | ⟨j0, rest, h1, rfl, h2, h3⟩
  · exact ⟨i, [], by omega, rfl, hc, h⟩
  · exact ⟨j0, rest ++ [(i : Int) - 30], by omega, rfl, h2, h3⟩
theorem FirstAt.no {o : Option (Nat × Nat)} {u : Int} {T : List Int} {least : Int} {i : Nat} {ys : List Int} (h : FirstAt o u T least i ys) (hc : candB o u T least i = false) : FirstAt o u T least (i + 1) ys := by
  obtain ⟨h0, h⟩ := h
  refine ⟨by omega, ?_⟩
  rcases h with ⟨rfl, h⟩ | ⟨j0, rest, h1, rfl, h2, h3⟩
  · refine .inl ⟨rfl, fun j hj => ?_⟩
    by_cases e : j = i
    · rw [e]; exact hc
    · exact h j (by omega)
  · exact .inr ⟨j0, rest, by omega, rfl, h2, h3⟩
def spFewest (K : PySem.W.Frag) : Sp := fun vs H Q _ => ∃ v o a T, ∃ u least : Int, vs = [v, .int u, .ref a, .int least] ∧ PitIs H v o ∧ SqL K H a (iV T) ∧ T.length = 61 ∧ (-1000 ≤ u ∧ u ≤ 1000) ∧ (∃ y, (-30 ≤ y ∧ y ≤ 30) ∧ Cand o u T least y) ∧
  ∀ H' y, Same H H' → (-30 ≤ y ∧ y ≤ 30) → Cand o u T least y → (∀ y', -30 ≤ y' → y' < y → ¬ Cand o u T least y') → Q (.int y) H'
theorem ok_fewest_onwards (T : Txt K mg t) : FnOk P w K mg base CX0 5 t.f_fewest_onwards t.d_fewest_onwards ["pit", "units", "costs", "least"] (spFewest K) := by
  have S := sc_fewest_onwards
  refine T.F_fewest_onwards.ok S (fun vs H Q E h => ?_) (fun cdv A outer s H vs Q E hr h => ?_)
  · obtain ⟨v, o, a, Tb, u, least, rfl, _⟩ := h
    rfl
  · obtain ⟨v, o, a, Tb, u, least, rfl, hv, ha, h61, hu, hex, k⟩ := h
    refine ⟨_, (pss_cons (ps_set (i := 4) S.nd rfl (Or.inl rfl) (pe_lst pa_nil))
 (pss_cons (ps_for PassesOwn.never rfl (pi_enum rfl T.n_enumerate (pa_cons (pv 2) pa_nil)) (pg_tup rfl (pgs_cons (pg_name (i := 5) S.nd rfl (Or.inl rfl)) (pgs_cons (pg_name (i := 6) S.nd rfl (Or.inl rfl)) pgs_nil)))
 (pss_cons (ps_set (i := 7) S.nd rfl (Or.inl rfl) (pe_op op_sub (pv 5) (pe_gc rfl T.g_REACH)))
 (pss_cons (ps_set (i := 8) S.nd rfl (Or.inl rfl) (pe_op op_sub (pv 1) (pv 7)))
 (pss_one (ps_if (PW.pt (pw_and (pt_val (pe_call (ok_may_be_left T) (hr.mono (by decide)) rfl T.m_may_be_left T.F_may_be_left.kp T.b_may_be_left .nil pass0 (pa_cons (pv 0) (pa_cons (pv 8) pa_nil)))) (pw_and1 (pt_cmpR op_eq (pe_op op_add (pe_op op_add (pe_call (ok_pit_cost T) (hr.mono (by decide)) rfl T.m_pit_cost T.F_pit_cost.kp T.b_pit_cost .nil pass0 (pa_cons (pv 0) (pa_cons (pv 8) pa_nil))) (pe_callB call_abs (by rfl) T.n_abs PyProof.Rows.boot_abs (pa_cons (pv 7) pa_nil))) (pv 6)) (pv 3) (nomark _)))))
 (pss_one (ps_expr (pe_bm PySem.F.plainAttrs_list PySem.F.slot_list_append PySem.F.type_list_append mt_append (pv 4) (pa_cons (pv 7) pa_nil))))
 pss_nil)))))
 (pss_one (ps_ret (pe_ix ix_list (pv 4) pe_int (fun _ _ => rfl)))))), ?_⟩
    have at_ : ∀ i, i < Tb.length → (iV Tb)[i]? = some (V.int (Tb.getD i 0)) := fun i hi => iV_at (by rw [List.getD_eq_getElem?_getD, List.getElem?_eq_getElem hi]; rfl)
    refine ⟨Nat.zero_le _, fun r hr0 => ?_⟩
    refine ⟨_, rfl, a, _, rfl, (Same.new hr0).seq ha, ?_⟩
    refine for_it (n := 61) (fun i σ H' => ∃ v5 v6 v7 v8 ys, σ = [some v, some (.int u), some (.ref a), some (.int least), some (.ref r), v5, v6, v7, v8] ∧ Same H H' ∧ H' r = some (.lst (iV ys)) ∧ FirstAt o u Tb least i ys) ⟨none, none, none, none, [], rfl, Same.new hr0, upd_same, Nat.zero_le _, .inl ⟨rfl, fun j hj => by omega⟩⟩ ?_ ?_ ?_ ?_
    · rintro i σ H' lt ⟨v5, v6, v7, v8, ys, rfl, sm, _⟩
      exact ⟨_, _, sm.seq ha, at_ i (by omega)⟩
    · rintro σ H' ⟨v5, v6, v7, v8, ys, rfl, sm, _⟩
      exact ⟨_, sm.seq ha, by rw [iV_len]; omega⟩
    · rintro i σ H2 x H' lt ⟨v5, v6, v7, v8, ys, rfl, sm, hr', hF⟩ ⟨T', x', rfl, hT, rfl, hx⟩
      have ex := hx _ (sm.seq ha)
      rw [at_ i (by omega)] at ex
      cases ex
      have sm2 : Same H (upd H2 T' (.tup [.int (i : Nat), .int (Tb.getD i 0)])) := sm.trans (Same.new hT)
      have hr2 : (upd H2 T' (.tup [.int (i : Nat), .int (Tb.getD i 0)])) r = some (.lst (iV ys)) := Same.new hT _ _ hr'
      have hv2 := hv.keep sm2.tups
      refine ⟨T', _, rfl, SqT.of upd_same, rfl, _, _, rfl, _, _, rfl, rfl, ?_⟩
      refine ⟨_, rfl, _, _, rfl, rfl, ?_⟩
      refine ⟨_, rfl, _, rfl, _, _, rfl, rfl, ?_⟩
      have fin0 : candB o u Tb least i = false → ∃ v5 v6 v7 v8 ys', [some v, some (V.int u), some (V.ref a), some (V.int least), some (V.ref r), some (V.int (i : Nat)), some (V.int (Tb.getD i 0)), some (V.int ((i : Nat) - 30)), some (V.int (u - ((i : Nat) - 30)))] = [some v, some (.int u), some (.ref a), some (.int least), some (.ref r), v5, v6, v7, v8] ∧ Same H (upd H2 T' (.tup [.int (i : Nat), .int (Tb.getD i 0)])) ∧ (upd H2 T' (.tup [.int (i : Nat), .int (Tb.getD i 0)])) r = some (.lst (iV ys')) ∧ FirstAt o u Tb least (i + 1) ys' :=
        fun hc => ⟨_, _, _, _, ys, rfl, sm2, hr2, hF.no hc⟩
      refine ⟨_, rfl, _, rfl, v, o, _, rfl, hv2, _, rfl, ?_⟩
      cases em : mayB o (u - ((i : Int) - 30)) with
      | false =>
        refine iteF (iteF ?_)
        refine fin0 ?_
        unfold candB
        rw [em, Bool.false_and]
      | true =>
        refine iteT ⟨_, rfl, _, rfl, v, o, _, rfl, hv2, by omega, _, rfl, _, rfl, _, _, rfl, rfl, _, rfl, _, _, rfl, rfl, _, rfl, rfl, _, rfl, ?_⟩
        have ea : pcost o (u - ((i : Int) - 30)) + (if ((i : Nat) : Int) - 30 < 0 then -(((i : Nat) : Int) - 30) else ((i : Nat) : Int) - 30) + Tb.getD i 0 = pcost o (u - ((i : Int) - 30)) + ((((i : Int) - 30).natAbs : Nat) : Int) + Tb.getD i 0 := by
          split <;> omega
        refine ite2 (fun hc => ?_) (fun hc => ?_)
        · have hc' := V.int.inj (of_decide_eq_true hc)
          have cb : candB o u Tb least i = true := by
            unfold candB
            rw [em, Bool.true_and, decide_eq_true_iff, ← ea]
            exact hc'
          refine ⟨_, rfl, .inl ⟨rfl, _, SqL.of hr2⟩, _, rfl, r, _, _, rfl, rfl, hr2, ?_, ?_⟩
          · rw [iV_len]
            have := hF.1
            exact small1000 (by omega)
          · refine ⟨_, _, _, _, ys ++ [(i : Int) - 30], rfl, fun b' o' e' => ?_, ?_, hF.yes cb⟩
            · have nb : b' ≠ r := fun z => by rw [z, hr0] at e'; cases e'
              rw [upd_ne nb]
              exact sm2 _ _ e'
            · rw [upd_same, iV_app]
              rfl
        · refine fin0 ?_
          unfold candB
          rw [em, Bool.true_and]
          refine decide_eq_false fun q => hc (decide_eq_true (congrArg V.int ?_))
          rw [← ea] at q
          exact q
    · rintro σ H' ⟨v5, v6, v7, v8, ys, rfl, sm, hr', hF⟩
      rcases hF.2 with ⟨_, hno⟩ | ⟨j0, rest, h1, rfl, h2, h3⟩
      · exfalso
        obtain ⟨y, hy, hc⟩ := hex
        have := hno (y + 30).toNat (by omega)
        have q : candB o u Tb least (y + 30).toNat = true := candB_iff.mpr (by rw [show (((y + 30).toNat : Nat) : Int) - 30 = y by omega]; exact hc)
        rw [q] at this
        cases this
      · refine ⟨_, rfl, r, _, _, _, rfl, rfl, SqL.of hr', atI_nat (j := 0) rfl, ?_⟩
        refine k H' _ sm (by omega) (candB_iff.mp h2) fun y' hy1 hy2 hc => ?_
        have := h3 (y' + 30).toNat (by omega)
        have q : candB o u Tb least (y' + 30).toNat = true := candB_iff.mpr (by rw [show (((y' + 30).toNat : Nat) : Int) - 30 = y' by omega]; exact hc)
        rw [q] at this
        cases this
/-! ### the tables along a line -/
def alongT (b : Uw17.Build) : Nat → List Nat → List (List Int)
  | _, [] => [past]
  | k, h :: t => tab (earthR b k (h :: t)) :: alongT b (k + 1) t
theorem alongT_at (b : Uw17.Build) : ∀ (l : List Nat) (k i : Nat), i ≤ l.length → (alongT b k l)[i]? = some (tab (earthR b (k + i) (l.drop i)))
  | [], k, i, h => by
    have : i = 0 := by
      have : i ≤ 0 := h
      omega
    subst this
    rfl
  | a :: l, k, 0, _ => rfl
  | a :: l, k, i + 1, h => by
    have := alongT_at b l (k + 1) i (Nat.le_of_succ_le_succ h)
    rw [show k + 1 + i = k + (i + 1) by omega] at this
    exact this
theorem alongT_len (b : Uw17.Build) : ∀ (l : List Nat) (k : Nat), (alongT b k l).length = l.length + 1
  | [], _ => rfl
  | _ :: l, k => congrArg (· + 1) (alongT_len b l (k + 1))
def AlR (H : Hp) (rs : List Addr) (Ts : List (List Int)) : Prop := rs.length = Ts.length ∧ ∀ (i : Nat) (r : Addr) (T : List Int), rs[i]? = some r → Ts[i]? = some T → H r = some (.lst (iV T))
theorem AlR.same {H H' : Hp} {rs : List Addr} {Ts : List (List Int)} (h : AlR H rs Ts) (s : Same H H') : AlR H' rs Ts := ⟨h.1, fun i r T e1 e2 => s _ _ (h.2 i r T e1 e2)⟩
theorem AlR.cons {H : Hp} {rs : List Addr} {Ts : List (List Int)} {r : Addr} {T : List Int} (h : AlR H rs Ts) (hr : H r = some (.lst (iV T))) : AlR H (r :: rs) (T :: Ts) := by
  refine ⟨by rw [List.length_cons, List.length_cons, h.1], fun i q S e1 e2 => ?_⟩
  cases i with
  | zero =>
    cases e1
    cases e2
    exact hr
  | succ i => exact h.2 i q S e1 e2
def spAlong (C : Addr) (K : PySem.W.Frag) : Sp := fun vs H Q _ => ∃ p lg lf lp b a l, vs = [.ref p, .ref a] ∧ RoadAt C H p lg lf lp b ∧ SqL K H a (iV (ovs b l)) ∧ l.length = b.road.points.length ∧ (∀ x ∈ l, x ≤ 6) ∧
  ∀ H' r rs, Same H H' → H r = none → H' r = some (.lst (rs.map V.ref)) → AlR H' rs (alongT b 0 l) → Q (.ref r) H'
theorem ok_costs_along (T : Txt K mg t) : FnOk P w K mg base CX0 5 t.f_costs_along t.d_costs_along ["road", "over"] (spAlong t.C_Road K) := by
  have S := sc_costs_along
  refine T.F_costs_along.ok S (fun vs H Q E h => ?_) (fun cdv A outer s H vs Q E hr h => ?_)
  · obtain ⟨p, lg, lf, lp, b, a, l, rfl, _⟩ := h
    rfl
  · obtain ⟨p, lg, lf, lp, b, a, l, rfl, R, ha, hn, low, k⟩ := h
    have few := R.ok.few
    refine ⟨_, (pss_cons (ps_set (i := 2) S.nd rfl (Or.inl rfl) (pe_lst (pa_cons (pe_call0 (ok_costs_past_the_last T) (hr.mono (by decide)) rfl T.m_costs_past_the_last T.F_costs_past_the_last.kp T.b_costs_past_the_last .nil pass0) pa_nil)))
 (pss_cons (ps_for PassesOwn.never rfl (pi_range3 rfl T.n_range (pa_cons (pe_op op_sub (pe_callB call_len_seq (by rfl) T.n_len PySem.boot_len (pa_cons (pv 1) pa_nil)) pe_int) (pa_cons (pe_un un_neg pe_int) (pa_cons (pe_un un_neg pe_int) pa_nil)))) (pg_name (i := 3) S.nd rfl (Or.inl rfl))
 (pss_cons (ps_set (i := 4) S.nd rfl (Or.inl rfl) (pe_call (ok_costs_at_point T) (hr.mono (by decide)) rfl T.m_costs_at_point T.F_costs_at_point.kp T.b_costs_at_point .nil pass0 (pa_cons (pe_ix ix_list (pe_fld (pv 0) rfl) (pv 3) (fun _ _ => rfl)) (pa_cons (pe_ix ix_list (pv 2) pe_int (fun _ _ => rfl)) pa_nil))))
 (pss_one (ps_expr (pe_bm PySem.F.plainAttrs_list PySem.F.slot_list_insert PySem.F.type_list_insert mt_insert (pv 2) (pa_cons pe_int (pa_cons (pe_call (ok_costs_ahead T) (hr.mono (by decide)) rfl T.m_costs_ahead T.F_costs_ahead.kp T.b_costs_ahead .nil pass0 (pa_cons (pv 4) (pa_cons (pe_ix ix_list (pv 1) (pv 3) (fun _ _ => rfl)) pa_nil))) pa_nil)))))))
 (pss_one (ps_ret (pv 2))))), ?_⟩
    refine ⟨rfl, fun H1 c1 s1 hc0 hc1 => ⟨one1, fun r hr0 => ?_⟩⟩
    have hrH : H r = none := s1.free hr0
    have c1r : c1 ≠ r := ne_of_none hc1 hr0
    have sA : Same H (upd H1 r (.lst [V.ref c1])) := s1.trans (Same.new hr0)
    refine ⟨_, rfl, a, _, rfl, .inl (sA.seq ha), _, _, rfl, rfl, _, rfl, _, rfl, _, _, _, _, rfl, RgC.neg (by rw [iV_len, ovs_len]; omega) (by rw [iV_len, ovs_len]; omega) (by decide) (by decide), ?_⟩
    have en : ((((iV (ovs b l)).length : Nat) : Int) - 1 - -1).toNat = l.length := by rw [iV_len, ovs_len]; omega
    rw [en]
    refine for_it (n := l.length) (fun j σ H' => ∃ v3 v4 rs, σ = [some (.ref p), some (.ref a), some (.ref r), v3, v4] ∧ Same H (del H' r) ∧ H' r = some (.lst (rs.map V.ref)) ∧ AlR (del H' r) rs (alongT b (l.length - j) (l.drop (l.length - j)))) ⟨none, none, [c1], rfl, ?_, upd_same, ?_⟩ ?_ ?_ ?_ ?_
    · rw [del_upd]
      exact del_of hrH s1
    · rw [Nat.sub_zero, List.drop_length, del_upd]
      refine ⟨rfl, fun i q S e1 e2 => ?_⟩
      cases i with
      | zero =>
        cases e1
        cases e2
        exact (del_ne c1r).trans hc1
      | succ i => cases e1
    · rintro j σ H' lt ⟨v3, v4, rs, rfl, sm, hr', hA⟩
      exact lt
    · rintro σ H' ⟨v3, v4, rs, rfl, sm, hr', hA⟩
      exact Nat.le_refl _
    · rintro j σ H2 x H' lt ⟨v3, v4, rs, rfl, sm, hr', hA⟩ ⟨rfl, rfl⟩
      have z : (((iV (ovs b l)).length : Nat) : Int) - 1 + ((j : Nat) : Int) * -1 = ((l.length - (j + 1) : Nat) : Int) := by rw [iV_len, ovs_len]; omega
      rw [z]
      have hi : l.length - (j + 1) < l.length := by omega
      have ei : l.length - (j + 1) + 1 = l.length - j := by omega
      have hdrop : l.drop (l.length - (j + 1)) = l.getD (l.length - (j + 1)) 0 :: l.drop (l.length - j) := by
        rw [List.drop_eq_getElem_cons hi, ei, List.getD_eq_getElem?_getD, List.getElem?_eq_getElem hi]
        rfl
      have hg : alongT b (l.length - (j + 1)) (l.drop (l.length - (j + 1))) = ahead (here (b.pits.getD (l.length - (j + 1)) none) (tab (earthR b (l.length - j) (l.drop (l.length - j))))) (((b.road.point (l.length - (j + 1))).ground : Int) - (l.getD (l.length - (j + 1)) 0 : Nat)) :: alongT b (l.length - j) (l.drop (l.length - j)) := by
        rw [hdrop]
        show tab (earthR b (l.length - (j + 1)) (_ :: _)) :: alongT b (l.length - (j + 1) + 1) _ = _
        show ahead (here _ (tab (earthR b (l.length - (j + 1) + 1) _))) _ :: _ = _
        rw [ei]
      generalize hi' : l.length - (j + 1) = i at hi ei hdrop hg
      have sH : Same H H' := sm.trans (del_same H' r)
      have R' := R.same sH
      obtain ⟨dx, hp⟩ := R'.ob
      obtain ⟨ws, hw, pw⟩ := R'.ps
      have hip : i < b.pits.length := by rw [R.ok.pl]; omega
      have hiw : i < ws.length := by rw [pw.1]; exact hip
      have ep : b.pits[i]? = some b.pits[i] := List.getElem?_eq_getElem hip
      have eg : b.pits.getD i none = b.pits[i] := by rw [List.getD_eq_getElem?_getD, ep]; rfl
      have pv := pw.2 i _ _ (List.getElem?_eq_getElem hiw) ep
      rw [← eg] at pv
      have t61 : (tab (earthR b (l.length - j) (l.drop (l.length - j)))).length = 61 := tab_len (earthR_over R.ok fun x hx => low x (List.mem_of_mem_drop hx))
      have h0 := alongT_at b (l.drop (l.length - j)) (l.length - j) 0 (Nat.zero_le _)
      rw [List.drop_zero, Nat.add_zero] at h0
      generalize htb : tab (earthR b (l.length - j) (l.drop (l.length - j))) = Tb at hg t61 h0
      have rl : rs.length = j + 1 := by
        rw [hA.1, alongT_len, List.length_drop]
        omega
      cases rs with
      | nil => cases rl
      | cons r0 rs =>
      have hT0 : H' r0 = some (.lst (iV Tb)) := del_same H' r _ _ (hA.2 0 r0 Tb rfl h0)
      refine ⟨_, rfl, p, _, dx, _, _, rfl, hp, T.cl_Road, T.n_Road_pits, rfl, _, rfl, lp, _, _, _, rfl, rfl, SqL.of hw, atI_nat (List.getElem?_eq_getElem hiw), ?_⟩
      refine ⟨_, rfl, r, _, _, _, rfl, rfl, SqL.of hr', atI_nat (j := 0) rfl, _, _, r0, Tb, rfl, pv, SqL.of hT0, by omega, by omega, fun H3 c3 s3 c30 c31 => ?_⟩
      have hr3 : H3 r = some (.lst ((r0 :: rs).map V.ref)) := s3 _ _ hr'
      have ov3 := (sH.trans s3).seq ha
      have gl := ground_low R.ok i
      have ll := low_at low i
      refine ⟨_, rfl, .inl ⟨rfl, _, SqL.of hr3⟩, ?_⟩
      refine ⟨_, rfl, _, rfl, _, rfl, a, _, _, _, rfl, rfl, ov3, atI_nat (iV_at (ovs_at b hi)), c3, _, _, rfl, c31, by rw [here_len]; exact t61, by omega, fun H4 c4 s4 c40 c41 => ?_⟩
      have hr4 : H4 r = some (.lst ((r0 :: rs).map V.ref)) := s4 _ _ hr3
      have c4r : c4 ≠ r := fun q => by
        rw [q, hr3] at c40
        cases c40
      refine ⟨r, _, _, rfl, rfl, hr4, ?_, ?_⟩
      · rw [List.length_map]
        exact small1000 (by omega)
      · have sD : Same (del H' r) (del (upd H4 r (.lst (V.ref c4 :: (r0 :: rs).map V.ref))) r) := by
          rw [del_upd]
          exact del_mono (s3.trans s4) r
        refine ⟨_, _, c4 :: r0 :: rs, rfl, sm.trans sD, upd_same, ?_⟩
        rw [hg]
        refine (hA.same sD).cons ?_
        rw [del_upd]
        exact (del_ne c4r).trans c41
    · rintro σ H' ⟨v3, v4, rs, rfl, sm, hr', hA⟩
      rw [Nat.sub_self, List.drop_zero] at hA
      exact ⟨_, rfl, k H' r rs (sm.trans (del_same H' r)) hrH hr' (hA.same (del_same H' r))⟩
end

end RL

end
section
set_option Elab.async false
set_option linter.all false
set_option maxRecDepth 100000
set_option maxHeartbeats 2000000
namespace RL
open PySem PySem.Spec PyProof.Rows L2
section
variable {P : Program} {w : World} {K : PySem.W.Frag} {mg : Str → Option Value} {base : Heap} {t : Adr}
theorem earthR_drop (b : Uw17.Build) {l : List Nat} {k : Nat} (h : k < l.length) : earthR b k (l.drop k) = ⟨((b.road.point k).ground : Int) - (l.getD k 0 : Int), b.pits.getD k none⟩ :: earthR b (k + 1) (l.drop (k + 1)) := by
  rw [List.drop_eq_getElem_cons h, List.getD_eq_getElem?_getD, List.getElem?_eq_getElem h]
  rfl
def spWay (C : Addr) (K : PySem.W.Frag) : Sp := fun vs H Q _ => ∃ p lg lf lp b a l, vs = [.ref p, .ref a] ∧ RoadAt C H p lg lf lp b ∧ SqT K H a (nV l) ∧ l.length = b.road.points.length ∧ (∀ x ∈ l, x ≤ 6) ∧ v0 b l < NV ∧
  ∀ H' r ys, Same H H' → H r = none → H' r = some (.lst (iV ys)) → WayIs (earthR b 0 l) 0 ys → Q (.ref r) H'
theorem ok_earliest_way (T : Txt K mg t) : FnOk P w K mg base CX0 7 t.f_earliest_way t.d_earliest_way ["road", "line"] (spWay t.C_Road K) := by
  have S := sc_earliest_way
  refine T.F_earliest_way.ok S (fun vs H Q E h => ?_) (fun cdv A outer s H vs Q E hr h => ?_)
  · obtain ⟨p, lg, lf, lp, b, a, l, rfl, _⟩ := h
    rfl
  · obtain ⟨p, lg, lf, lp, b, a, l, rfl, R, ha, hn, low, lt0, k⟩ := h
    have few := R.ok.few
    refine ⟨_, (pss_cons (ps_set (i := 2) S.nd rfl (Or.inl rfl) (pe_call (ok_units_over T) (hr.mono (by decide)) rfl T.m_units_over T.F_units_over.kp T.b_units_over .nil pass0 (pa_cons (pv 0) (pa_cons (pv 1) pa_nil))))
 (pss_cons (ps_set (i := 3) S.nd rfl (Or.inl rfl) (pe_call (ok_costs_along T) (hr.mono (by decide)) rfl T.m_costs_along T.F_costs_along.kp T.b_costs_along .nil pass0 (pa_cons (pv 0) (pa_cons (pv 2) pa_nil))))
 (pss_cons (ps_set (i := 4) S.nd rfl (Or.inl rfl) (pe_lst pa_nil))
 (pss_cons (ps_set (i := 5) S.nd rfl (Or.inl rfl) pe_int)
 (pss_cons (ps_for PassesOwn.never rfl (pi_range1 rfl T.n_range (pa_cons (pe_op op_sub (pe_callB call_len_seq (by rfl) T.n_len PySem.boot_len (pa_cons (pv 1) pa_nil)) pe_int) pa_nil)) (pg_name (i := 6) S.nd rfl (Or.inl rfl))
 (pss_cons (ps_set (i := 7) S.nd rfl (Or.inl rfl) (pe_ix ix_list (pe_ix ix_list (pv 3) (pv 6) (fun _ _ => rfl)) (pe_op op_add (pv 5) (pe_gc rfl T.g_REACH)) (fun _ _ => rfl)))
 (pss_cons (ps_set (i := 5) S.nd rfl (Or.inl rfl) (pe_call (ok_fewest_onwards T) (hr.mono (by decide)) rfl T.m_fewest_onwards T.F_fewest_onwards.kp T.b_fewest_onwards .nil pass0 (pa_cons (pe_ix ix_list (pe_fld (pv 0) rfl) (pv 6) (fun _ _ => rfl)) (pa_cons (pe_op op_add (pv 5) (pe_ix ix_list (pv 2) (pv 6) (fun _ _ => rfl))) (pa_cons (pe_ix ix_list (pv 3) (pe_op op_add (pv 6) pe_int) (fun _ _ => rfl)) (pa_cons (pv 7) pa_nil))))))
 (pss_one (ps_expr (pe_bm PySem.F.plainAttrs_list PySem.F.slot_list_append PySem.F.type_list_append mt_append (pv 4) (pa_cons (pv 5) pa_nil)))))))
 (pss_one (ps_ret (pv 4)))))))), ?_⟩
    -- over = units_over(road, line)
    refine ⟨_, rfl, _, rfl, p, lg, lf, lp, b, a, l, rfl, R, .inr ha, hn, fun H1 ov s1 _ hov => ?_⟩
    -- costs = costs_along(road, over)
    refine ⟨_, rfl, _, rfl, p, lg, lf, lp, b, ov, l, rfl, R.same s1, SqL.of hov, hn, low, fun H2 cs rs s2 _ hcs hA => ?_⟩
    have s2' := s1.trans s2
    -- way = []; coming = 0
    refine ⟨Nat.zero_le _, fun r hr0 => ?_⟩
    have sA : Same H (upd H2 r (.lst [])) := s2'.trans (Same.new hr0)
    have hrH : H r = none := s2'.free hr0
    refine ⟨_, rfl, a, _, rfl, .inr (sA.tup ha), _, _, rfl, rfl, _, rfl, by rw [nV_len]; omega, by rw [nV_len]; omega, ?_⟩
    have en : (((nV l).length : Int) - 1).toNat = l.length - 1 := by rw [nV_len]; omega
    rw [en]
    have sB : Same H2 (del (upd H2 r (.lst [])) r) := by
      rw [del_upd]
      exact del_of hr0 (Same.refl H2)
    refine for_it (n := l.length - 1) (fun j σ H' => ∃ v6 v7 f ys, σ = [some (.ref p), some (.ref a), some (.ref ov), some (.ref cs), some (.ref r), some (.int f), v6, v7] ∧ Same H2 (del H' r) ∧ H' r = some (.lst (iV ys)) ∧ ys.length = j ∧ (-30 ≤ f ∧ f ≤ 30) ∧ tv (tab (earthR b j (l.drop j))) f < NV ∧
      ∀ zs, WayIs (earthR b j (l.drop j)) f zs → WayIs (earthR b 0 l) 0 (ys ++ zs)) ⟨none, none, 0, [], rfl, sB, upd_same, rfl, by decide, lt0, fun zs q => q⟩ ?_ ?_ ?_ ?_
    · rintro j σ H' lt ⟨v6, v7, f, ys, rfl, _⟩
      exact lt
    · rintro σ H' ⟨v6, v7, f, ys, rfl, _⟩
      exact Nat.le_refl _
    · rintro j σ H3 x H' lt ⟨v6, v7, f, ys, rfl, sm, hr', yl, hf, hv, hw⟩ ⟨rfl, rfl⟩
      have z : (0 : Int) + (j : Nat) = (j : Nat) := by omega
      rw [z]
      have sH2 : Same H2 H' := sm.trans (del_same H' r)
      have sH : Same H H' := s2'.trans sH2
      have hj : j < l.length := by omega
      have hj1 : j + 1 < l.length := by omega
      have rl : rs.length = l.length + 1 := by rw [hA.1, alongT_len]
      have hrj : rs[j]? = some rs[j] := List.getElem?_eq_getElem (by omega)
      have hrj1 : rs[j + 1]? = some rs[j + 1] := List.getElem?_eq_getElem (by omega)
      have a0 := alongT_at b l 0 j (by omega)
      have a1 := alongT_at b l 0 (j + 1) (by omega)
      rw [Nat.zero_add] at a0 a1
      have hT0 := sH2 _ _ (hA.2 j _ _ hrj a0)
      have hT1 := sH2 _ _ (hA.2 (j + 1) _ _ hrj1 a1)
      have lowd : ∀ m, ∀ x ∈ l.drop m, x ≤ 6 := fun m x hx => low x (List.mem_of_mem_drop hx)
      have over0 := earthR_over R.ok (k := j) (lowd j)
      have t0 : (tab (earthR b j (l.drop j))).length = 61 := tab_len over0
      have t1 : (tab (earthR b (j + 1) (l.drop (j + 1)))).length = 61 := tab_len (earthR_over R.ok (lowd (j + 1)))
      have e0 := earthR_drop b hj
      have e1 := earthR_drop b hj1
      have R' := R.same sH
      obtain ⟨dx, hp⟩ := R'.ob
      obtain ⟨ws, hwp, pw⟩ := R'.ps
      have hip : j < b.pits.length := by rw [R.ok.pl]; omega
      have hiw : j < ws.length := by rw [pw.1]; exact hip
      have ep : b.pits[j]? = some b.pits[j] := List.getElem?_eq_getElem hip
      have eg : b.pits.getD j none = b.pits[j] := by rw [List.getD_eq_getElem?_getD, ep]; rfl
      have pv := pw.2 j _ _ (List.getElem?_eq_getElem hiw) ep
      rw [← eg] at pv
      have gl := ground_low R.ok j
      have ll := low_at low j
      have hcs' : H' cs = some (.lst (rs.map V.ref)) := sH2 _ _ hcs
      have mr : (rs.map V.ref)[j]? = some (V.ref rs[j]) := by rw [List.getElem?_map, hrj]; rfl
      have mr1 : (rs.map V.ref)[j + 1]? = some (V.ref rs[j + 1]) := by rw [List.getElem?_map, hrj1]; rfl
      have ix : atI (iV (tab (earthR b j (l.drop j)))) (f + 30) = some (V.int (tv (tab (earthR b j (l.drop j))) f)) := by
        have h30 : f + 30 = (((f + 30).toNat : Nat) : Int) := by omega
        rw [h30]
        refine atI_nat (iV_at ?_)
        unfold tv
        rw [List.getD_eq_getElem?_getD, List.getElem?_eq_getElem (by omega)]
        rfl
      have m1 : atI (rs.map V.ref) (((j : Nat) : Int) + 1) = some (V.ref rs[j + 1]) := by
        rw [show ((j : Nat) : Int) + 1 = ((j + 1 : Nat) : Int) by omega]
        exact atI_nat mr1
      -- least = costs[point][coming + REACH]
      refine ⟨_, rfl, _, rfl, cs, _, _, _, rfl, rfl, SqL.of hcs', atI_nat mr, _, rfl, _, _, rfl, rfl, _, _, _, _, rfl, rfl, SqL.of hT0, ix, ?_⟩
      -- coming = fewest_onwards(..)
      refine ⟨_, rfl, p, _, dx, _, _, rfl, hp, T.cl_Road, T.n_Road_pits, rfl, _, rfl, lp, _, _, _, rfl, rfl, SqL.of hwp, atI_nat (List.getElem?_eq_getElem hiw), ?_⟩
      refine ⟨_, rfl, _, rfl, _, rfl, ov, _, _, _, rfl, rfl, sH2.seq (s2.seq (SqL.of hov)), atI_nat (iV_at (ovs_at b hj)), _, _, rfl, rfl, ?_⟩
      refine ⟨_, rfl, _, rfl, _, _, rfl, rfl, cs, _, _, _, rfl, rfl, SqL.of hcs', m1, _, rfl, ?_⟩
      have hv' := hv
      have over0' := over0
      rw [e0] at hv' over0'
      have hex := cand_ex over0' hf hv'
      refine ⟨_, b.pits.getD j none, rs[j + 1], tab (earthR b (j + 1) (l.drop (j + 1))), f + (((b.road.point j).ground : Int) - (l.getD j 0 : Int)), tv (tab (earthR b j (l.drop j))) f, rfl, pv, SqL.of hT1, t1, by omega, ?_, fun H4 y s4 hy hc hm => ?_⟩
      · obtain ⟨y, hy, hc⟩ := hex
        refine ⟨y, hy, ?_⟩
        rw [e0]
        exact hc
      have hr4 : H4 r = some (.lst (iV ys)) := s4 _ _ hr'
      refine ⟨_, rfl, .inl ⟨rfl, _, SqL.of hr4⟩, _, rfl, r, _, _, rfl, rfl, hr4, ?_, ?_⟩
      · rw [iV_len]
        exact small1000 (by omega)
      · rw [e0] at hc hm
        have sD : Same (del H' r) (del (upd H4 r (.lst (iV ys ++ [V.int y]))) r) := by
          rw [del_upd]
          exact del_mono s4 r
        refine ⟨_, _, y, ys ++ [y], rfl, sm.trans sD, ?_, ?_, hy, cand_next over0' hy hv' hc, fun zs q => ?_⟩
        · rw [upd_same, iV_app]
          rfl
        · rw [List.length_append, yl]
          rfl
        · rw [List.append_assoc]
          refine hw (y :: zs) ?_
          rw [e0]
          rw [e1] at hc hm q ⊢
          exact .cons hy hc hm q
    · rintro σ H' ⟨v6, v7, f, ys, rfl, sm, hr', yl, hf, hv, hw⟩
      refine ⟨_, rfl, k H' r ys (s2'.trans (sm.trans (del_same H' r))) hrH hr' ?_⟩
      have : WayIs (earthR b (l.length - 1) (l.drop (l.length - 1))) f [] := by
        by_cases e : l.length = 0
        · have : l = [] := List.length_eq_zero_iff.mp e
          subst this
          exact .nil
        · rw [earthR_drop b (by omega), List.drop_of_length_le (by omega)]
          exact .one
      have q := hw [] this
      rwa [List.append_nil] at q
/-! ### best -/
theorem nlt_lex : ∀ {a c : List Nat}, a.length = c.length → (HT.lexLt (iz a) (iz c) = true ↔ nlt a c)
  | [], [], _ => ⟨fun h => (by cases h), fun h => h.elim⟩
  | [], _ :: _, h => by cases h
  | _ :: _, [], h => by cases h
  | x :: a, y :: c, h => by
    have ih := nlt_lex (a := a) (c := c) (Nat.succ.inj h)
    show HT.lexLt ((x : Int) :: iz a) ((y : Int) :: iz c) = true ↔ (x < y ∨ (x = y ∧ nlt a c))
    rw [HT.lexLt_cons]
    by_cases e : x = y
    · subst e
      rw [if_pos rfl, ih]
      constructor
      · intro q
        exact .inr ⟨rfl, q⟩
      · rintro (q | ⟨_, q⟩)
        · omega
        · exact q
    · rw [if_neg (by omega), decide_eq_true_iff]
      constructor
      · intro q
        exact .inl (by omega)
      · rintro (q | ⟨q, _⟩)
        · omega
        · exact absurd q e
theorem nV_iz (l : List Nat) : nV l = (iz l).map V.int := by
  unfold nV iz
  rw [List.map_map]
  rfl
theorem BltR.prs {H : Hp} : ∀ {rs : List Addr} {L : List (Int × List Nat)}, BltR K H rs L → ∃ cs : List Pr, (cs.map fun c => V.ref c.ad) = rs.map V.ref ∧ (cs.map fun c => (c.c, c.l)) = (L.map fun y => (y.1, iz y.2)) ∧ ∀ c ∈ cs, SqT K H c.ad [.int c.c, .ref c.la] ∧ SqT K H c.la (c.l.map V.int)
  | [], [], _ => ⟨[], rfl, rfl, fun c h => (by cases h)⟩
  | [], _ :: _, h => by cases h.1
  | _ :: _, [], h => by cases h.1
  | r :: rs, y :: L, h => by
    obtain ⟨cs, h1, h2, h3⟩ := BltR.prs (rs := rs) (L := L) ⟨Nat.succ.inj h.1, fun i q z e1 e2 => h.2 (i + 1) q z e1 e2⟩
    obtain ⟨la, g1, g2⟩ := h.2 0 r y rfl rfl
    refine ⟨⟨r, y.1, la, iz y.2⟩ :: cs, ?_, ?_, fun c hc => ?_⟩
    · rw [List.map_cons, List.map_cons, h1]
    · rw [List.map_cons, List.map_cons, h2]
    · cases hc with
      | head => exact ⟨g1, by rw [← nV_iz]; exact g2⟩
      | tail _ hc => exact h3 c hc
def spBest (C : Addr) (K : PySem.W.Frag) : Sp := fun vs H Q _ => ∃ p lg lf lp b, vs = [.ref p] ∧ RoadAt C H p lg lf lp b ∧
  ∀ H' r, Same H H' → H r = none → H' r = some (.lst (ansV (Uw17.step b .best).2)) → Q (.ref r) H'
theorem ok_best (T : Txt K mg t) : FnOk P w K mg base CX0 9 t.f_best t.d_best ["road"] (spBest t.C_Road K) := by
  have S := sc_best
  refine T.F_best.ok S (fun vs H Q E h => ?_) (fun cdv A outer s H vs Q E hr h => ?_)
  · obtain ⟨p, lg, lf, lp, b, rfl, _⟩ := h
    rfl
  · obtain ⟨p, lg, lf, lp, b, rfl, R, k⟩ := h
    have few := R.ok.few
    refine ⟨_, (pss_cons (ps_set (i := 1) S.nd rfl (Or.inl rfl) (pe_call (ok_lines_built T) (hr.mono (by decide)) rfl T.m_lines_built T.F_lines_built.kp T.b_lines_built .nil pass0 (pa_cons (pv 0) pa_nil)))
 (pss_cons (ps_if (pt_not (pt_truth (pv 1) (by intro _; rfl)))
 (pss_one (ps_ret (pe_lst (pa_cons (pe_gc rfl T.g_NO_RIGHT_LINE) pa_nil))))
 pss_nil)
 (pss_cons (ps_set (i := 2) S.nd rfl (Or.inl rfl) (pe_callB (cr_minP rfl hr.units) (by rfl) T.n_min PyProof.Rows.boot_min (pa_cons (pv 1) pa_nil)))
 (pss_cons (ps_set (i := 3) S.nd rfl (Or.inr rfl) (pe_ix ix_tup (pv 2) pe_int (fun _ _ => rfl)))
 (pss_cons (ps_set (i := 4) S.nd rfl (Or.inl rfl) (pe_ix ix_tup (pv 2) pe_int (fun _ _ => rfl)))
 (pss_cons (ps_setLc (i := 5) rfl S.nd rfl rfl (sw_true rfl rfl rfl rfl) (pi_list (pv 1)) (blkOk_by (own := [("cost", 6), ("line", 7)]) rfl) (fun _ _ _ _ _ => (pg_tupK (K := K) (n := 2) rfl rfl (pgs_cons (pg_name (i := 6) S.nd rfl (Or.inl rfl)) (pgs_cons (pg_name (i := 7) S.nd rfl (Or.inl rfl)) pgs_nil)))) (fun _ _ _ _ _ => pts_one (pt_cmpR op_eq (pv 6) (pv 3) (nomark _))) (fun _ _ _ _ _ => (pv 7)))
 (pss_one (ps_ret (pe_op op_cat (pe_op op_cat (pe_lst (pa_cons (pv 3) (pa_cons (pe_callB call_len_seq (by rfl) T.n_len PySem.boot_len (pa_cons (pv 5) pa_nil)) pa_nil))) (pe_callTy call_list_of (by rfl) T.n_list PyProof.Rows.boot_list (pa_cons (pv 4) pa_nil))) (pe_call (ok_earliest_way T) (hr.mono (by decide)) rfl T.m_earliest_way T.F_earliest_way.kp T.b_earliest_way .nil pass0 (pa_cons (pv 0) (pa_cons (pv 4) pa_nil)))))))))))), ?_⟩
    -- built = lines_built(road)
    refine ⟨_, rfl, p, lg, lf, lp, b, rfl, R, fun H1 r rs s1 hr0 hr1 hB => ?_⟩
    have lb : rs.length = (built b).length := hB.1
    rw [step_best] at k
    refine ⟨_, rfl, !(rs.map V.ref).isEmpty, .inl ⟨_, SqL.of hr1, rfl⟩, ?_⟩
    cases hbl : built b with
    | nil =>
      rw [hbl] at lb
      have e : rs = [] := List.length_eq_zero_iff.mp lb
      subst e
      rw [best_none R.ok hbl] at k
      exact iteT ⟨one1, fun q hq => k _ q (s1.trans (Same.new hq)) (s1.free hq) upd_same⟩
    | cons x0 xs0 =>
    have lb1 : 0 < rs.length := by rw [lb, hbl]; exact Nat.succ_pos _
    cases rs with
    | nil => cases lb1
    | cons r0 rs0 =>
    refine iteF ?_
    obtain ⟨cs, hc1, hc2, hc3⟩ := hB.prs
    have memc : ∀ c ∈ cs, ∃ l, (c.c, l) ∈ built b ∧ c.l = iz l := fun c hc => by
      have : (c.c, c.l) ∈ (built b).map fun y => (y.1, iz y.2) := by
        rw [← hc2]
        exact List.mem_map.mpr ⟨c, hc, rfl⟩
      obtain ⟨y, hy, e⟩ := List.mem_map.mp this
      injection e with e1 e2
      refine ⟨y.2, ?_, e2.symm⟩
      rw [← e1]
      exact hy
    have memb : ∀ x ∈ built b, ∃ c ∈ cs, c.c = x.1 ∧ c.l = iz x.2 := fun x hx => by
      have : (x.1, iz x.2) ∈ cs.map fun c => (c.c, c.l) := by
        rw [hc2]
        exact List.mem_map.mpr ⟨x, hx, rfl⟩
      obtain ⟨c, hc, e⟩ := List.mem_map.mp this
      injection e with e1 e2
      exact ⟨c, hc, e1, e2⟩
    have blen : ∀ x ∈ built b, x.2.length = b.road.points.length := fun x hx => ((lines_mem b x.2).mp ((built_mem R.ok).mp hx).1).1
    have clen : cs.length = (r0 :: rs0).length := by
      have := congrArg List.length hc1
      rw [List.length_map, List.length_map] at this
      exact this
    -- cheapest = min(built)
    refine ⟨_, rfl, r, cs, rfl, by rw [hc1]; exact SqL.of hr1, by rw [clen]; exact Nat.succ_pos _, hc3, fun c hc d hd => ?_, fun c hc hmin => ?_⟩
    · obtain ⟨l, h1, h2⟩ := memc c hc
      obtain ⟨m, h3, h4⟩ := memc d hd
      rw [h2, h4, iz_length, iz_length, blen _ h1, blen _ h3]
    obtain ⟨l, hl, el⟩ := memc c hc
    obtain ⟨g1, g2⟩ := hc3 c hc
    rw [el, ← nV_iz] at g2
    have hm : ∀ x ∈ built b, c.c < x.1 ∨ (c.c = x.1 ∧ ¬ nlt x.2 l) := fun x hx => by
      obtain ⟨d, hd, d1, d2⟩ := memb x hx
      have q := hmin d hd
      unfold plt at q
      by_cases e : d.c = c.c
      · rw [if_pos e] at q
        refine .inr ⟨by omega, fun z => ?_⟩
        rw [d2, el, nlt_lex (by rw [blen x hx, blen _ hl]) |>.mpr z] at q
        cases q
      · rw [if_neg e, decide_eq_false_iff_not] at q
        exact .inl (by omega)
    obtain ⟨n, en, hline, lt0, eb⟩ := best_some R.ok hl hm
    obtain ⟨ll, low, _⟩ := (lines_mem b l).mp hline
    rw [eb] at k
    -- least, earliest
    refine ⟨_, rfl, c.ad, _, _, _, rfl, rfl, g1, atI_nat (j := 0) rfl, ?_⟩
    refine ⟨_, rfl, c.ad, _, _, _, rfl, rfl, g1, atI_nat (j := 1) rfl, ?_⟩
    -- as_good
    refine ⟨_, rfl, r, rfl, ⟨_, SqL.of hr1⟩, fun D hD => ?_⟩
    have blb : (built b).length ≤ 16807 := by
      have h1 := bl_len b (EL b b.road.points.length)
      rw [bl_EL] at h1
      have h2 := EL_len b b.road.points.length (Nat.le_refl _)
      have h3 : 7 ^ b.road.points.length ≤ 7 ^ 5 := Nat.pow_le_pow_right (by decide) (by omega)
      have h4 : (7 : Nat) ^ 5 = 16807 := by decide
      omega
    refine lc_it (n := (built b).length) (fun i H' => Same H1 H' ∧ ∃ acc, H' D = some (.lst acc) ∧ acc.length = (((built b).take i).filter fun x => decide (x.1 = c.c)).length) ⟨Same.new hD, [], upd_same, rfl⟩ ?_ ?_ ?_ ?_
    · rintro i H' lt ⟨sm, _⟩
      have ltr : i < (r0 :: rs0).length := by rw [lb]; exact lt
      exact ⟨_, V.ref (r0 :: rs0)[i], sm.seq (SqL.of hr1), by rw [List.getElem?_map, List.getElem?_eq_getElem ltr]; rfl⟩
    · rintro H' ⟨sm, _⟩
      exact ⟨_, sm.seq (SqL.of hr1), by rw [List.length_map, lb]; exact Nat.le_refl _⟩
    · rintro i H2 x H' lt ⟨sm, acc, hacc, hal⟩ ⟨rfl, y⟩
      have ltr : i < (r0 :: rs0).length := by rw [lb]; exact lt
      have ey := y _ (sm.seq (SqL.of hr1))
      rw [List.getElem?_map, List.getElem?_eq_getElem ltr] at ey
      cases ey
      have ex : (built b)[i]? = some (built b)[i] := List.getElem?_eq_getElem lt
      obtain ⟨la, q1, q2⟩ := hB.2 i _ _ (List.getElem?_eq_getElem ltr) ex
      have tk : (built b).take (i + 1) = (built b).take i ++ [(built b)[i]] := by rw [List.take_add_one, ex]; rfl
      have al2 : acc.length ≤ 16807 := by
        rw [hal]
        have := List.length_filter_le (fun x : Int × List Nat => decide (x.1 = c.c)) ((built b).take i)
        rw [List.length_take] at this
        omega
      generalize (built b)[i] = z at ex q1 q2 tk
      refine ⟨_, _, rfl, sm.tup q1, rfl, _, _, rfl, _, _, rfl, rfl, rfl, _, rfl, _, rfl, rfl, _, rfl, ite2 (fun hq => ?_) (fun hq => ?_)⟩
      · have hz : z.1 = c.c := V.int.inj (of_decide_eq_true hq)
        refine ⟨_, rfl, acc, hacc, lt_size (by omega), fun b' o' e' => ?_, _, upd_same, ?_⟩
        · have nb : b' ≠ D := fun z => by rw [z, hD] at e'; cases e'
          rw [upd_ne nb]
          exact sm _ _ e'
        · rw [tk, List.filter_append, List.length_append, List.length_append, hal, List.filter_cons, if_pos (decide_eq_true hz)]
          rfl
      · have hz : ¬ z.1 = c.c := fun q => hq (decide_eq_true (congrArg V.int q))
        refine ⟨sm, acc, hacc, ?_⟩
        rw [tk, List.filter_append, List.length_append, hal, List.filter_cons, if_neg (by rw [decide_eq_true_iff]; exact hz)]
        rfl
    rintro H2 ⟨s2, acc, hacc, hal⟩
    rw [List.take_length] at hal
    have s2' := s1.trans s2
    -- the answer
    refine ⟨_, rfl, _, rfl, D, _, rfl, .inl (SqL.of hacc), two2, fun q1 h1 => ?_⟩
    refine ⟨_, rfl, c.la, _, rfl, .inr ((s2.trans (Same.new h1)).tup g2), fun q2 h2 => ?_⟩
    have a12 : q1 ≠ q2 := ne_of_none upd_same h2
    refine ⟨q1, q2, _, _, rfl, rfl, (upd_ne a12).trans upd_same, upd_same, ?_, fun q3 h3 => ?_⟩
    · rw [nV_len]
      exact le_size (by show 2 + l.length ≤ 1000; omega)
    have s3 : Same H1 _ := ((s2.trans (Same.new h1)).trans (Same.new h2)).trans (Same.new (o := HO.lst ([V.int c.c, V.int (acc.length : Nat)] ++ nV l)) h3)
    refine ⟨_, rfl, _, rfl, p, lg, lf, lp, b, c.la, l, rfl, R.same (s1.trans s3), s3.tup g2, ll, low, lt0, fun H4 w ys s4 hw0 hw1 hway => ?_⟩
    have fl := flows_way R.ok hline lt0 hway
    have h34 : H4 q3 = some (.lst ([V.int c.c, V.int (acc.length : Nat)] ++ nV l)) := s4 _ _ upd_same
    refine ⟨q3, w, _, _, rfl, rfl, h34, hw1, ?_, fun q4 h4 => k _ q4 (((s1.trans s3).trans s4).trans (Same.new h4)) (((s1.trans s3).trans s4).free h4) ?_⟩
    · have hl := flows_len b l
      rw [fl] at hl
      rw [List.length_append, nV_len, iV_len]
      exact le_size (by show 2 + l.length + ys.length ≤ 1000; omega)
    · rw [upd_same]
      show some (HO.lst ([V.int c.c, V.int (acc.length : Nat)] ++ nV l ++ iV ys)) = some (HO.lst (iV ((n : Int) :: ((((built b).filter fun x => decide (x.1 = c.c)).length : Nat) : Int) :: (Uw17.ints l ++ b.flows l))))
      rw [fl, hal, ← en]
      show _ = some (HO.lst (V.int c.c :: V.int _ :: iV (Uw17.ints l ++ ys)))
      have ei : iV (Uw17.ints l) = nV l := by
        unfold iV Uw17.ints nV
        rw [List.map_map]
        rfl
      rw [iV_app, ei]
      rfl
end

end RL

end
section
set_option Elab.async false
set_option linter.all false
set_option maxRecDepth 100000
set_option maxHeartbeats 2000000
namespace RL
open PySem PySem.Spec PyProof.Rows L2
section
variable {P : Program} {w : World} {K : PySem.W.Frag} {mg : Str → Option Value} {base : Heap} {t : Adr}
theorem cut_eq (xs : List V) {a b : Nat} (h1 : a ≤ b) (h2 : b ≤ xs.length) : cutV xs (some (a : Int)) (some (b : Int)) = (xs.drop a).take (b - a) := by
  unfold cutV
  rw [HT.sIx_nat, HT.sIx_nat, Nat.min_eq_left (show a ≤ xs.length by omega), Nat.min_eq_left h2]
theorem haulE_cut : ∀ (p : Uw09.Plan) (i : Nat) (h : Uw09.Haul), p[i]? = some h → ((haulE p).drop (3 * i)).take 3 = [h.from_, h.to, h.loads]
  | [], i, h, e => by cases e
  | g :: p, 0, h, e => by
    cases e
    rfl
  | g :: p, i + 1, h, e => by
    have := haulE_cut p i h e
    rw [show 3 * (i + 1) = 3 * i + 3 by omega]
    show (List.drop (3 * i + 3) (g.from_ :: g.to :: g.loads :: haulE p)).take 3 = _
    rw [show List.drop (3 * i + 3) (g.from_ :: g.to :: g.loads :: haulE p) = List.drop (3 * i) (haulE p) from rfl]
    exact this
theorem nV_cut (l : List Nat) (a n : Nat) : ((nV l).drop a).take n = nV ((l.drop a).take n) := by
  unfold nV
  rw [← List.map_drop, ← List.map_take]
theorem rg3 (m : Nat) (h : m ≤ 40) : RgC 0 ((3 * m : Nat) : Int) 3 m := by
  have e : Builtin.Range.rangeSize 0 ((3 * m : Nat) : Int) 3 = (m : Int) := by
    (unfold Builtin.Range.rangeSize)
    rw [if_pos (by decide)]
    split <;> omega
  have q : ∀ m : Fin 41, Builtin.Range.small 0 ((3 * m.val : Nat) : Int) 3 = true := by decide +kernel
  exact ⟨by decide, by decide, q ⟨m, by omega⟩, e⟩
def spThrees (K : PySem.W.Frag) : Sp := fun vs H Q _ => ∃ a pl, vs = [.ref a] ∧ SqL K H a (nV (haulE pl)) ∧ pl.length ≤ 40 ∧ ∀ H' r, Same H H' → HaulsAt K H' r pl → Q (.ref r) H'
theorem ok_in_threes (T : Txt K mg t) : FnOk P w K mg base CX0 1 t.f_in_threes t.d_in_threes ["numbers"] (spThrees K) := by
  have S := sc_in_threes
  refine T.F_in_threes.ok S (fun vs H Q E h => ?_) (fun cdv A outer s H vs Q E hr h => ?_)
  · obtain ⟨a, pl, rfl, _⟩ := h
    rfl
  · obtain ⟨a, pl, rfl, ha, h40, k⟩ := h
    refine ⟨_, (pss_one (ps_ret (pe_lc rfl S.nd (pi_range3 rfl T.n_range (pa_cons pe_int (pa_cons (pe_callB call_len_seq (by rfl) T.n_len PySem.boot_len (pa_cons (pv 0) pa_nil)) (pa_cons pe_int pa_nil)))) (blkOk_by (own := [("start", 1)]) rfl) (fun _ _ _ _ _ => (pg_name (i := 1) S.nd rfl (Or.inl rfl))) (fun _ _ _ _ _ => pts_nil) (fun _ _ _ _ _ => (pe_slice (sl_listK (K := K) rfl) (pv 0) (po_some (pv 1)) (po_some (pe_op op_add (pv 1) pe_int))))))), ?_⟩
    have el : (nV (haulE pl)).length = 3 * pl.length := by rw [nV_len, haulE_length]
    have rg := rg3 pl.length h40
    rw [← el] at rg
    refine ⟨_, rfl, a, _, rfl, .inl ha, _, _, _, _, rfl, rg, fun D hD => ?_⟩
    refine lc_it (n := pl.length) (fun i H' => Same H (del H' D) ∧ ∃ rs, H' D = some (.lst (rs.map V.ref)) ∧ rs.length = i ∧ ∀ (j : Nat) (r : Addr) (h : Uw09.Haul), rs[j]? = some r → pl[j]? = some h → (del H' D) r = some (.lst [.int h.from_, .int h.to, .int h.loads])) ⟨?_, [], upd_same, rfl, fun j r h e => (by cases e)⟩ ?_ ?_ ?_ ?_
    · rw [del_upd]
      exact del_of hD (Same.refl H)
    · rintro i H' lt _
      exact lt
    · rintro H' _
      exact Nat.le_refl _
    · rintro i H2 x H' lt ⟨sm, rs, hD', rl, hR⟩ ⟨rfl, rfl⟩
      have z : (0 : Int) + ((i : Nat) : Int) * 3 = ((3 * i : Nat) : Int) := by omega
      rw [z]
      have z2 : ((3 * i : Nat) : Int) + 3 = ((3 * i + 3 : Nat) : Int) := by omega
      have ex : pl[i]? = some pl[i] := List.getElem?_eq_getElem lt
      have cu : cutV (nV (haulE pl)) (some ((3 * i : Nat) : Int)) (some (((3 * i : Nat) : Int) + 3)) = nV [pl[i].from_, pl[i].to, pl[i].loads] := by
        rw [z2, cut_eq _ (by omega) (by omega), nV_cut, show 3 * i + 3 - 3 * i = 3 by omega, haulE_cut pl i _ ex]
      generalize pl[i] = g at ex cu
      refine ⟨rfl, _, rfl, _, rfl, _, rfl, _, rfl, _, _, rfl, rfl, _, rfl, a, _, rfl, (sm.trans (del_same H' D)).seq ha, fun q hq => ?_⟩
      rw [cu]
      have qD : q ≠ D := (ne_of_none hD' hq).symm
      refine ⟨_, (upd_ne qD.symm).trans hD', ?_, ?_, rs ++ [q], ?_, ?_, fun j r h e1 e2 => ?_⟩
      · rw [List.length_map]
        exact small1000 (by omega)
      · rw [del_upd]
        exact sm.trans (del_mono (Same.new hq) D)
      · rw [upd_same, List.map_append]
        rfl
      · rw [List.length_append, rl]
        rfl
      · rw [del_upd]
        by_cases c : j < rs.length
        · rw [List.getElem?_append_left c] at e1
          exact del_mono (Same.new hq) D _ _ (hR j r h e1 e2)
        · rw [List.getElem?_append_right (by omega)] at e1
          have e : j - rs.length = 0 := by
            have := (List.getElem?_eq_some_iff.mp e1).1
            have : j - rs.length < 1 := this
            omega
          rw [e] at e1
          cases e1
          have ej : j = i := by omega
          subst ej
          rw [ex] at e2
          cases e2
          exact (del_ne qD).trans upd_same
    · rintro H' ⟨sm, rs, hD', rl, hR⟩
      exact k H' D (sm.trans (del_same H' D)) ⟨rs, SqL.of hD', rl, fun j r h e1 e2 => SqL.of (del_same H' D _ _ (hR j r h e1 e2))⟩
def spRowEnd (K : PySem.W.Frag) : Sp := fun vs H Q _ => ∃ a xs, ∃ i : Nat, ∃ n : Int, vs = [.ref a, .int i] ∧ SqL K H a xs ∧ xs[i]? = some (.int n) ∧ Q (.int ((i : Int) + 1 + n)) H
theorem ok_row_end (T : Txt K mg t) : FnOk P w K mg base CX0 1 t.f_row_end t.d_row_end ["numbers", "start"] (spRowEnd K) := by
  have S := sc_row_end
  refine T.F_row_end.ok S (fun vs H Q E h => ?_) (fun cdv A outer s H vs Q E hr h => ?_)
  · obtain ⟨a, xs, i, n, rfl, _⟩ := h
    rfl
  · obtain ⟨a, xs, i, n, rfl, ha, hi, k⟩ := h
    refine ⟨_, (pss_one (ps_ret (pe_op op_add (pe_op op_add (pv 1) pe_int) (pe_ix ix_list (pv 0) (pv 1) (fun _ _ => rfl))))), ?_⟩
    exact ⟨_, rfl, _, _, rfl, rfl, _, rfl, _, rfl, a, _, _, _, rfl, rfl, ha, atI_nat hi, _, _, rfl, rfl, k⟩
def kind (c : Uw17.Call) : Nat := (enc c).headD 0
def args (c : Uw17.Call) : List Nat := (enc c).tail
theorem enc_split (c : Uw17.Call) : enc c = kind c :: args c := by
  cases c <;> rfl
theorem nb_get {c : Uw17.Call} (h : ∀ l p, c ≠ .check l p) : getI [(0, 4), (1, 1), (2, 2), (3, 1), (4, 3), (5, 1), (6, 0)] ((kind c : Nat) : Int) = some ((args c).length : Int) ∧ ((kind c : Nat) : Int) ≠ 7 := by
  cases c with
  | begins => exact ⟨rfl, by show ((0 : Nat) : Int) ≠ 7; decide⟩
  | point => exact ⟨rfl, by show ((1 : Nat) : Int) ≠ 7; decide⟩
  | fix => exact ⟨rfl, by show ((2 : Nat) : Int) ≠ 7; decide⟩
  | free => exact ⟨rfl, by show ((3 : Nat) : Int) ≠ 7; decide⟩
  | pit => exact ⟨rfl, by show ((4 : Nat) : Int) ≠ 7; decide⟩
  | close => exact ⟨rfl, by show ((5 : Nat) : Int) ≠ 7; decide⟩
  | best => exact ⟨rfl, by show ((6 : Nat) : Int) ≠ 7; decide⟩
  | check l p => exact absurd rfl (h l p)
def spCallEnd (K : PySem.W.Frag) : Sp := fun vs H Q _ => ∃ a cs pre c post, vs = [.ref a, .int ((encs pre).length : Nat)] ∧ cs = pre ++ c :: post ∧ SqL K H a ((encs cs).map V.int) ∧ Q (.int (((encs pre).length + (enc c).length : Nat) : Int)) H
theorem ok_call_end (T : Txt K mg t) : FnOk P w K mg base CX0 3 t.f_call_end t.d_call_end ["calls", "start"] (spCallEnd K) := by
  have S := sc_call_end
  refine T.F_call_end.ok S (fun vs H Q E h => ?_) (fun cdv A outer s H vs Q E hr h => ?_)
  · obtain ⟨a, cs, pre, c, post, rfl, _⟩ := h
    rfl
  · obtain ⟨a, cs, pre, c, post, rfl, ecs, ha, k⟩ := h
    refine ⟨_, (pss_cons (ps_if (pt_cmpR op_eq (pe_ix ix_list (pv 0) (pv 1) (fun _ _ => rfl)) (pe_gc rfl T.g_CHECK) (nomark _))
 (pss_cons (ps_set (i := 2) S.nd rfl (Or.inl rfl) (pe_call (ok_row_end T) (hr.mono (by decide)) rfl T.m_row_end T.F_row_end.kp T.b_row_end .nil pass0 (pa_cons (pv 0) (pa_cons (pe_op op_add (pv 1) pe_int) pa_nil))))
 (pss_one (ps_ret (pe_call (ok_row_end T) (hr.mono (by decide)) rfl T.m_row_end T.F_row_end.kp T.b_row_end .nil pass0 (pa_cons (pv 0) (pa_cons (pv 2) pa_nil))))))
 pss_nil)
 (pss_one (ps_ret (pe_op op_add (pe_op op_add (pv 1) pe_int) (pe_dgetK (pe_gc rfl T.g_NUMBERS_BEHIND) (pe_ix ix_list (pv 0) (pv 1) (fun _ _ => rfl)) (fun _ _ => rfl)))))), ?_⟩
    have at_ : ∀ j n, (enc c)[j]? = some n → ((encs cs).map V.int)[(encs pre).length + j]? = some (V.int (n : Nat)) := fun j n h => by
      rw [List.getElem?_map, ecs, enc_at h]
      rfl
    have at0 := at_ 0 (kind c) (by rw [enc_split]; rfl)
    rw [Nat.add_zero] at at0
    refine ⟨_, rfl, _, rfl, a, _, _, _, rfl, rfl, ha, atI_nat at0, rfl, _, rfl, ?_⟩
    by_cases h7 : ∃ l p, c = .check l p
    · obtain ⟨l, p, rfl⟩ := h7
      have a1 := at_ 1 l.length rfl
      have a2 := at_ (2 + l.length) (haulE p).length (by
        show (7 :: l.length :: (l ++ (haulE p).length :: haulE p))[2 + l.length]? = _
        rw [show 2 + l.length = l.length + 1 + 1 by omega, List.getElem?_cons_succ, List.getElem?_cons_succ, List.getElem?_append_right (Nat.le_refl _), Nat.sub_self]
        rfl)
      refine iteD rfl ⟨_, rfl, _, rfl, _, _, rfl, rfl, a, _, (encs pre).length + 1, (l.length : Int), ?_, ha, a1, ?_⟩
      · rfl
      · have e1 : (((encs pre).length + 1 : Nat) : Int) + 1 + (l.length : Int) = (((encs pre).length + (2 + l.length) : Nat) : Int) := by omega
        rw [e1]
        refine ⟨_, rfl, _, rfl, a, _, (encs pre).length + (2 + l.length), ((haulE p).length : Int), rfl, ha, a2, ?_⟩
        have e2 : (((encs pre).length + (2 + l.length) : Nat) : Int) + 1 + ((haulE p).length : Int) = (((encs pre).length + (enc (.check l p)).length : Nat) : Int) := by
          show _ = (((encs pre).length + ((l ++ (haulE p).length :: haulE p).length + 1 + 1) : Nat) : Int)
          rw [List.length_append, List.length_cons]
          omega
        rw [e2]
        exact k
    · obtain ⟨hg, h7'⟩ := nb_get fun l p e => h7 ⟨l, p, e⟩
      refine iteDn (int_ne h7') ⟨_, rfl, _, _, rfl, rfl, _, rfl, _, rfl, a, _, _, _, rfl, rfl, ha, atI_nat at0, _, _, _, _, rfl, rfl, T.D_NUMBERS_BEHIND, hg, _, _, rfl, rfl, ?_⟩
      have e : ((encs pre).length : Int) + 1 + ((args c).length : Int) = (((encs pre).length + (enc c).length : Nat) : Int) := by
        rw [enc_split, List.length_cons]
        omega
      show Q (.int (((encs pre).length : Int) + 1 + ((args c).length : Int))) H
      rw [e]
      exact k
end

end RL

end
section
set_option Elab.async false
set_option linter.all false
set_option maxRecDepth 100000
set_option maxHeartbeats 2000000
namespace RL
open PySem PySem.Spec PyProof.Rows L2
section
variable {P : Program} {w : World} {K : PySem.W.Frag} {mg : Str → Option Value} {base : Heap} {t : Adr}
def spAnswer (C : Addr) : Sp := fun vs H Q _ => ∃ p lg lf lp n b c, vs = [.ref p, .int (kind c : Nat), .ref n] ∧ CallOk c ∧ H n = some (.lst (nV (args c))) ∧ RoadAt C H p lg lf lp b ∧
  ∀ H' lg' lf' lp' r, RoadAt C H' p lg' lf' lp' (Uw17.step b c).1 → Fr H H' [p, lg, lf, lp] → (∀ x, x ∈ [lg', lf', lp'] → x ∈ [lg, lf, lp] ∨ H x = none) → H r = none → r ∉ [p, lg', lf', lp'] → H' r = some (.lst (ansV (Uw17.step b c).2)) → Q (.ref r) H'
theorem l_begins {b : Uw17.Build} {s t d f : Nat} : (Uw17.step b (.begins s t d f)).2.l = [] := by
  rw [step_begins]
  split <;> rfl
theorem l_point {b : Uw17.Build} (o : Ok b) {g : Nat} : (Uw17.step b (.point g)).2.l = [] := by
  rw [step_point g o]
  split
  · rfl
  · split <;> rfl
theorem l_fix {b : Uw17.Build} {i h : Nat} : (Uw17.step b (.fix i h)).2.l = [] := by
  rw [step_fix]
  split
  · rfl
  · split <;> rfl
theorem l_free {b : Uw17.Build} {i : Nat} : (Uw17.step b (.free i)).2.l = [] := by
  rw [step_free]
  split
  · rfl
  · split <;> rfl
theorem l_pit {b : Uw17.Build} {i tp fe : Nat} : (Uw17.step b (.pit i tp fe)).2.l = [] := by
  rw [step_pit]
  split
  · rfl
  · split <;> rfl
theorem l_close {b : Uw17.Build} {i : Nat} : (Uw17.step b (.close i)).2.l = [] := by
  rw [step_close]
  split
  · rfl
  · split <;> rfl
theorem RoadAt.apart {C : Addr} {H : Hp} {p lg lf lp r : Addr} {b : Uw17.Build} (R : RoadAt C H p lg lf lp b) (hr : H r = none) : p ≠ r ∧ lg ≠ r ∧ lf ≠ r ∧ lp ≠ r := by
  obtain ⟨dx, h⟩ := R.ob
  obtain ⟨ws, hw, _⟩ := R.ps
  exact ⟨ne_of_none h hr, ne_of_none R.gs hr, ne_of_none R.xs hr, ne_of_none hw hr⟩
theorem RoadAt.off {C : Addr} {H : Hp} {p lg lf lp r : Addr} {b : Uw17.Build} (R : RoadAt C H p lg lf lp b) (hr : H r = none) : r ∉ [p, lg, lf, lp] := by
  obtain ⟨a1, a2, a3, a4⟩ := R.apart hr
  simp only [List.mem_cons, List.not_mem_nil, or_false, not_or]
  exact ⟨a1.symm, a2.symm, a3.symm, a4.symm⟩
theorem ok_answer (T : Txt K mg t) : FnOk P w K mg base CX0 11 t.f_answer t.d_answer ["road", "call", "numbers"] (spAnswer t.C_Road) := by
  have S := sc_answer
  refine T.F_answer.ok S (fun vs H Q E h => ?_) (fun cdv A outer s H vs Q E hr h => ?_)
  · obtain ⟨p, lg, lf, lp, n, b, c, rfl, _⟩ := h
    rfl
  · obtain ⟨p, lg, lf, lp, n, b, c, rfl, hc, hn, R, k⟩ := h
    obtain ⟨dx, hp⟩ := R.ob
    refine ⟨_, (pss_cons (ps_if (pt_cmpR op_eq (pv 1) (pe_gc rfl T.g_BEGINS) (nomark _))
 (pss_one (ps_ret (pe_lst (pa_cons (pe_meth (pv 0) T.cl_Road T.m_Road_begins (ok_Road_begins T) (hr.mono (by decide)) T.b_Road_begins .nil pass0 (pa_cons (pe_ix ix_list (pv 2) pe_int (fun _ _ => rfl)) (pa_cons (pe_ix ix_list (pv 2) pe_int (fun _ _ => rfl)) (pa_cons (pe_ix ix_list (pv 2) pe_int (fun _ _ => rfl)) (pa_cons (pe_ix ix_list (pv 2) pe_int (fun _ _ => rfl)) pa_nil))))) pa_nil))))
 pss_nil)
 (pss_cons (ps_if (pt_cmpR op_eq (pv 1) (pe_gc rfl T.g_POINT) (nomark _))
 (pss_one (ps_ret (pe_lst (pa_cons (pe_meth (pv 0) T.cl_Road T.m_Road_add_point (ok_Road_add_point T) (hr.mono (by decide)) T.b_Road_add_point .nil pass0 (pa_cons (pe_ix ix_list (pv 2) pe_int (fun _ _ => rfl)) pa_nil)) pa_nil))))
 pss_nil)
 (pss_cons (ps_if (pt_cmpR op_eq (pv 1) (pe_gc rfl T.g_FIX) (nomark _))
 (pss_one (ps_ret (pe_lst (pa_cons (pe_meth (pv 0) T.cl_Road T.m_Road_fix (ok_Road_fix T) (hr.mono (by decide)) T.b_Road_fix .nil pass0 (pa_cons (pe_ix ix_list (pv 2) pe_int (fun _ _ => rfl)) (pa_cons (pe_ix ix_list (pv 2) pe_int (fun _ _ => rfl)) pa_nil))) pa_nil))))
 pss_nil)
 (pss_cons (ps_if (pt_cmpR op_eq (pv 1) (pe_gc rfl T.g_FREE) (nomark _))
 (pss_one (ps_ret (pe_lst (pa_cons (pe_meth (pv 0) T.cl_Road T.m_Road_free (ok_Road_free T) (hr.mono (by decide)) T.b_Road_free .nil pass0 (pa_cons (pe_ix ix_list (pv 2) pe_int (fun _ _ => rfl)) pa_nil)) pa_nil))))
 pss_nil)
 (pss_cons (ps_if (pt_cmpR op_eq (pv 1) (pe_gc rfl T.g_PIT) (nomark _))
 (pss_one (ps_ret (pe_lst (pa_cons (pe_meth (pv 0) T.cl_Road T.m_Road_pit (ok_Road_pit T) (hr.mono (by decide)) T.b_Road_pit .nil pass0 (pa_cons (pe_ix ix_list (pv 2) pe_int (fun _ _ => rfl)) (pa_cons (pe_ix ix_list (pv 2) pe_int (fun _ _ => rfl)) (pa_cons (pe_ix ix_list (pv 2) pe_int (fun _ _ => rfl)) pa_nil)))) pa_nil))))
 pss_nil)
 (pss_cons (ps_if (pt_cmpR op_eq (pv 1) (pe_gc rfl T.g_CLOSE) (nomark _))
 (pss_one (ps_ret (pe_lst (pa_cons (pe_meth (pv 0) T.cl_Road T.m_Road_close (ok_Road_close T) (hr.mono (by decide)) T.b_Road_close .nil pass0 (pa_cons (pe_ix ix_list (pv 2) pe_int (fun _ _ => rfl)) pa_nil)) pa_nil))))
 pss_nil)
 (pss_cons (ps_if (pt_cmpR op_eq (pv 1) (pe_gc rfl T.g_BEST) (nomark _))
 (pss_one (ps_ret (pe_call (ok_best T) (hr.mono (by decide)) rfl T.m_best T.F_best.kp T.b_best .nil pass0 (pa_cons (pv 0) pa_nil))))
 pss_nil)
 (pss_cons (ps_set (i := 3) S.nd rfl (Or.inl rfl) (pe_call (ok_row_end T) (hr.mono (by decide)) rfl T.m_row_end T.F_row_end.kp T.b_row_end .nil pass0 (pa_cons (pv 2) (pa_cons pe_int pa_nil))))
 (pss_one (ps_ret (pe_call (ok_check T) (hr.mono (by decide)) rfl T.m_check T.F_check.kp T.b_check .nil pass0 (pa_cons (pv 0) (pa_cons (pe_slice sl_list (pv 2) (po_some pe_int) (po_some (pv 3))) (pa_cons (pe_call (ok_in_threes T) (hr.mono (by decide)) rfl T.m_in_threes T.F_in_threes.kp T.b_in_threes .nil pass0 (pa_cons (pe_slice sl_list (pv 2) (po_some (pe_op op_add (pv 3) pe_int)) po_none) pa_nil)) pa_nil)))))))))))))), ?_⟩
    have fin : ∀ {H' : Hp} {lg' lf' lp' r : Addr} {x : V}, RoadAt t.C_Road H' p lg' lf' lp' (Uw17.step b c).1 → Fr H H' [p, lg, lf, lp] → (∀ x, x ∈ [lg', lf', lp'] → x ∈ [lg, lf, lp] ∨ H x = none) → x = .int (Uw17.step b c).2.v → (Uw17.step b c).2.l = [] → H' r = none → Q (.ref r) (upd H' r (.lst [x])) := by
      intro H' lg' lf' lp' r x R' fr fs ex el hr'
      refine k _ lg' lf' lp' r (R'.same (Same.new hr')) (fr.upd (.inr (fr.free r hr'))) fs (fr.free r hr') (R'.off hr') ?_
      rw [upd_same, ex]
      unfold ansV
      rw [el]
      rfl
    have pure' : (Uw17.step b c).1 = b → ∀ H' r, Same H H' → H r = none → H' r = some (.lst (ansV (Uw17.step b c).2)) → Q (.ref r) H' := fun e H' r sm hr0 hr1 => by
      rw [e] at k
      exact k H' lg lf lp r (R.same sm) (Fr.of_same sm) (fun x hx => .inl hx) hr0 (R.off hr0) hr1
    cases c with
    | begins s t d f =>
      refine ⟨_, rfl, rfl, _, rfl, iteD rfl ?_⟩
      refine ⟨_, rfl, p, dx, _, rfl, hp, rfl, _, rfl, n, _, _, _, rfl, rfl, SqL.of hn, atI_nat (j := 0) rfl, _, rfl, n, _, _, _, rfl, rfl, SqL.of hn, atI_nat (j := 1) rfl, _, rfl, n, _, _, _, rfl, rfl, SqL.of hn, atI_nat (j := 2) rfl, _, rfl, n, _, _, _, rfl, rfl, SqL.of hn, atI_nat (j := 3) rfl, ?_⟩
      exact ⟨p, b, s, t, d, f, rfl, lg, lf, lp, R, fun H' lg' lf' lp' R' fr fs => ⟨one1, fun r hr' => fin R' fr fs rfl l_begins hr'⟩⟩
    | point g =>
      refine ⟨_, rfl, rfl, _, rfl, iteDn (int_ne (by show ((1 : Nat) : Int) ≠ 0; decide)) ?_⟩
      refine ⟨_, rfl, rfl, _, rfl, iteD rfl ?_⟩
      refine ⟨_, rfl, p, dx, _, rfl, hp, rfl, _, rfl, n, _, _, _, rfl, rfl, SqL.of hn, atI_nat (j := 0) rfl, ?_⟩
      exact ⟨p, b, g, rfl, lg, lf, lp, R, fun H' lg' lf' lp' R' fr fs => ⟨one1, fun r hr' => fin R' fr fs rfl (l_point R.ok) hr'⟩⟩
    | fix i h =>
      refine ⟨_, rfl, rfl, _, rfl, iteDn (int_ne (by show ((2 : Nat) : Int) ≠ 0; decide)) ?_⟩
      refine ⟨_, rfl, rfl, _, rfl, iteDn (int_ne (by show ((2 : Nat) : Int) ≠ 1; decide)) ?_⟩
      refine ⟨_, rfl, rfl, _, rfl, iteD rfl ?_⟩
      refine ⟨_, rfl, p, dx, _, rfl, hp, rfl, _, rfl, n, _, _, _, rfl, rfl, SqL.of hn, atI_nat (j := 0) rfl, _, rfl, n, _, _, _, rfl, rfl, SqL.of hn, atI_nat (j := 1) rfl, ?_⟩
      exact ⟨p, b, i, h, rfl, lg, lf, lp, R, fun H' lg' lf' lp' R' fr fs => ⟨one1, fun r hr' => fin R' fr fs rfl l_fix hr'⟩⟩
    | free i =>
      refine ⟨_, rfl, rfl, _, rfl, iteDn (int_ne (by show ((3 : Nat) : Int) ≠ 0; decide)) ?_⟩
      refine ⟨_, rfl, rfl, _, rfl, iteDn (int_ne (by show ((3 : Nat) : Int) ≠ 1; decide)) ?_⟩
      refine ⟨_, rfl, rfl, _, rfl, iteDn (int_ne (by show ((3 : Nat) : Int) ≠ 2; decide)) ?_⟩
      refine ⟨_, rfl, rfl, _, rfl, iteD rfl ?_⟩
      refine ⟨_, rfl, p, dx, _, rfl, hp, rfl, _, rfl, n, _, _, _, rfl, rfl, SqL.of hn, atI_nat (j := 0) rfl, ?_⟩
      exact ⟨p, b, i, rfl, lg, lf, lp, R, fun H' lg' lf' lp' R' fr fs => ⟨one1, fun r hr' => fin R' fr fs rfl l_free hr'⟩⟩
    | pit i tp fe =>
      refine ⟨_, rfl, rfl, _, rfl, iteDn (int_ne (by show ((4 : Nat) : Int) ≠ 0; decide)) ?_⟩
      refine ⟨_, rfl, rfl, _, rfl, iteDn (int_ne (by show ((4 : Nat) : Int) ≠ 1; decide)) ?_⟩
      refine ⟨_, rfl, rfl, _, rfl, iteDn (int_ne (by show ((4 : Nat) : Int) ≠ 2; decide)) ?_⟩
      refine ⟨_, rfl, rfl, _, rfl, iteDn (int_ne (by show ((4 : Nat) : Int) ≠ 3; decide)) ?_⟩
      refine ⟨_, rfl, rfl, _, rfl, iteD rfl ?_⟩
      refine ⟨_, rfl, p, dx, _, rfl, hp, rfl, _, rfl, n, _, _, _, rfl, rfl, SqL.of hn, atI_nat (j := 0) rfl, _, rfl, n, _, _, _, rfl, rfl, SqL.of hn, atI_nat (j := 1) rfl, _, rfl, n, _, _, _, rfl, rfl, SqL.of hn, atI_nat (j := 2) rfl, ?_⟩
      exact ⟨p, b, i, tp, fe, rfl, lg, lf, lp, R, fun H' lg' lf' lp' R' fr fs => ⟨one1, fun r hr' => fin R' fr fs rfl l_pit hr'⟩⟩
    | close i =>
      refine ⟨_, rfl, rfl, _, rfl, iteDn (int_ne (by show ((5 : Nat) : Int) ≠ 0; decide)) ?_⟩
      refine ⟨_, rfl, rfl, _, rfl, iteDn (int_ne (by show ((5 : Nat) : Int) ≠ 1; decide)) ?_⟩
      refine ⟨_, rfl, rfl, _, rfl, iteDn (int_ne (by show ((5 : Nat) : Int) ≠ 2; decide)) ?_⟩
      refine ⟨_, rfl, rfl, _, rfl, iteDn (int_ne (by show ((5 : Nat) : Int) ≠ 3; decide)) ?_⟩
      refine ⟨_, rfl, rfl, _, rfl, iteDn (int_ne (by show ((5 : Nat) : Int) ≠ 4; decide)) ?_⟩
      refine ⟨_, rfl, rfl, _, rfl, iteD rfl ?_⟩
      refine ⟨_, rfl, p, dx, _, rfl, hp, rfl, _, rfl, n, _, _, _, rfl, rfl, SqL.of hn, atI_nat (j := 0) rfl, ?_⟩
      exact ⟨p, b, i, rfl, lg, lf, lp, R, fun H' lg' lf' lp' R' fr fs => ⟨one1, fun r hr' => fin R' fr fs rfl l_close hr'⟩⟩
    | best =>
      refine ⟨_, rfl, rfl, _, rfl, iteDn (int_ne (by show ((6 : Nat) : Int) ≠ 0; decide)) ?_⟩
      refine ⟨_, rfl, rfl, _, rfl, iteDn (int_ne (by show ((6 : Nat) : Int) ≠ 1; decide)) ?_⟩
      refine ⟨_, rfl, rfl, _, rfl, iteDn (int_ne (by show ((6 : Nat) : Int) ≠ 2; decide)) ?_⟩
      refine ⟨_, rfl, rfl, _, rfl, iteDn (int_ne (by show ((6 : Nat) : Int) ≠ 3; decide)) ?_⟩
      refine ⟨_, rfl, rfl, _, rfl, iteDn (int_ne (by show ((6 : Nat) : Int) ≠ 4; decide)) ?_⟩
      refine ⟨_, rfl, rfl, _, rfl, iteDn (int_ne (by show ((6 : Nat) : Int) ≠ 5; decide)) ?_⟩
      refine ⟨_, rfl, rfl, _, rfl, iteD rfl ?_⟩
      exact ⟨_, rfl, p, lg, lf, lp, b, rfl, R, fun H' r sm hr0 hr1 => pure' (by rw [step_best]) H' r sm hr0 hr1⟩
    | check l pl =>
      obtain ⟨h20, h40, _, _⟩ := hc
      refine ⟨_, rfl, rfl, _, rfl, iteDn (int_ne (by show ((7 : Nat) : Int) ≠ 0; decide)) ?_⟩
      refine ⟨_, rfl, rfl, _, rfl, iteDn (int_ne (by show ((7 : Nat) : Int) ≠ 1; decide)) ?_⟩
      refine ⟨_, rfl, rfl, _, rfl, iteDn (int_ne (by show ((7 : Nat) : Int) ≠ 2; decide)) ?_⟩
      refine ⟨_, rfl, rfl, _, rfl, iteDn (int_ne (by show ((7 : Nat) : Int) ≠ 3; decide)) ?_⟩
      refine ⟨_, rfl, rfl, _, rfl, iteDn (int_ne (by show ((7 : Nat) : Int) ≠ 4; decide)) ?_⟩
      refine ⟨_, rfl, rfl, _, rfl, iteDn (int_ne (by show ((7 : Nat) : Int) ≠ 5; decide)) ?_⟩
      refine ⟨_, rfl, rfl, _, rfl, iteDn (int_ne (by show ((7 : Nat) : Int) ≠ 6; decide)) ?_⟩
      have hn' : H n = some (.lst (nV (l.length :: (l ++ (haulE pl).length :: haulE pl)))) := hn
      have nl : (nV (l.length :: (l ++ (haulE pl).length :: haulE pl))).length = l.length + (haulE pl).length + 2 := by
        rw [nV_len, List.length_cons, List.length_append, List.length_cons]
        omega
      -- line_end = row_end(numbers, 0)
      refine ⟨_, rfl, n, _, 0, (l.length : Int), rfl, SqL.of hn', rfl, ?_⟩
      have z : ((0 : Nat) : Int) + 1 + (l.length : Int) = ((l.length + 1 : Nat) : Int) := by omega
      rw [z]
      refine ⟨_, rfl, _, rfl, _, rfl, _, rfl, _, rfl, n, _, rfl, SqL.of hn', fun q1 h1 => ?_⟩
      have c1 : cutV (nV (l.length :: (l ++ (haulE pl).length :: haulE pl))) (some 1) (some ((l.length + 1 : Nat) : Int)) = nV l := by
        have := cut_eq (nV (l.length :: (l ++ (haulE pl).length :: haulE pl))) (a := 1) (b := l.length + 1) (by omega) (by omega)
        rw [show ((1 : Nat) : Int) = 1 from rfl] at this
        rw [this, nV_cut, Nat.add_sub_cancel, List.drop_one, List.tail_cons, List.take_left]
      rw [c1]
      have n1 : (upd H q1 (.lst (nV l))) n = some (.lst (nV (l.length :: (l ++ (haulE pl).length :: haulE pl)))) := Same.new h1 _ _ hn'
      refine ⟨_, rfl, _, rfl, _, _, rfl, rfl, _, rfl, n, _, rfl, SqL.of n1, fun q2 h2 => ?_⟩
      have z2 : ((l.length + 1 : Nat) : Int) + 1 = ((l.length + 2 : Nat) : Int) := by omega
      have c2 : cutV (nV (l.length :: (l ++ (haulE pl).length :: haulE pl))) (some (((l.length + 1 : Nat) : Int) + 1)) none = nV (haulE pl) := by
        rw [z2, cut_from _ (by omega)]
        show List.drop (l.length + 2) ((l.length :: (l ++ (haulE pl).length :: haulE pl)).map fun (n : Nat) => V.int n) = nV (haulE pl)
        rw [← List.map_drop]
        show nV (List.drop (l.length + 1) (l ++ (haulE pl).length :: haulE pl)) = _
        rw [List.drop_append, List.drop_of_length_le (by omega), show l.length + 1 - l.length = 1 by omega]
        rfl
      rw [c2]
      have s2 : Same H (upd (upd H q1 (.lst (nV l))) q2 (.lst (nV (haulE pl)))) := (Same.new h1).trans (Same.new h2)
      have q12 : q1 ≠ q2 := ne_of_none upd_same h2
      refine ⟨q2, pl, rfl, SqL.of upd_same, h40, fun H3 r3 s3 hh => ?_⟩
      have s3' := s2.trans s3
      have l3 : H3 q1 = some (.lst (nV l)) := s3 _ _ ((upd_ne q12).trans upd_same)
      exact ⟨p, lg, lf, lp, b, q1, l, r3, pl, rfl, R.same s3', SqL.of l3, h20, hh, h40, fun H4 r4 s4 hr0 hr1 => pure' (step_check1 b l pl) H4 r4 (s3'.trans s4) (s3'.free hr0) hr1⟩
end

end RL

end
section
set_option Elab.async false
set_option linter.all false
set_option maxRecDepth 100000
set_option maxHeartbeats 2000000
namespace RL
open PySem PySem.Spec PyProof.Rows L2
section
variable {P : Program} {w : World} {K : PySem.W.Frag} {mg : Str → Option Value} {base : Heap} {t : Adr}
def spAnswers (K : PySem.W.Frag) : Sp := fun vs H Q _ => ∃ a cs, vs = [.ref a] ∧ SqL K H a ((encs cs).map V.int) ∧ cs.length ≤ 60 ∧ (∀ c ∈ cs, CallOk c) ∧ ∀ H' g, H' g = some (.lst ((told Uw17.init cs).map V.int)) → Q (.ref g) H'
theorem ok_answers (T : Txt K mg t) : FnOk P w K mg base CX0 13 t.f_answers t.d_answers ["calls"] (spAnswers K) := by
  have S := sc_answers
  refine T.F_answers.ok S (fun vs H Q E h => ?_) (fun cdv A outer s H vs Q E hr h => ?_)
  · obtain ⟨a, cs, rfl, _⟩ := h
    rfl
  · obtain ⟨a, cs, rfl, hS, h60, h4, k⟩ := h
    refine ⟨_, (pss_cons (ps_set (i := 1) S.nd rfl (Or.inl rfl) (pe_make0 T.mk_Road (ok_Road_init T) (hr.mono (by decide)) rfl T.c_Road T.b_Road_init .nil pass0))
 (pss_cons (ps_set (i := 2) S.nd rfl (Or.inl rfl) (pe_lst pa_nil))
 (pss_cons (ps_set (i := 3) S.nd rfl (Or.inl rfl) pe_int)
 (pss_cons (ps_while PassesOwn.never (pt_cmpR op_lt (pv 3) (pe_callB call_len_seq (by rfl) T.n_len PySem.boot_len (pa_cons (pv 0) pa_nil)) (nomark _))
 (pss_cons (ps_set (i := 4) S.nd rfl (Or.inl rfl) (pe_call (ok_call_end T) (hr.mono (by decide)) rfl T.m_call_end T.F_call_end.kp T.b_call_end .nil pass0 (pa_cons (pv 0) (pa_cons (pv 3) pa_nil))))
 (pss_cons (ps_set (i := 5) S.nd rfl (Or.inl rfl) (pe_call (ok_answer T) (hr.mono (by decide)) rfl T.m_answer T.F_answer.kp T.b_answer .nil pass0 (pa_cons (pv 1) (pa_cons (pe_ix ix_list (pv 0) (pv 3) (fun _ _ => rfl)) (pa_cons (pe_slice sl_list (pv 0) (po_some (pe_op op_add (pv 3) pe_int)) (po_some (pv 4))) pa_nil)))))
 (pss_cons (ps_expr (pe_bm PySem.F.plainAttrs_list PySem.F.slot_list_append PySem.F.type_list_append mt_append (pv 2) (pa_cons (pe_callB call_len_seq (by rfl) T.n_len PySem.boot_len (pa_cons (pv 5) pa_nil)) pa_nil)))
 (pss_cons (ps_expr (pe_bm PySem.F.plainAttrs_list PySem.F.slot_list_extend PySem.F.type_list_extend mt_extend (pv 2) (pa_cons (pv 5) pa_nil)))
 (pss_one (ps_set (i := 3) S.nd rfl (Or.inl rfl) (pv 4))))))))
 (pss_one (ps_ret (pv 2))))))), ?_⟩
    -- road = Road()
    intro x dx nx ndx nex
    refine ⟨x, dx, rfl, upd_same, fun H1 lg lf lp R fr n1 n2 n3 => ⟨rfl, ?_⟩⟩
    have s1 : Same H H1 := fun y o e => fr.keep y o (by rw [upd_ne (ne_of_none e nx), upd_ne (ne_of_none e ndx)]; exact e) (fun z => ne_of_none e nx (List.mem_singleton.mp z))
    have n1' : H lg = none := upd_free (upd_free n1)
    have n2' : H lf = none := upd_free (upd_free n2)
    have n3' : H lp = none := upd_free (upd_free n3)
    -- given = []; start = 0
    refine ⟨Nat.zero_le _, fun g hg => ?_⟩
    have sg : Same H (upd H1 g (.lst [])) := s1.trans (Same.new hg)
    refine ⟨fun m σ H' => ∃ pre post lg lf lp v4 v5, cs = pre ++ post ∧ post.length = m ∧ σ = [some (.ref a), some (.ref x), some (.ref g), some (.int ((encs pre).length : Nat)), v4, v5] ∧ Same H H' ∧
      RoadAt t.C_Road H' x lg lf lp (run Uw17.init pre) ∧ H' g = some (.lst ((told Uw17.init pre).map V.int)) ∧ H lg = none ∧ H lf = none ∧ H lp = none ∧ g ∉ [x, lg, lf, lp], ⟨cs.length, [], cs, lg, lf, lp, none, none, rfl, rfl, rfl, sg, R.same (Same.new hg), upd_same, n1', n2', n3', R.off hg⟩, ?_⟩
    rintro m σ H' ⟨pre, post, lg, lf, lp, v4, v5, ecs, rfl, rfl, sm, R, hgv, nlg, nlf, nlp, gn⟩
    have hS' := sm.seq hS
    refine ⟨_, rfl, _, rfl, a, _, rfl, .inl hS', _, _, rfl, rfl, _, rfl, ite2 (fun h => ?_) (fun h => ?_)⟩
    · -- a turn
      have lt : (encs pre).length < (encs cs).length := by
        have := of_decide_eq_true h
        rw [List.length_map] at this
        omega
      cases post with
      | nil =>
        rw [ecs, List.append_nil] at lt
        omega
      | cons c post =>
        have c4 : CallOk c := h4 c (by rw [ecs]; simp)
        have hlen : (encs cs).length = (encs pre).length + (enc c).length + (encs post).length := by rw [ecs]; exact encs_len
        have hel : (enc c).length = (args c).length + 1 := by rw [enc_split]; rfl
        refine ⟨fun σ' H'' => ∃ pre' post' lg lf lp v4 v5, cs = pre' ++ post' ∧ post'.length = post.length ∧ σ' = [some (.ref a), some (.ref x), some (.ref g), some (.int ((encs pre').length : Nat)), v4, v5] ∧ Same H H'' ∧
          RoadAt t.C_Road H'' x lg lf lp (run Uw17.init pre') ∧ H'' g = some (.lst ((told Uw17.init pre').map V.int)) ∧ H lg = none ∧ H lf = none ∧ H lp = none ∧ g ∉ [x, lg, lf, lp], fun σ' H'' w => ⟨post.length, Nat.lt_succ_self _, w⟩, ?_⟩
        have at0 : ((encs cs).map V.int)[(encs pre).length]? = some (V.int (kind c : Nat)) := by
          rw [List.getElem?_map, ecs]
          have := enc_at (pre := pre) (post := post) (c := c) (j := 0) (n := kind c) (by rw [enc_split]; rfl)
          rw [Nat.add_zero] at this
          rw [this]
          rfl
        -- end = call_end(calls, start)
        refine ⟨_, rfl, _, rfl, a, cs, pre, c, post, rfl, ecs, hS', ?_⟩
        -- answered = answer(road, calls[start], calls[start + 1:end])
        refine ⟨_, rfl, _, rfl, _, rfl, a, _, _, _, rfl, rfl, hS', atI_nat at0, _, rfl, _, rfl, _, _, rfl, rfl, _, rfl, _, rfl, _, rfl, a, _, rfl, hS', fun n hn => ?_⟩
        have e1 : ((encs pre).length : Int) + 1 = (((encs pre).length + 1 : Nat) : Int) := by omega
        have cut : cutV ((encs cs).map V.int) (some (((encs pre).length : Int) + 1)) (some (((encs pre).length + (enc c).length : Nat) : Int)) = nV (args c) := by
          rw [e1, cut_eq _ (by omega) (by rw [List.length_map]; omega)]
          rw [← List.map_drop, ← List.map_take, ecs]
          have := enc_piece (pre := pre) (post := post) (c := c) (a := [kind c]) (m := args c) (b := []) (by rw [List.append_nil]; exact enc_split c)
          rw [show (encs pre).length + (enc c).length - ((encs pre).length + 1) = (args c).length by omega]
          rw [show ([kind c] : List Nat).length = 1 from rfl] at this
          rw [this]
          unfold iz nV
          rw [List.map_map]
          rfl
        rw [cut]
        have ng1 : g ≠ n := ne_of_none hgv hn
        have smn : Same H' (upd H' n (.lst (nV (args c)))) := Same.new hn
        refine ⟨x, lg, lf, lp, n, run Uw17.init pre, c, rfl, c4, upd_same, R.same smn, fun H2 lg2 lf2 lp2 r R2 fr2 fs2 nr ne hr2' => ?_⟩
        have hg2 : H2 g = some (.lst ((told Uw17.init pre).map V.int)) := fr2.keep g _ ((upd_ne ng1).trans hgv) gn
        have gr : g ≠ r := fun q => by
          rw [← q, upd_ne ng1, hgv] at nr
          cases nr
        have tl := told_len pre ok_init
        have hpl : pre.length ≤ 60 := by
          rw [ecs, List.length_append] at h60
          omega
        have al := ans_len R.ok c
        -- given.append(len(answered))
        refine ⟨_, rfl, .inl ⟨rfl, _, SqL.of hg2⟩, _, rfl, r, _, rfl, .inl (SqL.of hr2'), g, _, _, rfl, rfl, hg2, small1000 (by rw [List.length_map]; omega), ?_⟩
        have hr3 : (upd H2 g (.lst ((told Uw17.init pre).map V.int ++ [V.int ((ansV (Uw17.step (run Uw17.init pre) c).2).length : Nat)]))) r = some (.lst (ansV (Uw17.step (run Uw17.init pre) c).2)) := (upd_ne gr.symm).trans hr2'
        -- given.extend(answered)
        refine ⟨_, rfl, .inl ⟨rfl, _, SqL.of upd_same⟩, _, rfl, g, r, _, _, rfl, rfl, upd_same, hr3, Nat.le_of_lt (small1000 (by rw [List.length_append, List.length_map]; unfold ansV; rw [iV_len]; show (told Uw17.init pre).length + 1 + ((Uw17.step (run Uw17.init pre) c).2.l.length + 1) ≤ 1000; omega)), ?_⟩
        -- start = end
        refine ⟨_, rfl, ?_⟩
        have g2 : g ∉ [x, lg2, lf2, lp2] := by
          simp only [List.mem_cons, List.not_mem_nil, or_false, not_or] at gn ⊢
          have no : ∀ y, y ∈ [lg2, lf2, lp2] → g ≠ y := fun y hy q => by
            rcases fs2 y hy with z | z
            · simp only [List.mem_cons, List.not_mem_nil, or_false] at z
              rcases z with z | z | z
              · exact gn.2.1 (q.trans z)
              · exact gn.2.2.1 (q.trans z)
              · exact gn.2.2.2 (q.trans z)
            · rw [← q, upd_ne ng1, hgv] at z
              cases z
          exact ⟨gn.1, no lg2 (by simp), no lf2 (by simp), no lp2 (by simp)⟩
        have new : ∀ y, y ∈ [lg2, lf2, lp2] → H y = none := fun y hy => by
          rcases fs2 y hy with z | z
          · simp only [List.mem_cons, List.not_mem_nil, or_false] at z
            rcases z with rfl | rfl | rfl
            · exact nlg
            · exact nlf
            · exact nlp
          · exact sm.free (upd_free z)
        have hgH : H g = none := s1.free hg
        refine ⟨pre ++ [c], post, lg2, lf2, lp2, some (.int (((encs pre).length + (enc c).length : Nat) : Int)), some (.ref r), by rw [ecs]; simp, rfl, ?_, fun y o e => ?_, ?_, ?_, new lg2 (by simp), new lf2 (by simp), new lp2 (by simp), g2⟩
        · rw [encs_snoc, List.length_append, iz_length]
          rfl
        · have y1 : y ≠ g := fun q => by rw [q, hgH] at e; cases e
          rw [upd_ne y1, upd_ne y1]
          refine fr2.keep y o (smn _ _ (sm y o e)) ?_
          simp only [List.mem_cons, List.not_mem_nil, or_false, not_or]
          refine ⟨fun q => ?_, fun q => ?_, fun q => ?_, fun q => ?_⟩
          · rw [q, nx] at e; cases e
          · rw [q, nlg] at e; cases e
          · rw [q, nlf] at e; cases e
          · rw [q, nlp] at e; cases e
        · rw [run_snoc]
          simp only [List.mem_cons, List.not_mem_nil, or_false, not_or] at g2
          have q1 : x ≠ g := fun q => g2.1 q.symm
          have q2 : lg2 ≠ g := fun q => g2.2.1 q.symm
          have q3 : lf2 ≠ g := fun q => g2.2.2.1 q.symm
          have q4 : lp2 ≠ g := fun q => g2.2.2.2 q.symm
          refine R2.keep ((upd_ne q1).trans (upd_ne q1)) ((upd_ne q2).trans (upd_ne q2)) ((upd_ne q3).trans (upd_ne q3)) ((upd_ne q4).trans (upd_ne q4)) ?_
          have nt := no_tup hg2 (by intro _ q; cases q)
          exact ((Tups.refl H2).upd nt).upd nt
        · rw [upd_same, told_snoc, List.map_append]
          refine congrArg (fun l => some (HO.lst l)) ?_
          rw [List.append_assoc]
          congr 1
          unfold ansV
          rw [iV_len]
          rfl
    · -- the end
      have e : post = [] := by
        cases post with
        | nil => rfl
        | cons c post =>
          exfalso
          apply h
          refine decide_eq_true ?_
          have := enc_pos c
          have hlen : (encs cs).length = (encs pre).length + (enc c).length + (encs post).length := by rw [ecs]; exact encs_len
          rw [List.length_map]
          omega
      subst e
      rw [List.append_nil] at ecs
      subst ecs
      exact ⟨_, rfl, k _ g hgv⟩
end

end RL

end
section
set_option Elab.async false
set_option linter.all false
set_option maxRecDepth 100000
set_option maxHeartbeats 2000000
open PySem PySem.W PyProof.Rows
/-! The head makes a twin of every own text it meets, for speed. These four it either never uses or needs not: the program's own is the program itself; the other three names are taken, so that the head goes its slower way. -/
noncomputable def PySem.W.Fast.tw10719465544773728691 : PySem.Program := PySem.Challenge.pw_roadlaid_s01_answers
theorem PySem.W.Fast.te10719465544773728691 : PySem.Challenge.pw_roadlaid_s01_answers = PySem.W.Fast.tw10719465544773728691 := rfl
def PySem.W.Fast.tw3785481955076593399 : Nat := 0
theorem PySem.W.Fast.te3785481955076593399 : PySem.W.Fast.tw3785481955076593399 = 0 := rfl
def PySem.W.Fast.tw16129271593841474889 : Nat := 0
theorem PySem.W.Fast.te16129271593841474889 : PySem.W.Fast.tw16129271593841474889 = 0 := rfl
def PySem.W.Fast.tw10894737940175695045 : Nat := 0
theorem PySem.W.Fast.te10894737940175695045 : PySem.W.Fast.tw10894737940175695045 = 0 := rfl
set_option maxRecDepth 100000 in
set_option maxHeartbeats 0 in
theorem PySem.Challenge.cw_roadlaid_s01_answers_holds : PySem.Challenge.rw_roadlaid_s01_answers.Holds := by
  w_on; k_headS; (case hw => exact ⟨[.list [.int 6]], by decide +kernel, by decide +kernel⟩)
  k_fillS
  refine L2.walk_specK (r := PySem.Challenge.rw_roadlaid_s01_answers) (k := 13) (CX := L2.CX0) (ps := ["calls"]) (sp := RL.spAnswers) (by decide +kernel) rfl rfl ⟨rfl, by decide, by decide⟩ (fun w h Y => PySem.W.kIn_of Y) ?F ?S (fun _ _ _ _ z => z)
  case F =>
    intro w mg fa h Y KX G hmg
    have T : ∃ t : RL.Adr, RL.Txt (L2.KOf KX) mg t ∧ ∀ (s : Shared) (us : List Value), us.length = (["calls"] : List Str).length → BindsTo s t.d_answers ⟨us, []⟩ ((["calls"] : List Str).zip us) := by
      dsimp only [L2.KOf]
      refine' RL.txt_mk KX G ?aC_Road ?a_first_wrong ?l_first_wrong ?c_first_wrong ?k_first_wrong ?a_fixed_otherwise ?l_fixed_otherwise ?c_fixed_otherwise ?k_fixed_otherwise ?a_too_steep ?l_too_steep ?c_too_steep ?k_too_steep ?a_bends_too_much ?l_bends_too_much ?c_bends_too_much ?k_bends_too_much ?a_units_over ?l_units_over ?c_units_over ?k_units_over ?a_line_cost ?l_line_cost ?c_line_cost ?k_line_cost ?a_priced ?l_priced ?c_priced ?k_priced ?a_units_left ?l_units_left ?c_units_left ?k_units_left ?a_carrying_cost ?l_carrying_cost ?c_carrying_cost ?k_carrying_cost ?a_may_be_left ?l_may_be_left ?c_may_be_left ?k_may_be_left ?a_pit_cost ?l_pit_cost ?c_pit_cost ?k_pit_cost ?a_Road_init ?i_Road_init ?l_Road_init ?c_Road_init ?k_Road_init ?a_Road_begins ?i_Road_begins ?l_Road_begins ?c_Road_begins ?k_Road_begins ?a_Road_add_point ?i_Road_add_point ?l_Road_add_point ?c_Road_add_point ?k_Road_add_point ?a_Road_fix ?i_Road_fix ?l_Road_fix ?c_Road_fix ?k_Road_fix ?a_Road_free ?i_Road_free ?l_Road_free ?c_Road_free ?k_Road_free ?a_Road_pit ?i_Road_pit ?l_Road_pit ?c_Road_pit ?k_Road_pit ?a_Road_close ?i_Road_close ?l_Road_close ?c_Road_close ?k_Road_close ?a_Road_take_away ?i_Road_take_away ?l_Road_take_away ?c_Road_take_away ?k_Road_take_away ?a_Road_has_point ?i_Road_has_point ?l_Road_has_point ?c_Road_has_point ?k_Road_has_point ?a_check ?l_check ?c_check ?k_check ?a_line_allowed ?l_line_allowed ?c_line_allowed ?k_line_allowed ?a_hauls_allowed ?l_hauls_allowed ?c_hauls_allowed ?k_hauls_allowed ?a_haul_allowed ?l_haul_allowed ?c_haul_allowed ?k_haul_allowed ?a_best ?l_best ?c_best ?k_best ?a_lines_built ?l_lines_built ?c_lines_built ?k_lines_built ?a_longer_ends ?l_longer_ends ?c_longer_ends ?k_longer_ends ?a_fits_ahead ?l_fits_ahead ?c_fits_ahead ?k_fits_ahead ?a_costs_past_the_last ?l_costs_past_the_last ?c_costs_past_the_last ?k_costs_past_the_last ?a_costs_at_point ?l_costs_at_point ?c_costs_at_point ?k_costs_at_point ?a_cheapened ?l_cheapened ?c_cheapened ?k_cheapened ?a_costs_ahead ?l_costs_ahead ?c_costs_ahead ?k_costs_ahead ?a_earliest_way ?l_earliest_way ?c_earliest_way ?k_earliest_way ?a_costs_along ?l_costs_along ?c_costs_along ?k_costs_along ?a_fewest_onwards ?l_fewest_onwards ?c_fewest_onwards ?k_fewest_onwards ?a_answers ?l_answers ?c_answers ?k_answers ?a_call_end ?l_call_end ?c_call_end ?k_call_end ?a_row_end ?l_row_end ?c_row_end ?k_row_end ?a_answer ?l_answer ?c_answer ?k_answer ?a_in_threes ?l_in_threes ?c_in_threes ?k_in_threes ?pg_Road ?hd_Road ?po_Road ?sa_Road ?mk_Road ?kc_Road ?n_Road_steep ?n_Road_bend ?n_Road_dig ?n_Road_fill ?n_Road_grounds ?n_Road_fixed ?n_Road_pits ?g_OTHER_HEIGHT_FIXED ?g_TOO_STEEP ?g_BENT_TOO_MUCH ?g_MOST_STEEP ?g_MOST_BEND ?g_MOST_PRICE ?g_MOST_HEIGHT ?g_MOST_POINTS ?g_NOT_ALLOWED ?g_NO_SUCH_POINT ?g_NOTHING_THERE ?g_NO_ROOM ?g_MOST_HAULS ?g_MOST_UNITS ?g_WRONG_LINE ?g_WRONG_HAULS ?g_NO_RIGHT_LINE ?g_REACH ?g_NEVER ?g_BEGINS ?g_POINT ?g_FIX ?g_FREE ?g_PIT ?g_CLOSE ?g_BEST ?g_CHECK ?g_NUMBERS_BEHIND ?l_NUMBERS_BEHIND ?n_len ?n_range ?n_abs ?n_min ?n_sum ?n_list ?n_reversed ?n_enumerate ?n_zip ?n_all
      (case aC_Road => k_is)
      (case a_first_wrong => k_is)
      (case l_first_wrong => k_is)
      (case c_first_wrong => k_is)
      (case k_first_wrong => k_is)
      (case a_fixed_otherwise => k_is)
      (case l_fixed_otherwise => k_is)
      (case c_fixed_otherwise => k_is)
      (case k_fixed_otherwise => k_is)
      (case a_too_steep => k_is)
      (case l_too_steep => k_is)
      (case c_too_steep => k_is)
      (case k_too_steep => k_is)
      (case a_bends_too_much => k_is)
      (case l_bends_too_much => k_is)
      (case c_bends_too_much => k_is)
      (case k_bends_too_much => k_is)
      (case a_units_over => k_is)
      (case l_units_over => k_is)
      (case c_units_over => k_is)
      (case k_units_over => k_is)
      (case a_line_cost => k_is)
      (case l_line_cost => k_is)
      (case c_line_cost => k_is)
      (case k_line_cost => k_is)
      (case a_priced => k_is)
      (case l_priced => k_is)
      (case c_priced => k_is)
      (case k_priced => k_is)
      (case a_units_left => k_is)
      (case l_units_left => k_is)
      (case c_units_left => k_is)
      (case k_units_left => k_is)
      (case a_carrying_cost => k_is)
      (case l_carrying_cost => k_is)
      (case c_carrying_cost => k_is)
      (case k_carrying_cost => k_is)
      (case a_may_be_left => k_is)
      (case l_may_be_left => k_is)
      (case c_may_be_left => k_is)
      (case k_may_be_left => k_is)
      (case a_pit_cost => k_is)
      (case l_pit_cost => k_is)
      (case c_pit_cost => k_is)
      (case k_pit_cost => k_is)
      (case a_Road_init => k_is)
      (case i_Road_init => k_is)
      (case l_Road_init => k_is)
      (case c_Road_init => k_is)
      (case k_Road_init => k_is)
      (case a_Road_begins => k_is)
      (case i_Road_begins => k_is)
      (case l_Road_begins => k_is)
      (case c_Road_begins => k_is)
      (case k_Road_begins => k_is)
      (case a_Road_add_point => k_is)
      (case i_Road_add_point => k_is)
      (case l_Road_add_point => k_is)
      (case c_Road_add_point => k_is)
      (case k_Road_add_point => k_is)
      (case a_Road_fix => k_is)
      (case i_Road_fix => k_is)
      (case l_Road_fix => k_is)
      (case c_Road_fix => k_is)
      (case k_Road_fix => k_is)
      (case a_Road_free => k_is)
      (case i_Road_free => k_is)
      (case l_Road_free => k_is)
      (case c_Road_free => k_is)
      (case k_Road_free => k_is)
      (case a_Road_pit => k_is)
      (case i_Road_pit => k_is)
      (case l_Road_pit => k_is)
      (case c_Road_pit => k_is)
      (case k_Road_pit => k_is)
      (case a_Road_close => k_is)
      (case i_Road_close => k_is)
      (case l_Road_close => k_is)
      (case c_Road_close => k_is)
      (case k_Road_close => k_is)
      (case a_Road_take_away => k_is)
      (case i_Road_take_away => k_is)
      (case l_Road_take_away => k_is)
      (case c_Road_take_away => k_is)
      (case k_Road_take_away => k_is)
      (case a_Road_has_point => k_is)
      (case i_Road_has_point => k_is)
      (case l_Road_has_point => k_is)
      (case c_Road_has_point => k_is)
      (case k_Road_has_point => k_is)
      (case a_check => k_is)
      (case l_check => k_is)
      (case c_check => k_is)
      (case k_check => k_is)
      (case a_line_allowed => k_is)
      (case l_line_allowed => k_is)
      (case c_line_allowed => k_is)
      (case k_line_allowed => k_is)
      (case a_hauls_allowed => k_is)
      (case l_hauls_allowed => k_is)
      (case c_hauls_allowed => k_is)
      (case k_hauls_allowed => k_is)
      (case a_haul_allowed => k_is)
      (case l_haul_allowed => k_is)
      (case c_haul_allowed => k_is)
      (case k_haul_allowed => k_is)
      (case a_best => k_is)
      (case l_best => k_is)
      (case c_best => k_is)
      (case k_best => k_is)
      (case a_lines_built => k_is)
      (case l_lines_built => k_is)
      (case c_lines_built => k_is)
      (case k_lines_built => k_is)
      (case a_longer_ends => k_is)
      (case l_longer_ends => k_is)
      (case c_longer_ends => k_is)
      (case k_longer_ends => k_is)
      (case a_fits_ahead => k_is)
      (case l_fits_ahead => k_is)
      (case c_fits_ahead => k_is)
      (case k_fits_ahead => k_is)
      (case a_costs_past_the_last => k_is)
      (case l_costs_past_the_last => k_is)
      (case c_costs_past_the_last => k_is)
      (case k_costs_past_the_last => k_is)
      (case a_costs_at_point => k_is)
      (case l_costs_at_point => k_is)
      (case c_costs_at_point => k_is)
      (case k_costs_at_point => k_is)
      (case a_cheapened => k_is)
      (case l_cheapened => k_is)
      (case c_cheapened => k_is)
      (case k_cheapened => k_is)
      (case a_costs_ahead => k_is)
      (case l_costs_ahead => k_is)
      (case c_costs_ahead => k_is)
      (case k_costs_ahead => k_is)
      (case a_earliest_way => k_is)
      (case l_earliest_way => k_is)
      (case c_earliest_way => k_is)
      (case k_earliest_way => k_is)
      (case a_costs_along => k_is)
      (case l_costs_along => k_is)
      (case c_costs_along => k_is)
      (case k_costs_along => k_is)
      (case a_fewest_onwards => k_is)
      (case l_fewest_onwards => k_is)
      (case c_fewest_onwards => k_is)
      (case k_fewest_onwards => k_is)
      (case a_answers => k_is)
      (case l_answers => k_is)
      (case c_answers => k_is)
      (case k_answers => k_is)
      (case a_call_end => k_is)
      (case l_call_end => k_is)
      (case c_call_end => k_is)
      (case k_call_end => k_is)
      (case a_row_end => k_is)
      (case l_row_end => k_is)
      (case c_row_end => k_is)
      (case k_row_end => k_is)
      (case a_answer => k_is)
      (case l_answer => k_is)
      (case c_answer => k_is)
      (case k_answer => k_is)
      (case a_in_threes => k_is)
      (case l_in_threes => k_is)
      (case c_in_threes => k_is)
      (case k_in_threes => k_is)
      (case pg_Road => k_is)
      (case hd_Road => k_is)
      (case po_Road => k_is)
      (case sa_Road => k_is)
      (case mk_Road => k_is)
      (case kc_Road => k_is)
      (case n_Road_steep => k_is)
      (case n_Road_bend => k_is)
      (case n_Road_dig => k_is)
      (case n_Road_fill => k_is)
      (case n_Road_grounds => k_is)
      (case n_Road_fixed => k_is)
      (case n_Road_pits => k_is)
      (case g_OTHER_HEIGHT_FIXED => k_is)
      (case g_TOO_STEEP => k_is)
      (case g_BENT_TOO_MUCH => k_is)
      (case g_MOST_STEEP => k_is)
      (case g_MOST_BEND => k_is)
      (case g_MOST_PRICE => k_is)
      (case g_MOST_HEIGHT => k_is)
      (case g_MOST_POINTS => k_is)
      (case g_NOT_ALLOWED => k_is)
      (case g_NO_SUCH_POINT => k_is)
      (case g_NOTHING_THERE => k_is)
      (case g_NO_ROOM => k_is)
      (case g_MOST_HAULS => k_is)
      (case g_MOST_UNITS => k_is)
      (case g_WRONG_LINE => k_is)
      (case g_WRONG_HAULS => k_is)
      (case g_NO_RIGHT_LINE => k_is)
      (case g_REACH => k_is)
      (case g_NEVER => k_is)
      (case g_BEGINS => k_is)
      (case g_POINT => k_is)
      (case g_FIX => k_is)
      (case g_FREE => k_is)
      (case g_PIT => k_is)
      (case g_CLOSE => k_is)
      (case g_BEST => k_is)
      (case g_CHECK => k_is)
      (case g_NUMBERS_BEHIND => k_is)
      (case l_NUMBERS_BEHIND => k_is)
      (case n_len => k_is)
      (case n_range => k_is)
      (case n_abs => k_is)
      (case n_min => k_is)
      (case n_sum => k_is)
      (case n_list => k_is)
      (case n_reversed => k_is)
      (case n_enumerate => k_is)
      (case n_zip => k_is)
      (case n_all => k_is)
    obtain ⟨t, T, hb⟩ := T
    have e := hmg.symm.trans T.m_answers
    cases e
    exact ⟨t.d_answers, hb, fun base _ _ => RL.ok_answers T⟩
  case S =>
    intro K H xs a hO hwi hask hx
    cases hx with
    | cons h1 h2 =>
      cases h2
      cases h1 with
      | lst hs ha =>
        have e := L2.ints_dw a.1 _ ha
        subst e
        obtain ⟨cs, e, _, h60, hok, ans⟩ := RL.asked_calls (l := a.1) hask
        refine ⟨_, cs, rfl, by rw [← e]; exact hs, h60, hok, fun H' p hp => ?_⟩
        have q : L2.DwAll K H' ((RL.told Uw17.init cs).map L2.V.int) ((PyUw17.answers a.1).map WData.int) := by
          rw [ans]
          exact L2.dw_ints _
        exact .lst (L2.SqL.of hp) q

end
